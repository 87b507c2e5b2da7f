/- Several texts in one, each with its own head. What is proved: what the parts say. Conditions: theirs. -/
import Derived.Test.YteaanpdckkmjoaaGreatDoorChkRJ
import Derived.Test.YteaanpdckkmjoaaGreatDoorTx5J
set_option linter.unusedVariables false
set_option linter.unusedSimpArgs false
set_option maxRecDepth 100000
set_option maxHeartbeats 8000000
namespace Go.Proofs.YteaanpdckkmjoaaGreatDoor
open Go.ChangeShapes Go.WideShapes Go.ChangeAt Go.RowKit
def txV (l : List Nd) (i : Int) : ByteArray:=D (nth (evF oT evT4 l []) i)
theorem txV_last (l : List Nd) : txV l ((l.length : Int) - 1) = txL l:=rfl
theorem okN_vok {n : Nd} (h : okN n = 0) : vokB n.k n.v = true:=by
 unfold okN at h
 by_cases hb : badN n
 ·simp [hb] at h
 ·rw [if_neg hb] at h
  by_cases h3 : n.n < 0 ∨ 4 ≤ n.n
  ·rw [if_pos h3] at h;exact absurd h (by decide)
  ·rw [if_neg h3] at h
   by_cases hv : vokB n.k n.v = true
   ·exact hv
   ·rw [if_neg hv] at h;exact absurd h (by decide)
theorem txV_eq {l : List Nd} {bs : List Nat} (hg : Good l bs) {i : Nat} {n : Nd} (h : l[i]? = some n) :
  txV l (i : Int) = if n.op = 1 then cstB n.k n.v else if n.op = 2 then fldB n.n else if ar n.op = 1 then txO n.op (txV l n.x) ⟨#[]⟩ else txO n.op (txV l n.x) (txV l n.y):=by
 have hi:=(List.getElem?_eq_some_iff.1 h).1
 have hlen : (evF oT evT4 l []).length = l.length:=by rw [evF_len];simp
 obtain ⟨p1,p2⟩:=good_part hg h
 obtain ⟨a1,a0,-⟩:=good_at hg h
 have hle:=ar_le n.op
 unfold txV
 rw [nth_in _ i (by omega)]
 have h1:=evF_at oT evT4 l i n h
 rw [(List.getElem?_eq_some_iff.1 h1).2]
 unfold evN
 by_cases h1 : n.op = 1
 ·rw [if_pos h1,if_pos h1]
  unfold D
  rw [if_neg (vok_ne (okN_vok a1))]
 rw [if_neg h1,if_neg h1]
 by_cases h2 : n.op = 2
 ·rw [if_pos h2,if_pos h2]
  obtain ⟨-,-,-,-,-,q5,q6⟩:=okN_parts a1
  exact D_fld n.n q5 q6
 rw [if_neg h2,if_neg h2]
 have ha : 1 ≤ ar n.op:=by
  rcases (by omega : ar n.op = 0 ∨ 1 ≤ ar n.op) with q | q
  ·unfold ar at q
   rw [if_neg (by omega)] at q
   repeat' split at q
   all_goals omega
  ·exact q
 have hx:=p1 ha
 rw [nth_take _ i n.x hx.1 hx.2.1 (by omega)]
 by_cases h3 : ar n.op = 1
 ·rw [if_pos h3,if_pos h3]
  unfold oT
  rw [D_E]
  exact txO_one h3 _ _ _
 ·rw [if_neg h3,if_neg h3]
  have hy:=p2 (by omega)
  rw [nth_take _ i n.y (by omega) (by omega) (by omega)]
  unfold oT
  rw [D_E]
theorem txV_size {l : List Nd} {bs : List Nat} (hg : Good l bs) : ∀ i,i < l.length → (txV l (i : Int)).size + 10 ≤ 37 * 2 ^ i:=by
 intro i
 induction i using Nat.strongRecOn with
 | ind i ih =>
  intro hi
  have hn:=List.getElem?_eq_getElem hi
  obtain ⟨a1,a0,-⟩:=good_at hg hn
  obtain ⟨p1,p2⟩:=good_part hg hn
  have hle:=ar_le l[i].op
  rw [txV_eq hg hn]
  have h1 : 1 ≤ 2 ^ i:=Nat.one_le_two_pow
  by_cases c1 : l[i].op = 1
  ·rw [if_pos c1]
   have:=cstB_size l[i].k l[i].v (okN_vok a1)
   omega
  rw [if_neg c1]
  by_cases c2 : l[i].op = 2
  ·rw [if_pos c2]
   have:=fldB_size l[i].n
   omega
  rw [if_neg c2]
  have ha : 1 ≤ ar l[i].op:=by
   rcases (by omega : ar l[i].op = 0 ∨ 1 ≤ ar l[i].op) with q | q
   ·unfold ar at q
    rw [if_neg (by omega)] at q
    repeat' split at q
    all_goals omega
   ·exact q
  obtain ⟨x0,x1,-⟩:=p1 ha
  obtain ⟨k,hk⟩ : ∃ k : Nat,l[i].x = (k : Int):=⟨l[i].x.toNat,by omega⟩
  obtain ⟨j,rfl⟩ : ∃ j,i = j + 1:=⟨i - 1,by omega⟩
  have hkj : k ≤ j:=by omega
  have e1:=ih k (by omega) (by omega)
  rw [← hk] at e1
  have m1 : 2 ^ k ≤ 2 ^ j:=Nat.pow_le_pow_right (by decide) hkj
  have m2 : 2 ^ (j + 1) = 2 * 2 ^ j:=by rw [Nat.pow_succ];omega
  by_cases c3 : ar l[j + 1].op = 1
  ·rw [if_pos c3]
   have:=txO_size l[j + 1].op (txV l l[j + 1].x) ⟨#[]⟩
   have z : (⟨#[]⟩ : ByteArray).size = 0:=rfl
   have j1 : 1 ≤ 2 ^ j:=Nat.one_le_two_pow
   omega
  ·rw [if_neg c3]
   have:=txO_size l[j + 1].op (txV l l[j + 1].x) (txV l l[j + 1].y)
   obtain ⟨y0,-,-⟩:=p2 (by omega)
   have e2:=ih j (by omega) (by omega)
   have hy : l[j + 1].y = (j : Int):=by omega
   rw [← hy] at e2
   omega
theorem txV_max {l : List Nd} {bs : List Nat} (hg : Good l bs) (h40 : l.length ≤ 40) {i : Nat} (hi : i < l.length) : (txV l (i : Int)).size ≤ 20400000000000:=by
 have h:=txV_size hg i hi
 have m : 2 ^ i ≤ 2 ^ 39:=Nat.pow_le_pow_right (by decide) (by omega)
 omega
theorem textS_B {k v : Int} (h : vokB k v = true) : textS k v = ⟨(textB k v).toArray⟩:=by
 have h9:=of_decide_eq_true h
 unfold textS textB isFB isTB
 rcases h9 with ⟨rfl,rfl⟩ | ⟨rfl,h1,h2⟩ | ⟨rfl,rfl | rfl⟩ <;> rfl
theorem dec2_any (n : Int) (w : World) (h0 : -1000000000 ≤ n) (h1 : n ≤ 1000000000) : Calls Tryz.prog 28 #[.int .i64 n] w fun e w' => e = .returned (.string (decB n)) ∧ Below w.heap.size w w':=decOk n w h0 h1
theorem vtext_any (k v : Int) (w : World) (h : vokB k v = true) : Calls Tryz.prog 48 #[.agg #[.int .i64 k,.int .i64 v]] w fun e w' => e = .returned (.string ⟨(textB k v).toArray⟩) ∧ Below w.heap.size w w':=by
 rw [← textS_B h]
 exact rtext_g decOk k v w h
theorem nt_1n (x y nn k v : Int) (h0 : v < 0) (hv : vokB k v = true) (l : List Nd) (ao : Option Addr) (cap : Nat) (i : Nat) (hi : i < l.length) (hl : l.length ≤ 1000) (w : World) (hr : RowG w (.slice ao l.length cap) 6 l.length (rowN l)) (hn : l[i]? = some ⟨1,x,y,nn,k,v⟩) :
  Calls Tryz.prog 27 #[.slice ao l.length cap,.int .i64 (i : Int)] w fun e w' => e = .returned (.string (cstB k v)) ∧ Below w.heap.size w w':=by
 obtain ⟨g,off,rfl,hnode,l1,l2,l3⟩:=rowN_node hr i hi
 have e9 : l[i] = ⟨1,x,y,nn,k,v⟩:=(List.getElem?_eq_some_iff.1 hn).2
 rw [e9] at hnode
 obtain ⟨n0,n1,n2,n3,n4,n5⟩:=hnode
 simp only at n0 n1 n2 n3 n4 n5
 unfold maxLen at l2
 have b1:=below_alloc w (.cells [.int .i64 1,.int .i64 x,.int .i64 y,.int .i64 nn,.int .i64 k,.int .i64 v].toArray 91)
 have b2:=below_alloc (w.alloc (.cells [.int .i64 1,.int .i64 x,.int .i64 y,.int .i64 nn,.int .i64 k,.int .i64 v].toArray 91)) (.cells [.string ⟨#[116]⟩,.string ⟨#[107]⟩,.string ⟨#[97]⟩,.string ⟨#[98]⟩].toArray 9)
 have b3:=below_alloc ((w.alloc (.cells [.int .i64 1,.int .i64 x,.int .i64 y,.int .i64 nn,.int .i64 k,.int .i64 v].toArray 91)).alloc (.cells [.string ⟨#[116]⟩,.string ⟨#[107]⟩,.string ⟨#[97]⟩,.string ⟨#[98]⟩].toArray 9)) (.cells [.string ⟨#[43]⟩,.string ⟨#[45]⟩,.string ⟨#[42]⟩,.string ⟨#[97,110,100]⟩,.string ⟨#[111,114]⟩,.string ⟨#[60]⟩,.string ⟨#[61]⟩].toArray 9)
 have BB : Below w.heap.size w (((w.alloc (.cells [.int .i64 1,.int .i64 x,.int .i64 y,.int .i64 nn,.int .i64 k,.int .i64 v].toArray 91)).alloc (.cells [.string ⟨#[116]⟩,.string ⟨#[107]⟩,.string ⟨#[97]⟩,.string ⟨#[98]⟩].toArray 9)).alloc (.cells [.string ⟨#[43]⟩,.string ⟨#[45]⟩,.string ⟨#[42]⟩,.string ⟨#[97,110,100]⟩,.string ⟨#[111,114]⟩,.string ⟨#[60]⟩,.string ⟨#[61]⟩].toArray 9)):=(b1.trans (b2.mono b1.size)).trans (b3.mono (b1.trans (b2.mono b1.size)).size)
 have HBB:=hidE BB
 have hk:=of_decide_eq_true hv
 have d1 : -1000000000 ≤ v:=by omega
 have DC:=hidE (dec2_any (-v) (((w.alloc (.cells [.int .i64 1,.int .i64 x,.int .i64 y,.int .i64 nn,.int .i64 k,.int .i64 v].toArray 91)).alloc (.cells [.string ⟨#[116]⟩,.string ⟨#[107]⟩,.string ⟨#[97]⟩,.string ⟨#[98]⟩].toArray 9)).alloc (.cells [.string ⟨#[43]⟩,.string ⟨#[45]⟩,.string ⟨#[42]⟩,.string ⟨#[97,110,100]⟩,.string ⟨#[111,114]⟩,.string ⟨#[60]⟩,.string ⟨#[61]⟩].toArray 9)) (by omega) (by omega))
 have hsz:=decB_size (-v) (by omega) (by omega)
 have q0:=decide_eq_true h0
 have ER : Hid (cstB k v = ⟨#[40,48,32,45,32]⟩ ++ decB (-v) ++ ⟨#[41]⟩):=by show _ = _;unfold cstB;rw [if_pos h0];rfl
 generalize decB (-v) = s at *
 clear hr hn e9 b1 b2 b3 BB hk hv
 generalize l.length = L at *
 go_enter Tryz.func27,Tryz.ntmps27
 go_wp2_with fail
 refine DC.out.mono ?_
 rintro e w4 ⟨rfl,hb⟩
 have HB:=hidE (HBB.out.trans (hb.mono HBB.out.size))
 clear hb DC HBB
 go_wp2_with fail
 go_ret
 rw [ER.out]
 exact ⟨rfl,HB.out⟩
theorem nt_1p (x y nn k v : Int) (h0 : ¬ v < 0) (hv : vokB k v = true) (l : List Nd) (ao : Option Addr) (cap : Nat) (i : Nat) (hi : i < l.length) (hl : l.length ≤ 1000) (w : World) (hr : RowG w (.slice ao l.length cap) 6 l.length (rowN l)) (hn : l[i]? = some ⟨1,x,y,nn,k,v⟩) :
  Calls Tryz.prog 27 #[.slice ao l.length cap,.int .i64 (i : Int)] w fun e w' => e = .returned (.string (cstB k v)) ∧ Below w.heap.size w w':=by
 obtain ⟨g,off,rfl,hnode,l1,l2,l3⟩:=rowN_node hr i hi
 have e9 : l[i] = ⟨1,x,y,nn,k,v⟩:=(List.getElem?_eq_some_iff.1 hn).2
 rw [e9] at hnode
 obtain ⟨n0,n1,n2,n3,n4,n5⟩:=hnode
 simp only at n0 n1 n2 n3 n4 n5
 unfold maxLen at l2
 have b1:=below_alloc w (.cells [.int .i64 1,.int .i64 x,.int .i64 y,.int .i64 nn,.int .i64 k,.int .i64 v].toArray 91)
 have b2:=below_alloc (w.alloc (.cells [.int .i64 1,.int .i64 x,.int .i64 y,.int .i64 nn,.int .i64 k,.int .i64 v].toArray 91)) (.cells [.string ⟨#[116]⟩,.string ⟨#[107]⟩,.string ⟨#[97]⟩,.string ⟨#[98]⟩].toArray 9)
 have b3:=below_alloc ((w.alloc (.cells [.int .i64 1,.int .i64 x,.int .i64 y,.int .i64 nn,.int .i64 k,.int .i64 v].toArray 91)).alloc (.cells [.string ⟨#[116]⟩,.string ⟨#[107]⟩,.string ⟨#[97]⟩,.string ⟨#[98]⟩].toArray 9)) (.cells [.string ⟨#[43]⟩,.string ⟨#[45]⟩,.string ⟨#[42]⟩,.string ⟨#[97,110,100]⟩,.string ⟨#[111,114]⟩,.string ⟨#[60]⟩,.string ⟨#[61]⟩].toArray 9)
 have BB : Below w.heap.size w (((w.alloc (.cells [.int .i64 1,.int .i64 x,.int .i64 y,.int .i64 nn,.int .i64 k,.int .i64 v].toArray 91)).alloc (.cells [.string ⟨#[116]⟩,.string ⟨#[107]⟩,.string ⟨#[97]⟩,.string ⟨#[98]⟩].toArray 9)).alloc (.cells [.string ⟨#[43]⟩,.string ⟨#[45]⟩,.string ⟨#[42]⟩,.string ⟨#[97,110,100]⟩,.string ⟨#[111,114]⟩,.string ⟨#[60]⟩,.string ⟨#[61]⟩].toArray 9)):=(b1.trans (b2.mono b1.size)).trans (b3.mono (b1.trans (b2.mono b1.size)).size)
 have HBB:=hidE BB
 have DC:=hidE (fun w' => vtext_any k v w' hv)
 have q0:=decide_eq_false h0
 have ER : Hid (cstB k v = ⟨(textB k v).toArray⟩):=by show _ = _;unfold cstB;rw [if_neg h0]
 generalize (⟨(textB k v).toArray⟩ : ByteArray) = s at *
 clear hr hn e9 b1 b2 b3 BB hv
 generalize l.length = L at *
 go_enter Tryz.func27,Tryz.ntmps27
 go_wp2_with fail
 refine (DC.out _).mono ?_
 rintro e w4 ⟨rfl,hb⟩
 have HB:=hidE (HBB.out.trans (hb.mono HBB.out.size))
 clear hb DC HBB
 go_wp2_with fail
 go_ret
 rw [ER.out]
 exact ⟨rfl,HB.out⟩
theorem nt_20 (x y k v : Int) (l : List Nd) (ao : Option Addr) (cap : Nat) (i : Nat) (hi : i < l.length) (hl : l.length ≤ 1000) (w : World) (hr : RowG w (.slice ao l.length cap) 6 l.length (rowN l)) (hn : l[i]? = some ⟨2,x,y,0,k,v⟩) :
  Calls Tryz.prog 27 #[.slice ao l.length cap,.int .i64 (i : Int)] w fun e w' => e = .returned (.string (fldB 0)) ∧ Below w.heap.size w w':=by
 obtain ⟨g,off,rfl,hnode,l1,l2,l3⟩:=rowN_node hr i hi
 have e9 : l[i] = ⟨2,x,y,0,k,v⟩:=(List.getElem?_eq_some_iff.1 hn).2
 rw [e9] at hnode
 obtain ⟨n0,n1,n2,n3,n4,n5⟩:=hnode
 simp only at n0 n1 n2 n3 n4 n5
 unfold maxLen at l2
 have b1:=below_alloc w (.cells [.int .i64 2,.int .i64 x,.int .i64 y,.int .i64 0,.int .i64 k,.int .i64 v].toArray 91)
 have b2:=below_alloc (w.alloc (.cells [.int .i64 2,.int .i64 x,.int .i64 y,.int .i64 0,.int .i64 k,.int .i64 v].toArray 91)) (.cells [.string ⟨#[116]⟩,.string ⟨#[107]⟩,.string ⟨#[97]⟩,.string ⟨#[98]⟩].toArray 9)
 have b3:=below_alloc ((w.alloc (.cells [.int .i64 2,.int .i64 x,.int .i64 y,.int .i64 0,.int .i64 k,.int .i64 v].toArray 91)).alloc (.cells [.string ⟨#[116]⟩,.string ⟨#[107]⟩,.string ⟨#[97]⟩,.string ⟨#[98]⟩].toArray 9)) (.cells [.string ⟨#[43]⟩,.string ⟨#[45]⟩,.string ⟨#[42]⟩,.string ⟨#[97,110,100]⟩,.string ⟨#[111,114]⟩,.string ⟨#[60]⟩,.string ⟨#[61]⟩].toArray 9)
 have BB : Below w.heap.size w (((w.alloc (.cells [.int .i64 2,.int .i64 x,.int .i64 y,.int .i64 0,.int .i64 k,.int .i64 v].toArray 91)).alloc (.cells [.string ⟨#[116]⟩,.string ⟨#[107]⟩,.string ⟨#[97]⟩,.string ⟨#[98]⟩].toArray 9)).alloc (.cells [.string ⟨#[43]⟩,.string ⟨#[45]⟩,.string ⟨#[42]⟩,.string ⟨#[97,110,100]⟩,.string ⟨#[111,114]⟩,.string ⟨#[60]⟩,.string ⟨#[61]⟩].toArray 9)):=(b1.trans (b2.mono b1.size)).trans (b3.mono (b1.trans (b2.mono b1.size)).size)
 have HBB:=hidE BB
 have ER : Hid (fldB 0 = ⟨#[116]⟩):=by show _ = _;rfl
 clear hr hn e9 b1 b2 b3 BB
 generalize l.length = L at *
 go_enter Tryz.func27,Tryz.ntmps27
 go_wp2_with fail
 go_ret
 rw [ER.out]
 exact ⟨rfl,HBB.out⟩
theorem nt_21 (x y k v : Int) (l : List Nd) (ao : Option Addr) (cap : Nat) (i : Nat) (hi : i < l.length) (hl : l.length ≤ 1000) (w : World) (hr : RowG w (.slice ao l.length cap) 6 l.length (rowN l)) (hn : l[i]? = some ⟨2,x,y,1,k,v⟩) :
  Calls Tryz.prog 27 #[.slice ao l.length cap,.int .i64 (i : Int)] w fun e w' => e = .returned (.string (fldB 1)) ∧ Below w.heap.size w w':=by
 obtain ⟨g,off,rfl,hnode,l1,l2,l3⟩:=rowN_node hr i hi
 have e9 : l[i] = ⟨2,x,y,1,k,v⟩:=(List.getElem?_eq_some_iff.1 hn).2
 rw [e9] at hnode
 obtain ⟨n0,n1,n2,n3,n4,n5⟩:=hnode
 simp only at n0 n1 n2 n3 n4 n5
 unfold maxLen at l2
 have b1:=below_alloc w (.cells [.int .i64 2,.int .i64 x,.int .i64 y,.int .i64 1,.int .i64 k,.int .i64 v].toArray 91)
 have b2:=below_alloc (w.alloc (.cells [.int .i64 2,.int .i64 x,.int .i64 y,.int .i64 1,.int .i64 k,.int .i64 v].toArray 91)) (.cells [.string ⟨#[116]⟩,.string ⟨#[107]⟩,.string ⟨#[97]⟩,.string ⟨#[98]⟩].toArray 9)
 have b3:=below_alloc ((w.alloc (.cells [.int .i64 2,.int .i64 x,.int .i64 y,.int .i64 1,.int .i64 k,.int .i64 v].toArray 91)).alloc (.cells [.string ⟨#[116]⟩,.string ⟨#[107]⟩,.string ⟨#[97]⟩,.string ⟨#[98]⟩].toArray 9)) (.cells [.string ⟨#[43]⟩,.string ⟨#[45]⟩,.string ⟨#[42]⟩,.string ⟨#[97,110,100]⟩,.string ⟨#[111,114]⟩,.string ⟨#[60]⟩,.string ⟨#[61]⟩].toArray 9)
 have BB : Below w.heap.size w (((w.alloc (.cells [.int .i64 2,.int .i64 x,.int .i64 y,.int .i64 1,.int .i64 k,.int .i64 v].toArray 91)).alloc (.cells [.string ⟨#[116]⟩,.string ⟨#[107]⟩,.string ⟨#[97]⟩,.string ⟨#[98]⟩].toArray 9)).alloc (.cells [.string ⟨#[43]⟩,.string ⟨#[45]⟩,.string ⟨#[42]⟩,.string ⟨#[97,110,100]⟩,.string ⟨#[111,114]⟩,.string ⟨#[60]⟩,.string ⟨#[61]⟩].toArray 9)):=(b1.trans (b2.mono b1.size)).trans (b3.mono (b1.trans (b2.mono b1.size)).size)
 have HBB:=hidE BB
 have ER : Hid (fldB 1 = ⟨#[107]⟩):=by show _ = _;rfl
 clear hr hn e9 b1 b2 b3 BB
 generalize l.length = L at *
 go_enter Tryz.func27,Tryz.ntmps27
 go_wp2_with fail
 go_ret
 rw [ER.out]
 exact ⟨rfl,HBB.out⟩
theorem nt_22 (x y k v : Int) (l : List Nd) (ao : Option Addr) (cap : Nat) (i : Nat) (hi : i < l.length) (hl : l.length ≤ 1000) (w : World) (hr : RowG w (.slice ao l.length cap) 6 l.length (rowN l)) (hn : l[i]? = some ⟨2,x,y,2,k,v⟩) :
  Calls Tryz.prog 27 #[.slice ao l.length cap,.int .i64 (i : Int)] w fun e w' => e = .returned (.string (fldB 2)) ∧ Below w.heap.size w w':=by
 obtain ⟨g,off,rfl,hnode,l1,l2,l3⟩:=rowN_node hr i hi
 have e9 : l[i] = ⟨2,x,y,2,k,v⟩:=(List.getElem?_eq_some_iff.1 hn).2
 rw [e9] at hnode
 obtain ⟨n0,n1,n2,n3,n4,n5⟩:=hnode
 simp only at n0 n1 n2 n3 n4 n5
 unfold maxLen at l2
 have b1:=below_alloc w (.cells [.int .i64 2,.int .i64 x,.int .i64 y,.int .i64 2,.int .i64 k,.int .i64 v].toArray 91)
 have b2:=below_alloc (w.alloc (.cells [.int .i64 2,.int .i64 x,.int .i64 y,.int .i64 2,.int .i64 k,.int .i64 v].toArray 91)) (.cells [.string ⟨#[116]⟩,.string ⟨#[107]⟩,.string ⟨#[97]⟩,.string ⟨#[98]⟩].toArray 9)
 have b3:=below_alloc ((w.alloc (.cells [.int .i64 2,.int .i64 x,.int .i64 y,.int .i64 2,.int .i64 k,.int .i64 v].toArray 91)).alloc (.cells [.string ⟨#[116]⟩,.string ⟨#[107]⟩,.string ⟨#[97]⟩,.string ⟨#[98]⟩].toArray 9)) (.cells [.string ⟨#[43]⟩,.string ⟨#[45]⟩,.string ⟨#[42]⟩,.string ⟨#[97,110,100]⟩,.string ⟨#[111,114]⟩,.string ⟨#[60]⟩,.string ⟨#[61]⟩].toArray 9)
 have BB : Below w.heap.size w (((w.alloc (.cells [.int .i64 2,.int .i64 x,.int .i64 y,.int .i64 2,.int .i64 k,.int .i64 v].toArray 91)).alloc (.cells [.string ⟨#[116]⟩,.string ⟨#[107]⟩,.string ⟨#[97]⟩,.string ⟨#[98]⟩].toArray 9)).alloc (.cells [.string ⟨#[43]⟩,.string ⟨#[45]⟩,.string ⟨#[42]⟩,.string ⟨#[97,110,100]⟩,.string ⟨#[111,114]⟩,.string ⟨#[60]⟩,.string ⟨#[61]⟩].toArray 9)):=(b1.trans (b2.mono b1.size)).trans (b3.mono (b1.trans (b2.mono b1.size)).size)
 have HBB:=hidE BB
 have ER : Hid (fldB 2 = ⟨#[97]⟩):=by show _ = _;rfl
 clear hr hn e9 b1 b2 b3 BB
 generalize l.length = L at *
 go_enter Tryz.func27,Tryz.ntmps27
 go_wp2_with fail
 go_ret
 rw [ER.out]
 exact ⟨rfl,HBB.out⟩
theorem nt_23 (x y k v : Int) (l : List Nd) (ao : Option Addr) (cap : Nat) (i : Nat) (hi : i < l.length) (hl : l.length ≤ 1000) (w : World) (hr : RowG w (.slice ao l.length cap) 6 l.length (rowN l)) (hn : l[i]? = some ⟨2,x,y,3,k,v⟩) :
  Calls Tryz.prog 27 #[.slice ao l.length cap,.int .i64 (i : Int)] w fun e w' => e = .returned (.string (fldB 3)) ∧ Below w.heap.size w w':=by
 obtain ⟨g,off,rfl,hnode,l1,l2,l3⟩:=rowN_node hr i hi
 have e9 : l[i] = ⟨2,x,y,3,k,v⟩:=(List.getElem?_eq_some_iff.1 hn).2
 rw [e9] at hnode
 obtain ⟨n0,n1,n2,n3,n4,n5⟩:=hnode
 simp only at n0 n1 n2 n3 n4 n5
 unfold maxLen at l2
 have b1:=below_alloc w (.cells [.int .i64 2,.int .i64 x,.int .i64 y,.int .i64 3,.int .i64 k,.int .i64 v].toArray 91)
 have b2:=below_alloc (w.alloc (.cells [.int .i64 2,.int .i64 x,.int .i64 y,.int .i64 3,.int .i64 k,.int .i64 v].toArray 91)) (.cells [.string ⟨#[116]⟩,.string ⟨#[107]⟩,.string ⟨#[97]⟩,.string ⟨#[98]⟩].toArray 9)
 have b3:=below_alloc ((w.alloc (.cells [.int .i64 2,.int .i64 x,.int .i64 y,.int .i64 3,.int .i64 k,.int .i64 v].toArray 91)).alloc (.cells [.string ⟨#[116]⟩,.string ⟨#[107]⟩,.string ⟨#[97]⟩,.string ⟨#[98]⟩].toArray 9)) (.cells [.string ⟨#[43]⟩,.string ⟨#[45]⟩,.string ⟨#[42]⟩,.string ⟨#[97,110,100]⟩,.string ⟨#[111,114]⟩,.string ⟨#[60]⟩,.string ⟨#[61]⟩].toArray 9)
 have BB : Below w.heap.size w (((w.alloc (.cells [.int .i64 2,.int .i64 x,.int .i64 y,.int .i64 3,.int .i64 k,.int .i64 v].toArray 91)).alloc (.cells [.string ⟨#[116]⟩,.string ⟨#[107]⟩,.string ⟨#[97]⟩,.string ⟨#[98]⟩].toArray 9)).alloc (.cells [.string ⟨#[43]⟩,.string ⟨#[45]⟩,.string ⟨#[42]⟩,.string ⟨#[97,110,100]⟩,.string ⟨#[111,114]⟩,.string ⟨#[60]⟩,.string ⟨#[61]⟩].toArray 9)):=(b1.trans (b2.mono b1.size)).trans (b3.mono (b1.trans (b2.mono b1.size)).size)
 have HBB:=hidE BB
 have ER : Hid (fldB 3 = ⟨#[98]⟩):=by show _ = _;rfl
 clear hr hn e9 b1 b2 b3 BB
 generalize l.length = L at *
 go_enter Tryz.func27,Tryz.ntmps27
 go_wp2_with fail
 go_ret
 rw [ER.out]
 exact ⟨rfl,HBB.out⟩
theorem nt_3 (x y nn k v : Int) (s : ByteArray) (hs : s.size ≤ 20400000000000) (l : List Nd) (ao : Option Addr) (cap : Nat) (i : Nat) (hi : i < l.length) (hl : l.length ≤ 1000) (w : World) (hr : RowG w (.slice ao l.length cap) 6 l.length (rowN l)) (hn : l[i]? = some ⟨3,x,y,nn,k,v⟩)
  (ih : ∀ w',Below w.heap.size w w' → Calls Tryz.prog 27 #[.slice ao l.length cap,.int .i64 x] w' fun e w'' => e = .returned (.string s) ∧ Below w'.heap.size w' w'') :
  Calls Tryz.prog 27 #[.slice ao l.length cap,.int .i64 (i : Int)] w fun e w' => e = .returned (.string (txO 3 s ⟨#[]⟩)) ∧ Below w.heap.size w w':=by
 obtain ⟨g,off,rfl,hnode,l1,l2,l3⟩:=rowN_node hr i hi
 have e9 : l[i] = ⟨3,x,y,nn,k,v⟩:=(List.getElem?_eq_some_iff.1 hn).2
 rw [e9] at hnode
 obtain ⟨n0,n1,n2,n3,n4,n5⟩:=hnode
 simp only at n0 n1 n2 n3 n4 n5
 unfold maxLen at l2
 have b1:=below_alloc w (.cells [.int .i64 3,.int .i64 x,.int .i64 y,.int .i64 nn,.int .i64 k,.int .i64 v].toArray 91)
 have b2:=below_alloc (w.alloc (.cells [.int .i64 3,.int .i64 x,.int .i64 y,.int .i64 nn,.int .i64 k,.int .i64 v].toArray 91)) (.cells [.string ⟨#[116]⟩,.string ⟨#[107]⟩,.string ⟨#[97]⟩,.string ⟨#[98]⟩].toArray 9)
 have b3:=below_alloc ((w.alloc (.cells [.int .i64 3,.int .i64 x,.int .i64 y,.int .i64 nn,.int .i64 k,.int .i64 v].toArray 91)).alloc (.cells [.string ⟨#[116]⟩,.string ⟨#[107]⟩,.string ⟨#[97]⟩,.string ⟨#[98]⟩].toArray 9)) (.cells [.string ⟨#[43]⟩,.string ⟨#[45]⟩,.string ⟨#[42]⟩,.string ⟨#[97,110,100]⟩,.string ⟨#[111,114]⟩,.string ⟨#[60]⟩,.string ⟨#[61]⟩].toArray 9)
 have BB : Below w.heap.size w (((w.alloc (.cells [.int .i64 3,.int .i64 x,.int .i64 y,.int .i64 nn,.int .i64 k,.int .i64 v].toArray 91)).alloc (.cells [.string ⟨#[116]⟩,.string ⟨#[107]⟩,.string ⟨#[97]⟩,.string ⟨#[98]⟩].toArray 9)).alloc (.cells [.string ⟨#[43]⟩,.string ⟨#[45]⟩,.string ⟨#[42]⟩,.string ⟨#[97,110,100]⟩,.string ⟨#[111,114]⟩,.string ⟨#[60]⟩,.string ⟨#[61]⟩].toArray 9)):=(b1.trans (b2.mono b1.size)).trans (b3.mono (b1.trans (b2.mono b1.size)).size)
 have HBB:=hidE BB
 have IH:=hidE (ih _ BB)
 have ER : Hid (txO 3 s ⟨#[]⟩ = ⟨#[40,45,32]⟩ ++ s ++ ⟨#[41]⟩):=by show _ = _;rfl
 clear hr hn e9 b1 b2 b3 BB ih
 generalize l.length = L at *
 go_enter Tryz.func27,Tryz.ntmps27
 go_wp2_with fail
 refine IH.out.mono ?_
 rintro e w4 ⟨rfl,hb⟩
 have HB:=hidE (HBB.out.trans (hb.mono HBB.out.size))
 clear hb IH HBB
 go_wp2_with fail
 go_ret
 rw [ER.out]
 exact ⟨rfl,HB.out⟩
theorem nt_4 (x y nn k v : Int) (s : ByteArray) (hs : s.size ≤ 20400000000000) (l : List Nd) (ao : Option Addr) (cap : Nat) (i : Nat) (hi : i < l.length) (hl : l.length ≤ 1000) (w : World) (hr : RowG w (.slice ao l.length cap) 6 l.length (rowN l)) (hn : l[i]? = some ⟨4,x,y,nn,k,v⟩)
  (ih : ∀ w',Below w.heap.size w w' → Calls Tryz.prog 27 #[.slice ao l.length cap,.int .i64 x] w' fun e w'' => e = .returned (.string s) ∧ Below w'.heap.size w' w'') :
  Calls Tryz.prog 27 #[.slice ao l.length cap,.int .i64 (i : Int)] w fun e w' => e = .returned (.string (txO 4 s ⟨#[]⟩)) ∧ Below w.heap.size w w':=by
 obtain ⟨g,off,rfl,hnode,l1,l2,l3⟩:=rowN_node hr i hi
 have e9 : l[i] = ⟨4,x,y,nn,k,v⟩:=(List.getElem?_eq_some_iff.1 hn).2
 rw [e9] at hnode
 obtain ⟨n0,n1,n2,n3,n4,n5⟩:=hnode
 simp only at n0 n1 n2 n3 n4 n5
 unfold maxLen at l2
 have b1:=below_alloc w (.cells [.int .i64 4,.int .i64 x,.int .i64 y,.int .i64 nn,.int .i64 k,.int .i64 v].toArray 91)
 have b2:=below_alloc (w.alloc (.cells [.int .i64 4,.int .i64 x,.int .i64 y,.int .i64 nn,.int .i64 k,.int .i64 v].toArray 91)) (.cells [.string ⟨#[116]⟩,.string ⟨#[107]⟩,.string ⟨#[97]⟩,.string ⟨#[98]⟩].toArray 9)
 have b3:=below_alloc ((w.alloc (.cells [.int .i64 4,.int .i64 x,.int .i64 y,.int .i64 nn,.int .i64 k,.int .i64 v].toArray 91)).alloc (.cells [.string ⟨#[116]⟩,.string ⟨#[107]⟩,.string ⟨#[97]⟩,.string ⟨#[98]⟩].toArray 9)) (.cells [.string ⟨#[43]⟩,.string ⟨#[45]⟩,.string ⟨#[42]⟩,.string ⟨#[97,110,100]⟩,.string ⟨#[111,114]⟩,.string ⟨#[60]⟩,.string ⟨#[61]⟩].toArray 9)
 have BB : Below w.heap.size w (((w.alloc (.cells [.int .i64 4,.int .i64 x,.int .i64 y,.int .i64 nn,.int .i64 k,.int .i64 v].toArray 91)).alloc (.cells [.string ⟨#[116]⟩,.string ⟨#[107]⟩,.string ⟨#[97]⟩,.string ⟨#[98]⟩].toArray 9)).alloc (.cells [.string ⟨#[43]⟩,.string ⟨#[45]⟩,.string ⟨#[42]⟩,.string ⟨#[97,110,100]⟩,.string ⟨#[111,114]⟩,.string ⟨#[60]⟩,.string ⟨#[61]⟩].toArray 9)):=(b1.trans (b2.mono b1.size)).trans (b3.mono (b1.trans (b2.mono b1.size)).size)
 have HBB:=hidE BB
 have IH:=hidE (ih _ BB)
 have ER : Hid (txO 4 s ⟨#[]⟩ = ⟨#[40,110,111,116,32]⟩ ++ s ++ ⟨#[41]⟩):=by show _ = _;rfl
 clear hr hn e9 b1 b2 b3 BB ih
 generalize l.length = L at *
 go_enter Tryz.func27,Tryz.ntmps27
 go_wp2_with fail
 refine IH.out.mono ?_
 rintro e w4 ⟨rfl,hb⟩
 have HB:=hidE (HBB.out.trans (hb.mono HBB.out.size))
 clear hb IH HBB
 go_wp2_with fail
 go_ret
 rw [ER.out]
 exact ⟨rfl,HB.out⟩
theorem nt_5 (x y nn k v : Int) (s : ByteArray) (hs : s.size ≤ 20400000000000) (l : List Nd) (ao : Option Addr) (cap : Nat) (i : Nat) (hi : i < l.length) (hl : l.length ≤ 1000) (w : World) (hr : RowG w (.slice ao l.length cap) 6 l.length (rowN l)) (hn : l[i]? = some ⟨5,x,y,nn,k,v⟩)
  (ih : ∀ w',Below w.heap.size w w' → Calls Tryz.prog 27 #[.slice ao l.length cap,.int .i64 x] w' fun e w'' => e = .returned (.string s) ∧ Below w'.heap.size w' w'') :
  Calls Tryz.prog 27 #[.slice ao l.length cap,.int .i64 (i : Int)] w fun e w' => e = .returned (.string (txO 5 s ⟨#[]⟩)) ∧ Below w.heap.size w w':=by
 obtain ⟨g,off,rfl,hnode,l1,l2,l3⟩:=rowN_node hr i hi
 have e9 : l[i] = ⟨5,x,y,nn,k,v⟩:=(List.getElem?_eq_some_iff.1 hn).2
 rw [e9] at hnode
 obtain ⟨n0,n1,n2,n3,n4,n5⟩:=hnode
 simp only at n0 n1 n2 n3 n4 n5
 unfold maxLen at l2
 have b1:=below_alloc w (.cells [.int .i64 5,.int .i64 x,.int .i64 y,.int .i64 nn,.int .i64 k,.int .i64 v].toArray 91)
 have b2:=below_alloc (w.alloc (.cells [.int .i64 5,.int .i64 x,.int .i64 y,.int .i64 nn,.int .i64 k,.int .i64 v].toArray 91)) (.cells [.string ⟨#[116]⟩,.string ⟨#[107]⟩,.string ⟨#[97]⟩,.string ⟨#[98]⟩].toArray 9)
 have b3:=below_alloc ((w.alloc (.cells [.int .i64 5,.int .i64 x,.int .i64 y,.int .i64 nn,.int .i64 k,.int .i64 v].toArray 91)).alloc (.cells [.string ⟨#[116]⟩,.string ⟨#[107]⟩,.string ⟨#[97]⟩,.string ⟨#[98]⟩].toArray 9)) (.cells [.string ⟨#[43]⟩,.string ⟨#[45]⟩,.string ⟨#[42]⟩,.string ⟨#[97,110,100]⟩,.string ⟨#[111,114]⟩,.string ⟨#[60]⟩,.string ⟨#[61]⟩].toArray 9)
 have BB : Below w.heap.size w (((w.alloc (.cells [.int .i64 5,.int .i64 x,.int .i64 y,.int .i64 nn,.int .i64 k,.int .i64 v].toArray 91)).alloc (.cells [.string ⟨#[116]⟩,.string ⟨#[107]⟩,.string ⟨#[97]⟩,.string ⟨#[98]⟩].toArray 9)).alloc (.cells [.string ⟨#[43]⟩,.string ⟨#[45]⟩,.string ⟨#[42]⟩,.string ⟨#[97,110,100]⟩,.string ⟨#[111,114]⟩,.string ⟨#[60]⟩,.string ⟨#[61]⟩].toArray 9)):=(b1.trans (b2.mono b1.size)).trans (b3.mono (b1.trans (b2.mono b1.size)).size)
 have HBB:=hidE BB
 have IH:=hidE (ih _ BB)
 have ER : Hid (txO 5 s ⟨#[]⟩ = ⟨#[40]⟩ ++ s ++ ⟨#[32,105,115,32,110,117,108,108,41]⟩):=by show _ = _;rfl
 clear hr hn e9 b1 b2 b3 BB ih
 generalize l.length = L at *
 go_enter Tryz.func27,Tryz.ntmps27
 go_wp2_with fail
 refine IH.out.mono ?_
 rintro e w4 ⟨rfl,hb⟩
 have HB:=hidE (HBB.out.trans (hb.mono HBB.out.size))
 clear hb IH HBB
 go_wp2_with fail
 go_ret
 rw [ER.out]
 exact ⟨rfl,HB.out⟩
end Go.Proofs.YteaanpdckkmjoaaGreatDoor
