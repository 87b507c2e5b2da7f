/- Several texts in one, each with its own head. What is proved: what the parts say. Conditions: theirs. -/
import Derived.Test.YteaanpdckkmjoaaGreatDoorRqMJ
import Derived.Test.YteaanpdckkmjoaaGreatDoorRqEJ
import Derived.Test.YteaanpdckkmjoaaGreatDoorRqIJ
set_option linter.unusedVariables false
set_option linter.unusedSimpArgs false
set_option maxRecDepth 100000
set_option maxHeartbeats 8000000
namespace Go.Proofs.YteaanpdckkmjoaaGreatDoor
open Go.ChangeShapes Go.WideShapes Go.ChangeAt Go.RowKit
def Sh (ws : Ws) (r : PR) : Prop:=∀ l ws',r = .ok (l,ws') → ws'.length ≤ ws.length
theorem sh_err {ws : Ws} {c : Int} : Sh ws (.error c):=fun l ws' e => by cases e
theorem sh_ok {ws ws' : Ws} {l : List Nd} (h : ws'.length ≤ ws.length) : Sh ws (.ok (l,ws')):=fun l' ws9 e => by cases e;exact h
theorem sh_le {ws ws0 : Ws} {r : PR} (h : Sh ws r) (hl : ws.length ≤ ws0.length) : Sh ws0 r:=fun l ws' e => by have:=h l ws' e;omega
theorem sh_wth {ws ws0 : Ws} {r : Except Int (List Nd)} (hl : ws.length ≤ ws0.length) : Sh ws0 (wth ws r):=by
 unfold wth
 cases r with
 | error c => exact sh_err
 | ok l => exact sh_ok hl
theorem rowL_sh (inner : Ws → PR) (rank : Int) (hin : ∀ ws,Sh ws (inner ws)) : ∀ (k : Nat) (x : List Nd) (ws : Ws),Sh ws (rowL inner rank k x ws)
 | 0,_,_ => sh_err
 | k + 1,x,ws => by
  unfold rowL
  cases hs : tkS rank ws with
  | none => exact sh_ok (Nat.le_refl _)
  | some p =>
   obtain ⟨s,ws1⟩:=p
   have h1:=tkS_len hs
   simp only
   cases hi : inner ws1 with
   | error c => exact sh_err
   | ok q =>
    obtain ⟨y,ws2⟩:=q
    have h2:=hin ws1 y ws2 hi
    simp only
    cases hz : jnS s x y with
    | error c => exact sh_err
    | ok z => exact sh_le (rowL_sh inner rank hin k z ws2) (by omega)
theorem rowP_sh (inner : Ws → PR) (rank : Int) (k : Nat) (ws : Ws) (hin : ∀ ws,Sh ws (inner ws)) : Sh ws (rowP inner rank k ws):=by
 unfold rowP
 cases hi : inner ws with
 | error c => exact sh_err
 | ok p =>
  obtain ⟨x,ws1⟩:=p
  exact sh_le (rowL_sh inner rank hin k x ws1) (hin ws x ws1 hi)
theorem deep_sh (inner : Ws → Nat → PR) (ws : Ws) (d : Nat) (h : ∀ d',Sh ws (inner ws d')) : Sh ws (deepP inner ws d):=by
 unfold deepP
 split
 ·exact sh_err
 ·exact h _
theorem ahead_sh (op : Int) (ws : Ws) (r : PR) (h : Sh ws r) : Sh ws (aheadP op r):=by
 unfold aheadP
 cases r with
 | error c => exact sh_err
 | ok p => obtain ⟨x,ws1⟩:=p;exact sh_wth (h x ws1 rfl)
theorem null_sh (x : List Nd) (dn : Bool) (ws ws0 : Ws) (h : ws.length ≤ ws0.length) : Sh ws0 (nullP x dn ws):=by
 unfold nullP
 cases ht : tk wNull ws with
 | none => exact sh_err
 | some ws1 => exact sh_wth (by have:=tk_len ht;omega)
theorem cmp_sh (inner : Ws → PR) (x : List Nd) (ws : Ws) (hin : ∀ ws,Sh ws (inner ws)) : Sh ws (cmpP inner x ws):=by
 unfold cmpP
 cases ht : tk wIs ws with
 | some ws1 =>
  have:=tk_len ht
  simp only
  unfold isP
  cases hn : tk wNot ws1 with
  | some ws2 => have:=tk_len hn;exact null_sh _ _ _ _ (by omega)
  | none => exact null_sh _ _ _ _ (by omega)
 | none =>
  simp only
  cases hs : tkS 2 ws with
  | none => exact sh_ok (Nat.le_refl _)
  | some p =>
   obtain ⟨s,ws1⟩:=p
   have h1:=tkS_len hs
   simp only
   cases hi : inner ws1 with
   | error c => exact sh_err
   | ok q =>
    obtain ⟨y,ws2⟩:=q
    have h2:=hin ws1 y ws2 hi
    exact sh_wth (by omega)
theorem close_sh (ws : Ws) (r : PR) (h : Sh ws r) : Sh ws (closeP r):=by
 unfold closeP
 cases r with
 | error c => exact sh_err
 | ok p =>
  obtain ⟨x,ws1⟩:=p
  have h1:=h x ws1 rfl
  simp only
  cases ht : tk wClose ws1 with
  | none => exact sh_err
  | some ws2 => exact sh_ok (by have:=tk_len ht;omega)
theorem leaf_sh (ws : Ws) : Sh ws (leafP ws):=by
 cases ws with
 | nil => exact sh_err
 | cons w r =>
  simp only [leafP]
  cases leafQ w with
  | none => exact sh_err
  | some n => exact sh_ok (by simp)
theorem lev_sh : ∀ (f n : Nat) (ws : Ws) (d : Nat),n ≤ 7 → Sh ws (lev f n ws d):=by
 intro f
 induction f with
 | zero => intro n ws d hn;exact fun l ws' e => by simp [lev] at e
 | succ f ih =>
  intro n ws d hn
  match n,hn with
  | 0,_ => exact rowP_sh _ _ _ _ (fun ws' => ih 1 ws' d (by omega))
  | 1,_ => exact rowP_sh _ _ _ _ (fun ws' => ih 2 ws' d (by omega))
  | 2,_ =>
   show Sh ws (match tk wNot ws with
    | some ws1 => aheadP 4 (deepP (fun ws d => lev f 2 ws d) ws1 d)
    | none => lev f 3 ws d)
   cases ht : tk wNot ws with
   | some ws1 =>
    have:=tk_len ht
    exact sh_le (ahead_sh _ _ _ (deep_sh _ _ _ (fun d' => ih 2 ws1 d' (by omega)))) (by omega)
   | none => exact ih 3 ws d (by omega)
  | 3,_ =>
   have hf:=ih 4 ws d (by omega)
   show Sh ws (match lev f 4 ws d with
    | .error c => .error c
    | .ok (x,ws1) => cmpP (fun ws => lev f 4 ws d) x ws1)
   cases hi : lev f 4 ws d with
   | error c => exact sh_err
   | ok p =>
    obtain ⟨x,ws1⟩:=p
    exact sh_le (cmp_sh _ x ws1 (fun ws' => ih 4 ws' d (by omega))) (hf x ws1 hi)
  | 4,_ => exact rowP_sh _ _ _ _ (fun ws' => ih 5 ws' d (by omega))
  | 5,_ => exact rowP_sh _ _ _ _ (fun ws' => ih 6 ws' d (by omega))
  | 6,_ =>
   show Sh ws (match tk wMinus ws with
    | some ws1 => aheadP 3 (deepP (fun ws d => lev f 6 ws d) ws1 d)
    | none => lev f 7 ws d)
   cases ht : tk wMinus ws with
   | some ws1 =>
    have:=tk_len ht
    exact sh_le (ahead_sh _ _ _ (deep_sh _ _ _ (fun d' => ih 6 ws1 d' (by omega)))) (by omega)
   | none => exact ih 7 ws d (by omega)
  | 7,_ =>
   show Sh ws (match tk wOpen ws with
    | some ws1 => closeP (deepP (fun ws d => lev f 0 ws d) ws1 d)
    | none => leafP ws)
   cases ht : tk wOpen ws with
   | some ws1 =>
    have:=tk_len ht
    exact sh_le (close_sh _ _ (deep_sh _ _ _ (fun d' => ih 0 ws1 d' (by omega)))) (by omega)
   | none => exact leaf_sh ws
theorem bad_atom (gp gm : Nat) (d e : Int) (he : e ≠ 0) (wv : Value) (w : World) (h : PX w gp gm wv [] d e) : Calls Tryz.prog 140 #[.pointer (some ⟨gp,0,none⟩)] w fun r w' => ErrX w w' gp gm d e r:=atom_e gp gm wv d e he w h
theorem bad_unary (gp gm : Nat) (d e : Int) (he : e ≠ 0) (wv : Value) (w : World) (h : PX w gp gm wv [] d e) : Calls Tryz.prog 137 #[.pointer (some ⟨gp,0,none⟩)] w fun r w' => ErrX w w' gp gm d e r:=unary_e gp gm wv d e w h (fun wv w h => bad_atom gp gm d e he wv w h)
theorem bad_product (gp gm : Nat) (d e : Int) (he : e ≠ 0) (wv : Value) (w : World) (h : PX w gp gm wv [] d e) : Calls Tryz.prog 133 #[.pointer (some ⟨gp,0,none⟩)] w fun r w' => ErrX w w' gp gm d e r:=product_e gp gm wv d e he w h (fun wv w h => bad_unary gp gm d e he wv w h)
theorem bad_sum (gp gm : Nat) (d e : Int) (he : e ≠ 0) (wv : Value) (w : World) (h : PX w gp gm wv [] d e) : Calls Tryz.prog 125 #[.pointer (some ⟨gp,0,none⟩)] w fun r w' => ErrX w w' gp gm d e r:=sum_e gp gm wv d e he w h (fun wv w h => bad_product gp gm d e he wv w h)
theorem bad_compare (gp gm : Nat) (d e : Int) (he : e ≠ 0) (wv : Value) (w : World) (h : PX w gp gm wv [] d e) : Calls Tryz.prog 118 #[.pointer (some ⟨gp,0,none⟩)] w fun r w' => ErrX w w' gp gm d e r:=compare_e gp gm wv d e w h (fun wv w h => bad_sum gp gm d e he wv w h)
theorem bad_not (gp gm : Nat) (d e : Int) (he : e ≠ 0) (wv : Value) (w : World) (h : PX w gp gm wv [] d e) : Calls Tryz.prog 100 #[.pointer (some ⟨gp,0,none⟩)] w fun r w' => ErrX w w' gp gm d e r:=not_e gp gm wv d e w h (fun wv w h => bad_compare gp gm d e he wv w h)
theorem bad_and (gp gm : Nat) (d e : Int) (he : e ≠ 0) (wv : Value) (w : World) (h : PX w gp gm wv [] d e) : Calls Tryz.prog 81 #[.pointer (some ⟨gp,0,none⟩)] w fun r w' => ErrX w w' gp gm d e r:=and_e gp gm wv d e he w h (fun wv w h => bad_not gp gm d e he wv w h)
theorem bad_expr (gp gm : Nat) (d e : Int) (he : e ≠ 0) (wv : Value) (w : World) (h : PX w gp gm wv [] d e) : Calls Tryz.prog 53 #[.pointer (some ⟨gp,0,none⟩)] w fun r w' => ErrX w w' gp gm d e r:=expr_e gp gm wv d e he w h (fun wv w h => bad_and gp gm d e he wv w h)
def LevR (gp gm f n : Nat) (F : FuncId) : Prop:=∀ wv ws w (d : Nat),d ≤ 12 → PX w gp gm wv ws (d : Int) 0 → lev f n ws d ≠ .error 99 → Calls Tryz.prog F #[.pointer (some ⟨gp,0,none⟩)] w fun r w' => PXR w w' gp gm (d : Int) (lev f n ws d) r
structure Lev8 (gp gm f : Nat) : Prop where
 l0 : LevR gp gm f 0 53
 l1 : LevR gp gm f 1 81
 l2 : LevR gp gm f 2 100
 l3 : LevR gp gm f 3 118
 l4 : LevR gp gm f 4 125
 l5 : LevR gp gm f 5 133
 l6 : LevR gp gm f 6 137
 l7 : LevR gp gm f 7 140
theorem lev8 (gp gm : Nat) : ∀ f,Lev8 gp gm f:=by
 intro f
 induction f with
 | zero =>
  have z : ∀ n F,LevR gp gm 0 n F:=fun n F wv ws w d hd h hT => absurd (by simp [lev]) hT
  exact ⟨z _ _,z _ _,z _ _,z _ _,z _ _,z _ _,z _ _,z _ _⟩
 | succ f ih =>
  refine ⟨?_,?_,?_,?_,?_,?_,?_,?_⟩ <;> intro wv ws w d hd h hT
  ·exact expr_x f gp gm wv ws d hd w h hT ih.l1 (fun wv e w d he hp => bad_and gp gm d e he wv w hp) (fun ws y ws2 e => lev_sh f 1 ws d (by decide) y ws2 e)
  ·exact and_x f gp gm wv ws d hd w h hT ih.l2 (fun wv e w d he hp => bad_not gp gm d e he wv w hp) (fun ws y ws2 e => lev_sh f 2 ws d (by decide) y ws2 e)
  ·exact not_x f gp gm wv ws d hd w h hT ih.l2 ih.l3
  ·exact compare_x f gp gm wv ws d hd w h hT ih.l4
  ·exact sum_x f gp gm wv ws d hd w h hT ih.l5 (fun wv e w d he hp => bad_product gp gm d e he wv w hp) (fun ws y ws2 e => lev_sh f 5 ws d (by decide) y ws2 e)
  ·exact product_x f gp gm wv ws d hd w h hT ih.l6 (fun wv e w d he hp => bad_unary gp gm d e he wv w hp) (fun ws y ws2 e => lev_sh f 6 ws d (by decide) y ws2 e)
  ·exact unary_x f gp gm wv ws d hd w h hT ih.l6 ih.l7
  ·exact atom_x f gp gm wv ws d hd w h hT ih.l0
theorem expr_any (gp gm : Nat) (wv : Value) (ws : Ws) (w : World) (h : PX w gp gm wv ws 0 0) (hl : ws.length ≤ 100) :
  Calls Tryz.prog 53 #[.pointer (some ⟨gp,0,none⟩)] w fun r w' => PXR w w' gp gm 0 (lev FU 0 ws 0) r :=
 (lev8 gp gm FU).l0 wv ws w 0 (by decide) h (expr_fine ws 0 hl).1
theorem hd_cons {ws : Ws} {word : ByteArray} (h : hdW ws = word) (h0 : word ≠ ⟨#[]⟩) : ∃ r,ws = word :: r:=by
 cases ws with
 | nil => exact absurd h.symm h0
 | cons x r =>
  have h9 : x = word:=h
  exact ⟨r,by rw [h9]⟩
theorem rcomp_any (inner : Ws → PR) (g : Nat) (wv : Value) (all : Ws) (hne : ∀ x ∈ all,x ≠ ⟨#[]⟩) (n : Nat) (ws : Ws) (d : Int) (w : World) (h : RD w g wv all n ws d 0) (hT : CompR inner ws ≠ .error 99)
  (H1 : ∀ ws n w,RD w g wv all n ws d 0 → inner ws ≠ .error 99 → Calls Tryz.prog 36 #[.pointer (some ⟨g,0,none⟩),.int .i64 4] w fun r w' => ∃ v,r = .returned v ∧ isSl v = true ∧ RLu w w' g wv all d (inner ws) v) :
  Calls Tryz.prog 60 #[.pointer (some ⟨g,0,none⟩)] w fun r w' => ∃ v,r = .returned v ∧ isSl v = true ∧ RLu w w' g wv all d (CompR inner ws) v:=by
 have hi : inner ws ≠ .error 99:=fun e => hT (by unfold CompR;rw [e])
 have L0:=H1 ws n w h hi
 unfold CompR at hT ⊢
 cases he : inner ws with
 | error c =>
  rw [he] at L0
  exact rcomp_err g wv all hne d w c (hidE L0)
 | ok p =>
  obtain ⟨x,ws1⟩:=p
  rw [he] at L0 hT
  simp only at hT ⊢
  by_cases c0 : hdW ws1 = wLt
  ·obtain ⟨r,rfl⟩:=hd_cons c0 (by decide)
   have e9:=(cmp_sign (inner:=inner) (x:=x) (tk_lt r).1 (tk_lt r).2).trans (pp 11 inner x r)
   rw [e9] at hT ⊢
   have hi2 : inner r ≠ .error 99:=fun e => hT (by rw [e];rfl)
   exact rcomp_lt g wv all hne d w x _ r (inner r) (hidE L0) rfl (hidE fun w n hp => H1 r n w hp hi2) (lt_t li_lt rfl) (lt_f (x:=wLt) li_gt (by decide)) (lt_f (x:=wLt) li_le (by decide)) (lt_f (x:=wLt) li_ge (by decide)) (lt_f (x:=wLt) li_eq (by decide)) (lt_f (x:=wLt) li_ne (by decide)) (lt_f (x:=wLt) li_is (by decide))
  by_cases c1 : hdW ws1 = wGt
  ·obtain ⟨r,rfl⟩:=hd_cons c1 (by decide)
   have e9:=(cmp_sign (inner:=inner) (x:=x) (tk_gt r).1 (tk_gt r).2).trans (pt 11 inner x r)
   rw [e9] at hT ⊢
   have hi2 : inner r ≠ .error 99:=fun e => hT (by rw [e];rfl)
   exact rcomp_gt g wv all hne d w x _ r (inner r) (hidE L0) rfl (hidE fun w n hp => H1 r n w hp hi2) (lt_f (x:=wGt) li_lt (by decide)) (lt_t li_gt rfl) (lt_f (x:=wGt) li_le (by decide)) (lt_f (x:=wGt) li_ge (by decide)) (lt_f (x:=wGt) li_eq (by decide)) (lt_f (x:=wGt) li_ne (by decide)) (lt_f (x:=wGt) li_is (by decide))
  by_cases c2 : hdW ws1 = wLe
  ·obtain ⟨r,rfl⟩:=hd_cons c2 (by decide)
   have e9:=(cmp_sign (inner:=inner) (x:=x) (tk_le r).1 (tk_le r).2).trans (apt 11 inner x r)
   rw [e9] at hT ⊢
   have hi2 : inner r ≠ .error 99:=fun e => hT (by rw [e];rfl)
   exact rcomp_le g wv all hne d w x _ r (inner r) (hidE L0) rfl (hidE fun w n hp => H1 r n w hp hi2) (lt_f (x:=wLe) li_lt (by decide)) (lt_f (x:=wLe) li_gt (by decide)) (lt_t li_le rfl) (lt_f (x:=wLe) li_ge (by decide)) (lt_f (x:=wLe) li_eq (by decide)) (lt_f (x:=wLe) li_ne (by decide)) (lt_f (x:=wLe) li_is (by decide))
  by_cases c3 : hdW ws1 = wGe
  ·obtain ⟨r,rfl⟩:=hd_cons c3 (by decide)
   have e9:=(cmp_sign (inner:=inner) (x:=x) (tk_ge r).1 (tk_ge r).2).trans (app 11 inner x r)
   rw [e9] at hT ⊢
   have hi2 : inner r ≠ .error 99:=fun e => hT (by rw [e];rfl)
   exact rcomp_ge g wv all hne d w x _ r (inner r) (hidE L0) rfl (hidE fun w n hp => H1 r n w hp hi2) (lt_f (x:=wGe) li_lt (by decide)) (lt_f (x:=wGe) li_gt (by decide)) (lt_f (x:=wGe) li_le (by decide)) (lt_t li_ge rfl) (lt_f (x:=wGe) li_eq (by decide)) (lt_f (x:=wGe) li_ne (by decide)) (lt_f (x:=wGe) li_is (by decide))
  by_cases c4 : hdW ws1 = wEq
  ·obtain ⟨r,rfl⟩:=hd_cons c4 (by decide)
   have e9:=(cmp_sign (inner:=inner) (x:=x) (tk_eq r).1 (tk_eq r).2).trans (pp 12 inner x r)
   rw [e9] at hT ⊢
   have hi2 : inner r ≠ .error 99:=fun e => hT (by rw [e];rfl)
   exact rcomp_eq g wv all hne d w x _ r (inner r) (hidE L0) rfl (hidE fun w n hp => H1 r n w hp hi2) (lt_f (x:=wEq) li_lt (by decide)) (lt_f (x:=wEq) li_gt (by decide)) (lt_f (x:=wEq) li_le (by decide)) (lt_f (x:=wEq) li_ge (by decide)) (lt_t li_eq rfl) (lt_f (x:=wEq) li_ne (by decide)) (lt_f (x:=wEq) li_is (by decide))
  by_cases c5 : hdW ws1 = wNe
  ·obtain ⟨r,rfl⟩:=hd_cons c5 (by decide)
   have e9:=(cmp_sign (inner:=inner) (x:=x) (tk_ne r).1 (tk_ne r).2).trans (app 12 inner x r)
   rw [e9] at hT ⊢
   have hi2 : inner r ≠ .error 99:=fun e => hT (by rw [e];rfl)
   exact rcomp_ne g wv all hne d w x _ r (inner r) (hidE L0) rfl (hidE fun w n hp => H1 r n w hp hi2) (lt_f (x:=wNe) li_lt (by decide)) (lt_f (x:=wNe) li_gt (by decide)) (lt_f (x:=wNe) li_le (by decide)) (lt_f (x:=wNe) li_ge (by decide)) (lt_f (x:=wNe) li_eq (by decide)) (lt_t li_ne rfl) (lt_f (x:=wNe) li_is (by decide))
  by_cases c6 : hdW ws1 = wIs
  ·obtain ⟨r,rfl⟩:=hd_cons c6 (by decide)
   have e9 : cmpP inner x (wIs :: r) = isP x r:=by unfold cmpP;simp only [tk];rfl
   rw [e9]
   unfold isP
   cases ht : tk wNot r with
   | none =>
    show Calls _ _ _ _ fun r1 w' => ∃ v,r1 = .returned v ∧ isSl v = true ∧ RLu w w' g wv all d (nullP x false r) v
    rw [null_f]
    exact rcomp_is0 g wv all hne d w x _ r (hidE L0) rfl ht (lt_f (x:=wIs) li_lt (by decide)) (lt_f (x:=wIs) li_gt (by decide)) (lt_f (x:=wIs) li_le (by decide)) (lt_f (x:=wIs) li_ge (by decide)) (lt_f (x:=wIs) li_eq (by decide)) (lt_f (x:=wIs) li_ne (by decide)) (lt_t li_is rfl)
   | some r3 =>
    show Calls _ _ _ _ fun r1 w' => ∃ v,r1 = .returned v ∧ isSl v = true ∧ RLu w w' g wv all d (nullP x true r3) v
    rw [null_t]
    exact rcomp_is1 g wv all hne d w x _ r r3 (hidE L0) rfl ht (lt_f (x:=wIs) li_lt (by decide)) (lt_f (x:=wIs) li_gt (by decide)) (lt_f (x:=wIs) li_le (by decide)) (lt_f (x:=wIs) li_ge (by decide)) (lt_f (x:=wIs) li_eq (by decide)) (lt_f (x:=wIs) li_ne (by decide)) (lt_t li_is rfl)
  rw [cmp_none c0 c1 c2 c3 c4 c5 c6]
  exact rcomp_none g wv all hne d w x ws1 (hidE L0) (lt_f li_lt c0) (lt_f li_gt c1) (lt_f li_le c2) (lt_f li_ge c3) (lt_f li_eq c4) (lt_f li_ne c5) (lt_f li_is c6)
def RLevR (g : Nat) (wv : Value) (all : Ws) (f n : Nat) (k : Int) : Prop:=∀ ws n' w (D : Nat),D ≤ 12 → RD w g wv all n' ws (D : Int) 0 → lev f n ws D ≠ .error 99 → Calls Tryz.prog 36 #[.pointer (some ⟨g,0,none⟩),.int .i64 k] w fun r w' => ∃ v,r = .returned v ∧ isSl v = true ∧ RLu w w' g wv all (D : Int) (lev f n ws D) v
structure RLev8 (g : Nat) (wv : Value) (all : Ws) (f : Nat) : Prop where
 l0 : RLevR g wv all f 0 0
 l1 : RLevR g wv all f 1 1
 l2 : RLevR g wv all f 2 2
 l3 : RLevR g wv all f 3 3
 l4 : RLevR g wv all f 4 4
 l5 : RLevR g wv all f 5 5
 l6 : RLevR g wv all f 6 6
 l7 : RLevR g wv all f 7 7
theorem rlev8 (g : Nat) (wv : Value) (all : Ws) (hne : ∀ x ∈ all,x ≠ ⟨#[]⟩) (hsz : ∀ x ∈ all,x.size ≤ 240) : ∀ f,RLev8 g wv all f:=by
 intro f
 induction f with
 | zero =>
  have z : ∀ n k,RLevR g wv all 0 n k:=fun n k ws n' w D hd h hT => absurd (by simp [lev]) hT
  exact ⟨z _ _,z _ _,z _ _,z _ _,z _ _,z _ _,z _ _,z _ _⟩
 | succ f ih =>
  refine ⟨?_,?_,?_,?_,?_,?_,?_,?_⟩ <;> intro ws n' w D hd h hT
  ·exact rlevel_rows _ g 0 (by decide) wv all n' ws _ w h (rrows_0 (fun ws => lev f 1 ws D) g wv all n' ws _ w h f _ rfl hT (fun ws n w hp hne2 => ih.l1 ws n w D hd hp hne2) (fun ws y ws2 e => lev_sh f 1 ws D (by decide) y ws2 e))
  ·exact rlevel_rows _ g 1 (by decide) wv all n' ws _ w h (rrows_1 (fun ws => lev f 2 ws D) g wv all n' ws _ w h f _ rfl hT (fun ws n w hp hne2 => ih.l2 ws n w D hd hp hne2) (fun ws y ws2 e => lev_sh f 2 ws D (by decide) y ws2 e))
  ·have e : lev (f + 1) 2 ws D = (match tk wNot ws with | some ws1 => aheadP 4 (deepP (fun ws d => lev f 2 ws d) ws1 D) | none => lev f 3 ws D):=rfl
   rw [e] at hT ⊢
   cases ht : tk wNot ws with
   | some ws1 =>
    rw [ht] at hT
    simp only at hT
    have hT0 : deepP (fun ws d => lev f 2 ws d) ws1 D ≠ .error 99:=fun e9 => hT (by rw [e9];rfl)
    have q : ((D : Int) + 1) = ((D + 1 : Nat) : Int):=by omega
    refine rtook_not g wv all hne n' ws ws1 D hd w h ht (lev f 2 ws1 (D + 1)) (fun h12 w1 n1 hp => ?_)
    rw [q] at hp ⊢
    exact ih.l2 ws1 n1 w1 (D + 1) (by omega) hp (fun e9 => hT0 (by unfold deepP;rw [if_neg h12];exact e9))
   | none =>
    rw [ht] at hT
    exact rlevel_not g wv all hne n' ws _ w h ht (lev f 3 ws D) (fun w1 hp => ih.l3 ws n' w1 D hd hp hT)
  ·have e : lev (f + 1) 3 ws D = CompR (fun ws => lev f 4 ws D) ws:=rfl
   rw [e] at hT ⊢
   exact rlevel_comp _ g wv all n' ws _ w h (rcomp_any (fun ws => lev f 4 ws D) g wv all hne n' ws _ w h hT (fun ws n w hp hne2 => ih.l4 ws n w D hd hp hne2))
  ·exact rlevel_rows _ g 4 (by decide) wv all n' ws _ w h (rrows_4 (fun ws => lev f 5 ws D) g wv all n' ws _ w h f _ rfl hT (fun ws n w hp hne2 => ih.l5 ws n w D hd hp hne2) (fun ws y ws2 e => lev_sh f 5 ws D (by decide) y ws2 e))
  ·exact rlevel_rows _ g 5 (by decide) wv all n' ws _ w h (rrows_5 (fun ws => lev f 6 ws D) g wv all n' ws _ w h f _ rfl hT (fun ws n w hp hne2 => ih.l6 ws n w D hd hp hne2) (fun ws y ws2 e => lev_sh f 6 ws D (by decide) y ws2 e))
  ·have e : lev (f + 1) 6 ws D = (match tk wMinus ws with | some ws1 => aheadP 3 (deepP (fun ws d => lev f 6 ws d) ws1 D) | none => lev f 7 ws D):=rfl
   rw [e] at hT ⊢
   cases ht : tk wMinus ws with
   | some ws1 =>
    rw [ht] at hT
    simp only at hT
    have hT0 : deepP (fun ws d => lev f 6 ws d) ws1 D ≠ .error 99:=fun e9 => hT (by rw [e9];rfl)
    have q : ((D : Int) + 1) = ((D + 1 : Nat) : Int):=by omega
    refine rtook_neg g wv all hne n' ws ws1 D hd w h ht (lev f 6 ws1 (D + 1)) (fun h12 w1 n1 hp => ?_)
    rw [q] at hp ⊢
    exact ih.l6 ws1 n1 w1 (D + 1) (by omega) hp (fun e9 => hT0 (by unfold deepP;rw [if_neg h12];exact e9))
   | none =>
    rw [ht] at hT
    exact rlevel_neg g wv all hne n' ws _ w h ht (lev f 7 ws D) (fun w1 hp => ih.l7 ws n' w1 D hd hp hT)
  ·have e : lev (f + 1) 7 ws D = RestR (fun ws d => lev f 0 ws d) ws D:=rfl
   rw [e] at hT ⊢
   have q : ((D : Int) + 1) = ((D + 1 : Nat) : Int):=by omega
   refine rlevel_rest _ g wv all n' ws _ w h (rrest_any (fun ws d => lev f 0 ws d) g wv all hne hsz n' ws D hd w h hT (fun h12 ws1 w1 n1 hne2 hp => ?_))
   rw [q] at hp ⊢
   exact ih.l0 ws1 n1 w1 (D + 1) (by omega) hp hne2
theorem rexpr_any (g : Nat) (wv : Value) (all : Ws) (hne : ∀ x ∈ all,x ≠ ⟨#[]⟩) (hsz : ∀ x ∈ all,x.size ≤ 240) (n : Nat) (ws : Ws) (w : World) (h : RD w g wv all n ws 0 0) :
  Calls Tryz.prog 36 #[.pointer (some ⟨g,0,none⟩),.int .i64 0] w fun r w' => ∃ v,r = .returned v ∧ isSl v = true ∧ RLu w w' g wv all 0 (lev FU 0 ws 0) v :=
 (rlev8 g wv all hne hsz FU).l0 ws n w 0 (by decide) h (expr_fine ws 0 (by have:=rd_len h;have:=h.few;omega)).1
theorem px_numN (gp gm : Nat) (wv : Value) (ws : Ws) (d e : Int) (w : World) (h : PX w gp gm wv ws d e) (hn : numB 1000 (hdW ws) = (0,false)) :
  Calls Tryz.prog 82 #[.string (hdW ws),.int .i64 1000] w fun r w' => r = .returned (.tuple #[.int .i64 0,.bool false]) ∧ KeptB w w' (fun q => q = gp) ∧ PX w' gp gm wv ws d e:=by
 have h9:=qnumber_any 1000 (by decide) (hdW ws) (wq_hd h.wq) w h.tq.t
 rw [hn] at h9
 exact h9.mono fun r w' ⟨h1,h2⟩ => ⟨h1,keptB_of_below h2,px_below h h2⟩
theorem px_numY (gp gm : Nat) (wv : Value) (x : ByteArray) (ws : Ws) (n d e : Int) (w : World) (h : PX w gp gm wv (x :: ws) d e) (hn : numB 1000 x = (n,true)) :
  Calls Tryz.prog 82 #[.string x,.int .i64 1000] w fun r w' => r = .returned (.tuple #[.int .i64 n,.bool true]) ∧ KeptB w w' (fun q => q = gp) ∧ PX w' gp gm wv (x :: ws) d e:=by
 have h9:=qnumber_any 1000 (by decide) x (wq_hd h.wq) w h.tq.t
 rw [hn] at h9
 exact h9.mono fun r w' ⟨h1,h2⟩ => ⟨h1,keptB_of_below h2,px_below h h2⟩
theorem span_no (gp gm : Nat) (wv : Value) (ws : Ws) (d e : Int) (w : World) (h : PX w gp gm wv ws d e) (hn : numB 1000 (hdW ws) = (0,false)) :
  Calls Tryz.prog 54 #[.pointer (some ⟨gp,0,none⟩)] w fun r w' => r = .returned (.int .i64 0) ∧ KeptB w w' (fun q => q = gp) ∧ PX w' gp gm (.slice none 0 0) [] d (errN e 4):=by
 have NX:=hidE (px_next gp gm wv ws d e w h)
 have NU:=hidE (fun w hp => px_numN gp gm wv ws d e w hp hn)
 have FL:=hidE (fun w hp => px_fail gp gm wv ws d e w hp)
 clear h hn
 go_enter Tryz.func54,Tryz.ntmps54
 go_wp2_with fail
 refine NX.out.mono ?_
 rintro r w1 ⟨rfl,hk1,hp1⟩
 have K1:=hidE hk1
 have N1:=hidE (NU.out w1 hp1)
 clear hk1 hp1 NX NU
 go_wp2_with fail
 refine N1.out.mono ?_
 rintro r w2 ⟨rfl,hk2,hp2⟩
 have K2:=hidE (keptB_trans K1.out hk2)
 have F2:=hidE (FL.out w2 hp2)
 clear hk2 hp2 N1 K1 FL
 go_wp2_with fail
 refine F2.out.mono ?_
 rintro r w3 ⟨rfl,hk3,hp3⟩
 have K3:=hidE (keptB_trans K2.out hk3)
 have P3:=hidE hp3
 clear hk3 hp3 F2 K2
 go_wp2_with fail
 go_ret
 exact ⟨rfl,K3.out,P3.out⟩
theorem span_yes (gp gm : Nat) (wv : Value) (x : ByteArray) (ws : Ws) (n d e : Int) (w : World) (h : PX w gp gm wv (x :: ws) d e) (hn : numB 1000 x = (n,true)) :
  Calls Tryz.prog 54 #[.pointer (some ⟨gp,0,none⟩)] w fun r w' => r = .returned (.int .i64 n) ∧ KeptB w w' (fun q => q = gp) ∧ ∃ wv',PX w' gp gm wv' ws d e:=by
 have NX:=hidE (px_next gp gm wv (x :: ws) d e w h)
 have e9 : hdW (x :: ws) = x:=rfl
 rw [e9] at NX
 have NU:=hidE (fun w hp => px_numY gp gm wv x ws n d e w hp hn)
 have SK:=hidE (fun w hp => px_skip gp gm wv x ws d e w hp)
 clear h hn e9
 go_enter Tryz.func54,Tryz.ntmps54
 go_wp2_with fail
 refine NX.out.mono ?_
 rintro r w1 ⟨rfl,hk1,hp1⟩
 have K1:=hidE hk1
 have N1:=hidE (NU.out w1 hp1)
 clear hk1 hp1 NX NU
 go_wp2_with fail
 refine N1.out.mono ?_
 rintro r w2 ⟨rfl,hk2,hp2⟩
 have K2:=hidE (keptB_trans K1.out hk2)
 have S2:=hidE (SK.out w2 hp2)
 clear hk2 hp2 N1 K1 SK
 go_wp2_with fail
 refine S2.out.mono ?_
 rintro r w3 ⟨rfl,hk3,wv3,hp3⟩
 have K3:=hidE (keptB_trans K2.out hk3)
 have P3:=hidE hp3
 clear hk3 hp3 S2 K2
 go_wp2_with fail
 go_ret
 exact ⟨rfl,K3.out,wv3,P3.out⟩
theorem name_2 (w : World) : Calls Tryz.prog 42 #[.int .i64 2] w fun r w' => r = .returned (.string wCount) ∧ Below w.heap.size w w':=by
 go_enter Tryz.func42,Tryz.ntmps42
 go_wp2_with fail
 go_ret
 exact ⟨rfl,Below.refl _ _⟩
theorem name_3 (w : World) : Calls Tryz.prog 42 #[.int .i64 3] w fun r w' => r = .returned (.string wSum) ∧ Below w.heap.size w w':=by
 go_enter Tryz.func42,Tryz.ntmps42
 go_wp2_with fail
 go_ret
 exact ⟨rfl,Below.refl _ _⟩
theorem name_4 (w : World) : Calls Tryz.prog 42 #[.int .i64 4] w fun r w' => r = .returned (.string wMin) ∧ Below w.heap.size w w':=by
 go_enter Tryz.func42,Tryz.ntmps42
 go_wp2_with fail
 go_ret
 exact ⟨rfl,Below.refl _ _⟩
theorem name_5 (w : World) : Calls Tryz.prog 42 #[.int .i64 5] w fun r w' => r = .returned (.string wMax) ∧ Below w.heap.size w w':=by
 go_enter Tryz.func42,Tryz.ntmps42
 go_wp2_with fail
 go_ret
 exact ⟨rfl,Below.refl _ _⟩
def AggKR (w w' : World) (gp gm : Nat) (ws : Ws) (d e : Int) (r : Ending) : Prop:=KeptB w w' (fun q => q = gp) ∧ match aggK ws with
 | some (k,ws1) => r = .returned (.int .i64 k) ∧ ∃ wv',PX w' gp gm wv' ws1 d e
 | none => r = .returned (.int .i64 0) ∧ PX w' gp gm (.slice none 0 0) [] d (errN e 4)
def KS (ws : Ws) (v : Value) : Prop:=v = .int .i64 2 ∨ (v = .int .i64 3 ∧ tk wCount ws = none) ∨ (v = .int .i64 4 ∧ tk wCount ws = none ∧ tk wSum ws = none) ∨
 (v = .int .i64 5 ∧ tk wCount ws = none ∧ tk wSum ws = none ∧ tk wMin ws = none) ∨ (v = .int .i64 6 ∧ tk wCount ws = none ∧ tk wSum ws = none ∧ tk wMin ws = none ∧ tk wMax ws = none)
theorem aggKind_any (gp gm : Nat) (wv : Value) (ws : Ws) (d e : Int) (w : World) (h : PX w gp gm wv ws d e) :
  Calls Tryz.prog 77 #[.pointer (some ⟨gp,0,none⟩)] w fun r w' => AggKR w w' gp gm ws d e r:=by
 have H0:=hidE h
 have R0:=hidE (keptB_of_below (bad:=fun q => q = gp) (Below.refl w.heap.size w))
 clear h
 go_enter Tryz.func77,Tryz.ntmps77
 go_wp2_with fail
 go_loopw [3] (fun v wr => KS ws v ∧ Hid (KeptB w wr (fun q => q = gp)) ∧ Hid (PX wr gp gm wv ws d e)) (fun v _ => 6 - (intOf v).toNat)
 case atStart => exact ⟨.inl rfl,R0,H0⟩
 case round =>
  clear R0 H0
  obtain ⟨hks,HK,HP⟩:=hrel
  rcases hks with rfl | ⟨rfl,t0⟩ | ⟨rfl,t0,t1⟩ | ⟨rfl,t0,t1,t2⟩ | ⟨rfl,t0,t1,t2,t3⟩
  ·have NM:=hidE (name_2 wr)
   cases ht : tk wCount ws with
   | some r =>
    have ea : aggK ws = some (2,r):=by unfold aggK;simp only [ht]
    have EA:=hidE ea
    have TK:=hidE (fun w hp => px_yes gp gm wCount (by decide) wv ws r d e w hp ht)
    clear ht ea
    go_wp2_with fail
    refine NM.out.mono ?_
    rintro r1 w1 ⟨rfl,hb1⟩
    have K1:=hidE (keptB_trans HK.out (keptB_of_below hb1))
    have T1:=hidE (TK.out w1 (px_below HP.out hb1))
    clear hb1 NM HK TK HP
    go_wp2_with fail
    refine T1.out.mono ?_
    rintro r2 w2 ⟨rfl,hk2,wv2,hp2⟩
    have K2:=hidE (keptB_trans K1.out hk2)
    have P2:=hidE hp2
    clear hk2 hp2 T1 K1
    go_wp2_with fail
    go_ret
    unfold AggKR
    rw [EA.out]
    exact ⟨K2.out,rfl,wv2,P2.out⟩
   | none =>
    have TK:=hidE (fun w hp => px_no gp gm wCount (by decide) wv ws d e w hp ht)
    have HT:=hidE ht
    clear ht
    go_wp2_with fail
    refine NM.out.mono ?_
    rintro r1 w1 ⟨rfl,hb1⟩
    have K1:=hidE (keptB_trans HK.out (keptB_of_below hb1))
    have T1:=hidE (TK.out w1 (px_below HP.out hb1))
    clear hb1 NM HK TK HP
    go_wp2_with fail
    refine T1.out.mono ?_
    rintro r2 w2 ⟨rfl,hk2,hp2⟩
    have K2:=hidE (keptB_trans K1.out hk2)
    have P2:=hidE hp2
    clear hk2 hp2 T1 K1
    go_wp2_with fail
    go_roundw
    case rel => exact ⟨.inr (.inl ⟨rfl,HT.out⟩),K2,P2⟩
    case measure => decide
  ·have NM:=hidE (name_3 wr)
   cases ht : tk wSum ws with
   | some r =>
    have ea : aggK ws = some (3,r):=by unfold aggK;simp only [t0,ht]
    have EA:=hidE ea
    have TK:=hidE (fun w hp => px_yes gp gm wSum (by decide) wv ws r d e w hp ht)
    clear ht ea t0
    go_wp2_with fail
    refine NM.out.mono ?_
    rintro r1 w1 ⟨rfl,hb1⟩
    have K1:=hidE (keptB_trans HK.out (keptB_of_below hb1))
    have T1:=hidE (TK.out w1 (px_below HP.out hb1))
    clear hb1 NM HK TK HP
    go_wp2_with fail
    refine T1.out.mono ?_
    rintro r2 w2 ⟨rfl,hk2,wv2,hp2⟩
    have K2:=hidE (keptB_trans K1.out hk2)
    have P2:=hidE hp2
    clear hk2 hp2 T1 K1
    go_wp2_with fail
    go_ret
    unfold AggKR
    rw [EA.out]
    exact ⟨K2.out,rfl,wv2,P2.out⟩
   | none =>
    have TK:=hidE (fun w hp => px_no gp gm wSum (by decide) wv ws d e w hp ht)
    have HT:=hidE ht
    have T0:=hidE t0;clear ht t0
    go_wp2_with fail
    refine NM.out.mono ?_
    rintro r1 w1 ⟨rfl,hb1⟩
    have K1:=hidE (keptB_trans HK.out (keptB_of_below hb1))
    have T1:=hidE (TK.out w1 (px_below HP.out hb1))
    clear hb1 NM HK TK HP
    go_wp2_with fail
    refine T1.out.mono ?_
    rintro r2 w2 ⟨rfl,hk2,hp2⟩
    have K2:=hidE (keptB_trans K1.out hk2)
    have P2:=hidE hp2
    clear hk2 hp2 T1 K1
    go_wp2_with fail
    go_roundw
    case rel => exact ⟨.inr (.inr (.inl ⟨rfl,T0.out,HT.out⟩)),K2,P2⟩
    case measure => decide
  ·have NM:=hidE (name_4 wr)
   cases ht : tk wMin ws with
   | some r =>
    have ea : aggK ws = some (4,r):=by unfold aggK;simp only [t0,t1,ht]
    have EA:=hidE ea
    have TK:=hidE (fun w hp => px_yes gp gm wMin (by decide) wv ws r d e w hp ht)
    clear ht ea t0 t1
    go_wp2_with fail
    refine NM.out.mono ?_
    rintro r1 w1 ⟨rfl,hb1⟩
    have K1:=hidE (keptB_trans HK.out (keptB_of_below hb1))
    have T1:=hidE (TK.out w1 (px_below HP.out hb1))
    clear hb1 NM HK TK HP
    go_wp2_with fail
    refine T1.out.mono ?_
    rintro r2 w2 ⟨rfl,hk2,wv2,hp2⟩
    have K2:=hidE (keptB_trans K1.out hk2)
    have P2:=hidE hp2
    clear hk2 hp2 T1 K1
    go_wp2_with fail
    go_ret
    unfold AggKR
    rw [EA.out]
    exact ⟨K2.out,rfl,wv2,P2.out⟩
   | none =>
    have TK:=hidE (fun w hp => px_no gp gm wMin (by decide) wv ws d e w hp ht)
    have HT:=hidE ht
    have T0:=hidE t0;have T1:=hidE t1;clear ht t0 t1
    go_wp2_with fail
    refine NM.out.mono ?_
    rintro r1 w1 ⟨rfl,hb1⟩
    have K1:=hidE (keptB_trans HK.out (keptB_of_below hb1))
    have T1:=hidE (TK.out w1 (px_below HP.out hb1))
    clear hb1 NM HK TK HP
    go_wp2_with fail
    refine T1.out.mono ?_
    rintro r2 w2 ⟨rfl,hk2,hp2⟩
    have K2:=hidE (keptB_trans K1.out hk2)
    have P2:=hidE hp2
    clear hk2 hp2 T1 K1
    go_wp2_with fail
    go_roundw
    case rel => exact ⟨.inr (.inr (.inr (.inl ⟨rfl,T0.out,T1.out,HT.out⟩))),K2,P2⟩
    case measure => decide
  ·have NM:=hidE (name_5 wr)
   cases ht : tk wMax ws with
   | some r =>
    have ea : aggK ws = some (5,r):=by unfold aggK;simp only [t0,t1,t2,ht]
    have EA:=hidE ea
    have TK:=hidE (fun w hp => px_yes gp gm wMax (by decide) wv ws r d e w hp ht)
    clear ht ea t0 t1 t2
    go_wp2_with fail
    refine NM.out.mono ?_
    rintro r1 w1 ⟨rfl,hb1⟩
    have K1:=hidE (keptB_trans HK.out (keptB_of_below hb1))
    have T1:=hidE (TK.out w1 (px_below HP.out hb1))
    clear hb1 NM HK TK HP
    go_wp2_with fail
    refine T1.out.mono ?_
    rintro r2 w2 ⟨rfl,hk2,wv2,hp2⟩
    have K2:=hidE (keptB_trans K1.out hk2)
    have P2:=hidE hp2
    clear hk2 hp2 T1 K1
    go_wp2_with fail
    go_ret
    unfold AggKR
    rw [EA.out]
    exact ⟨K2.out,rfl,wv2,P2.out⟩
   | none =>
    have TK:=hidE (fun w hp => px_no gp gm wMax (by decide) wv ws d e w hp ht)
    have HT:=hidE ht
    have T0:=hidE t0;have T1:=hidE t1;have T2:=hidE t2;clear ht t0 t1 t2
    go_wp2_with fail
    refine NM.out.mono ?_
    rintro r1 w1 ⟨rfl,hb1⟩
    have K1:=hidE (keptB_trans HK.out (keptB_of_below hb1))
    have T1:=hidE (TK.out w1 (px_below HP.out hb1))
    clear hb1 NM HK TK HP
    go_wp2_with fail
    refine T1.out.mono ?_
    rintro r2 w2 ⟨rfl,hk2,hp2⟩
    have K2:=hidE (keptB_trans K1.out hk2)
    have P2:=hidE hp2
    clear hk2 hp2 T1 K1
    go_wp2_with fail
    go_roundw
    case rel => exact ⟨.inr (.inr (.inr (.inr (⟨rfl,T0.out,T1.out,T2.out,HT.out⟩)))),K2,P2⟩
    case measure => decide
  ·have ea : aggK ws = none:=by unfold aggK;simp only [t0,t1,t2,t3]
   have EA:=hidE ea
   have FL:=hidE (px_fail gp gm wv ws d e wr HP.out)
   clear ea t0 t1 t2 t3 HP
   go_wp2_with fail
   refine FL.out.mono ?_
   rintro r1 w1 ⟨rfl,hk1,hp1⟩
   have K1:=hidE (keptB_trans HK.out hk1)
   have P1:=hidE hp1
   clear hk1 hp1 HK FL
   go_wp2_with fail
   go_ret
   unfold AggKR
   rw [EA.out]
   exact ⟨K1.out,rfl,P1.out⟩
end Go.Proofs.YteaanpdckkmjoaaGreatDoor
