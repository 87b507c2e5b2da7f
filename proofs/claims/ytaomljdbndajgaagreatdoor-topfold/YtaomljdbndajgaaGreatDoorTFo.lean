/- The law TopFold, over this seat's translation. Conditions: the library's tables and the fields' names lie. -/
import Derived.Test.YtaomljdbndajgaaGreatDoorFoQJ
import Derived.Test.YtaomljdbndajgaaGreatDoorFold4J
import Derived.Test.YtaomljdbndajgaaGreatDoorAskJ
import Derived.Maps.AppendAt
set_option linter.unusedVariables false
set_option linter.unusedSimpArgs false
set_option maxRecDepth 100000
set_option maxHeartbeats 8000000
namespace Go.Proofs.YtaomljdbndajgaaGreatDoor
open Go.ChangeShapes Go.WideShapes Go.ChangeAt Go.RowKit
attribute [local go_sem ↓] eql_value neq_value
def tn : Ex:=.one 4 (.cst 2 1)
theorem tn_wf : Wf tn:=⟨rfl,rfl⟩
theorem tn_fold : foldT tn = .cst 2 0:=rfl
theorem infoAg9 : (Tryz.prog.info? 37).map (fun i => (i.zero,i.size,i.bytes)) = some (some (.agg #[.int .i64 0,.slice none 0 0]),2,32):=by kernel_rfl
theorem rowG_tn (w : World) : RowT (w.alloc (.cells #[.int .i64 1,.int .i64 0,.int .i64 0,.int .i64 0,.int .i64 2,.int .i64 1,.int .i64 4,.int .i64 0,.int .i64 0,.int .i64 0,.int .i64 0,.int .i64 0] 29)) (.slice (some ⟨w.heap.size,0,none⟩) 2 2) tn:=by
 have h:=World.ownsRow_lit (base:=0) (size:=6) (e:=29) w #[.int .i64 1,.int .i64 0,.int .i64 0,.int .i64 0,.int .i64 2,.int .i64 1,.int .i64 4,.int .i64 0,.int .i64 0,.int .i64 0,.int .i64 0,.int .i64 0] 2 (Nat.zero_le _) (by decide) rfl
 exact rowG_of_owns h
theorem nodG_heap {w w' : World} {v : Value} {l : List Nd} (h : NodG w v l) (hs : w.heap.size ≤ w'.heap.size) (hk : l = [] ∨ ∀ a n c,v = .slice (some a) n c → w'.heap[a.block]? = w.heap[a.block]?) : NodG w' v l:=by
 obtain ⟨h0,h1⟩:=h
 refine ⟨h0,?_⟩
 rcases h1 with h1 | ⟨g,off,cap,rfl,h2,h3,h4,h5⟩
 ·exact .inl h1
 ·refine .inr ⟨g,off,cap,rfl,h2,h3,Nat.lt_of_lt_of_le h4 hs,fun j hj => ?_⟩
  rcases hk with rfl | hk
  ·simp at hj
  ·exact (World.cell?_of_block (w:=w) (a:=⟨g,off + j,none⟩) (hk ⟨g,off,none⟩ _ _ rfl)).trans (h5 j hj)
def FarN (pb : Nat) (v p2 : Value) (l : List Nd) : Prop:=l = [] ∨ ∀ a n c,p2 = .slice (some a) n c → pb < a.block ∧ v.ownBlock ≠ some a.block
structure FoR (w9 : World) (pb : Nat) (rest : List Value) (q : Qy) (wr : World) (v : Value) (L : List (AgQ × Value)) : Prop where
 bp : BlkAt wr pb (v :: rest)
 own : wr.ownsRow (pb + 1) 37 2 v L.length (rowOf cellsAg L)
 nds : ∀ p ∈ L,NodG wr p.2 p.1.of ∧ p.1.of.length ≤ 40 ∧ FarN pb v p.2 p.1.of
 fa : ∀ (i : Nat) (a : AgQ) (p : AgQ × Value),q.aggs[i]? = some a → L[i]? = some p → FoldA a p.1
 old : Below pb w9 wr
theorem foR_next {w9 wr wf : World} {pb ab : Nat} {rest : List Value} {q : Qy} {v v' u : Value} {L : List (AgQ × Value)} {a b : AgQ} (h : FoR w9 pb rest q wr v L) (hpb : pb ≤ w9.heap.size) (hab : ab = wr.heap.size) (ha : q.aggs[L.length]? = some a) (hf : FoldA a b)
  (K : KeptB wr wf (fun k => k = pb ∨ k = ab ∨ v.ownBlock = some k)) (hbp : BlkAt wf pb (v' :: rest)) (hown : wf.ownsRow (pb + 1) 37 2 v' (L.length + 1) (rowOf cellsAg L ++ cellsAg (b,u)))
  (hv : v'.ownBlock = v.ownBlock ∨ ∃ k,v'.ownBlock = some k ∧ wr.heap.size ≤ k ∧ (b.of = [] ∨ ∀ a9 n9 c9,u = .slice (some a9) n9 c9 → a9.block ≠ k)) (hu : NodG wf u b.of) (hul : b.of.length ≤ 40)
  (huf : b.of = [] ∨ ∀ a9 n9 c9,u = .slice (some a9) n9 c9 → wr.heap.size < a9.block) : FoR w9 pb rest q wf v' (L ++ [(b,u)]):=by
 have hob:=own_at h.own
 refine ⟨hbp,?_,fun p hp => ?_,fun i a9 p h1 h2 => ?_,?_⟩
 ·rw [List.length_append,rowOf_app,rowOf_one]
  exact hown
 ·rcases List.mem_append.1 hp with hp | hp
  ·obtain ⟨n1,n2,n3⟩:=h.nds p hp
   have hg : ∀ a9 n9 c9,p.2 = .slice (some a9) n9 c9 → p.1.of = [] ∨ a9.block < wr.heap.size:=fun a9 n9 c9 e => by
    rcases n1.2 with ⟨-,e9⟩ | ⟨g,off,cap,e1,-,-,e4,-⟩
    ·exact .inl (List.eq_nil_of_length_eq_zero e9)
    ·rw [e1] at e
     cases e
     exact .inr e4
   refine ⟨nodG_heap n1 K.b0.size ?_,n2,?_⟩
   ·rcases n3 with n3 | n3
    ·exact .inl n3
    ·by_cases he : p.1.of = []
     ·exact .inl he
     ·refine .inr fun a9 n9 c9 e => ?_
      obtain ⟨f1,f2⟩:=n3 a9 n9 c9 e
      have f3:=(hg a9 n9 c9 e).resolve_left he
      exact K.block _ f3 (by rintro (e9 | e9 | e9) <;> first | omega | exact f2 e9)
   ·rcases n3 with n3 | n3
    ·exact .inl n3
    ·by_cases he : p.1.of = []
     ·exact .inl he
     ·refine .inr fun a9 n9 c9 e => ?_
      obtain ⟨f1,f2⟩:=n3 a9 n9 c9 e
      have f3:=(hg a9 n9 c9 e).resolve_left he
      refine ⟨f1,?_⟩
      rcases hv with e9 | ⟨k,e9,k1,-⟩
      ·rw [e9];exact f2
      ·rw [e9]
       intro e8
       cases e8
       omega
  ·rw [List.mem_singleton.1 hp]
   refine ⟨hu,hul,?_⟩
   rcases huf with huf | huf
   ·exact .inl huf
   ·by_cases he : b.of = []
    ·exact .inl he
    ·refine .inr fun a9 n9 c9 e => ?_
     have f1:=huf a9 n9 c9 e
     have f0:=h.bp.lt
     refine ⟨by omega,?_⟩
     rcases hv with e9 | ⟨k,e9,k1,k2⟩
     ·rw [e9]
      intro e8
      have:=(hob _ e8).2
      omega
     ·rw [e9]
      intro e8
      cases e8
      exact k2.resolve_left he a9 n9 c9 e rfl
 ·by_cases hi : i < L.length
  ·rw [List.getElem?_append_left hi] at h2
   exact h.fa i a9 p h1 h2
  ·rw [List.getElem?_append_right (by omega)] at h2
   have hi0 : i - L.length < 1:=by simpa using (List.getElem?_eq_some_iff.1 h2).1
   obtain rfl : i = L.length:=by omega
   rw [Nat.sub_self] at h2
   cases h2
   rw [ha] at h1
   cases h1
   exact hf
 ·have hsz:=h.old.size
  refine h.old.trans (keptB_below K (by omega) ?_)
  rintro k (rfl | rfl | e9)
  ·exact Nat.le_refl _
  ·have:=h.bp.lt;omega
  ·have:=(hob k e9).1;omega
def NdP (w : World) (pb : Nat) (v : Value) (l : List Nd) : Prop:=NodG w v l ∧ l.length ≤ 40 ∧ (l = [] ∨ ∀ a n c,v = .slice (some a) n c → pb ≠ a.block)
theorem ndP_below {w w' : World} {pb : Nat} {v : Value} {l : List Nd} (h : NdP w pb v l) (hb : Below w.heap.size w w') : NdP w' pb v l:=⟨rowG_below h.1 hb,h.2.1,h.2.2⟩
theorem ndP_set {w : World} {pb : Nat} {v : Value} {l : List Nd} (h : NdP w pb v l) (o : Nat) (u : Value) : NdP (w.setCell ⟨pb,o,none⟩ u) pb v l:=by
 refine ⟨nodG_heap h.1 (by simp) ?_,h.2.1,h.2.2⟩
 rcases h.2.2 with e | e
 ·exact .inl e
 ·exact .inr fun a n c e9 => Below.heap_setCell w _ u a.block (fun e8 => e a n c e9 e8.symm)
structure FoP (w9 : World) (pb : Nat) (q : Qy) (w : World) (va vw vb : Value) (L : List (AgQ × Value)) (lw lb : List Nd) : Prop where
 bp : BlkAt w pb [va,vw,vb,.int .i64 q.size,.int .i64 q.slide,.int .i64 q.delay,.int .i64 q.late]
 own : w.ownsRow (pb + 1) 37 2 va L.length (rowOf cellsAg L)
 nds : ∀ p ∈ L,NdP w pb p.2 p.1.of
 wh : NdP w pb vw lw
 by_ : NdP w pb vb lb
 old : Below pb w9 w
theorem foP_below {w9 w w' : World} {pb : Nat} {q : Qy} {va vw vb : Value} {L : List (AgQ × Value)} {lw lb : List Nd} (h : FoP w9 pb q w va vw vb L lw lb) (hb : Below w.heap.size w w') : FoP w9 pb q w' va vw vb L lw lb :=
 ⟨blk_below h.bp hb h.bp.lt,own_keep h.own hb (Nat.le_refl _),fun p hp => ndP_below (h.nds p hp) hb,ndP_below h.wh hb,ndP_below h.by_ hb,h.old.trans (hb.mono (Nat.le_of_lt h.bp.lt))⟩
theorem foP_own {w : World} {pb n : Nat} {va : Value} {xs : List Value} (h : w.ownsRow (pb + 1) 37 2 va n xs) (o : Nat) (u : Value) : (w.setCell ⟨pb,o,none⟩ u).ownsRow (pb + 1) 37 2 va n xs :=
 own_kept h (keptB_set (keptB_of_below (bad:=fun k => k = pb) (Below.refl _ _)) rfl o u) (fun k e e9 => by have:=(own_at h k e).1;omega)
theorem foP_wh {w9 w : World} {pb : Nat} {q : Qy} {va vw vb u : Value} {L : List (AgQ × Value)} {lw lb l : List Nd} (h : FoP w9 pb q w va vw vb L lw lb) (hu : NdP w pb u l) : FoP w9 pb q (w.setCell ⟨pb,1,none⟩ u) va u vb L l lb :=
 ⟨by simpa using blk_set h.bp 1 u (by simp),foP_own h.own 1 u,fun p hp => ndP_set (h.nds p hp) 1 u,ndP_set hu 1 u,ndP_set h.by_ 1 u,h.old.setCell (p:=⟨pb,1,none⟩) (Nat.le_refl _) u⟩
theorem foP_by {w9 w : World} {pb : Nat} {q : Qy} {va vw vb u : Value} {L : List (AgQ × Value)} {lw lb l : List Nd} (h : FoP w9 pb q w va vw vb L lw lb) (hu : NdP w pb u l) : FoP w9 pb q (w.setCell ⟨pb,2,none⟩ u) va vw u L lw l :=
 ⟨by simpa using blk_set h.bp 2 u (by simp),foP_own h.own 2 u,fun p hp => ndP_set (h.nds p hp) 2 u,ndP_set h.wh 2 u,ndP_set hu 2 u,h.old.setCell (p:=⟨pb,2,none⟩) (Nat.le_refl _) u⟩
def qyP (q : Qy) (L : List (AgQ × Value)) (lw lb : List Nd) : Qy:={ q with aggs:=L.map Prod.fst,wh:=lw,bys:=lb }
theorem foP_G {w9 w : World} {pb : Nat} {q : Qy} {va vw vb : Value} {L : List (AgQ × Value)} {lw lb : List Nd} (h : FoP w9 pb q w va vw vb L lw lb) : QyG w va vw vb (qyP q L lw lb) L :=
 ⟨⟨rowG_of_owns h.own,fun p hp => ⟨(h.nds p hp).1,by have:=(h.nds p hp).2.1;omega⟩⟩,rfl,h.wh.1,h.by_.1,by have:=h.wh.2.1;show lw.length ≤ 1000;omega,by have:=h.by_.2.1;show lb.length ≤ 1000;omega⟩
theorem ndP_old {w9 w : World} {v : Value} {l : List Nd} (h : NodG w9 v l) (hl : l.length ≤ 40) (hb : Below w9.heap.size w9 w) : NdP w w9.heap.size v l:=by
 refine ⟨rowG_below h hb,hl,?_⟩
 rcases h.2 with ⟨-,e9⟩ | ⟨g,off,cap,e1,-,-,e4,-⟩
 ·exact .inl (List.eq_nil_of_length_eq_zero e9)
 ·refine .inr fun a n c e => ?_
  rw [e1] at e
  cases e
  show w9.heap.size ≠ g
  omega
theorem foP_of {w9 w : World} {q : Qy} {va vw vb : Value} {L : List (AgQ × Value)} (h : FoR w9 w9.heap.size [vw,vb,.int .i64 q.size,.int .i64 q.slide,.int .i64 q.delay,.int .i64 q.late] q w va L) (hw : NodG w9 vw q.wh) (hb : NodG w9 vb q.bys) (lw : q.wh.length ≤ 40) (lb : q.bys.length ≤ 40) : FoP w9 w9.heap.size q w va vw vb L q.wh q.bys :=
 ⟨h.bp,h.own,fun p hp => by
  obtain ⟨n1,n2,n3⟩:=h.nds p hp
  refine ⟨n1,n2,n3.imp id fun n3 a n c e => ?_⟩
  have:=(n3 a n c e).1
  omega,ndP_old hw lw h.old,ndP_old hb lb h.old,h.old⟩
theorem foldQ_of {w9 w : World} {pb : Nat} {rest : List Value} {q : Qy} {va : Value} {L : List (AgQ × Value)} (h : FoR w9 pb rest q w va L) (hl : L.length = q.aggs.length) {lw lb : List Nd} (hw : (q.wh = [] ∧ lw = []) ∨ FoldOf q.wh lw) (hb : (q.bys = [] ∧ lb = []) ∨ FoldOf q.bys lb) : FoldQ q (qyP q L lw lb) :=
 ⟨by simpa [qyP] using hl,fun i a b h1 h2 => by
  have h2 : (L.map Prod.fst)[i]? = some b:=h2
  rw [List.getElem?_map] at h2
  cases hp : L[i]? with
  | none => rw [hp] at h2;simp at h2
  | some p =>
   rw [hp] at h2
   simp only [Option.map_some,Option.some.injEq] at h2
   rw [← h2]
   exact h.fa i a p h1 hp,hw,hb,rfl,rfl,rfl,rfl⟩
theorem chk_len {l : List Nd} (h : 0 < l.length → chkE l = 0) : l.length ≤ 40:=by
 by_cases h0 : 0 < l.length
 ·obtain ⟨t,-,-,h40⟩:=chk_flat (h h0)
  exact h40
 ·omega
theorem topFold_walk (s : ByteArray) (pv : Value) (vs : List Value) (M : List (List Ev)) (w : World) (ht : TabQ w) (hM : PtsR w pv vs M) (hml : M.length ≤ maxLen) :
  Calls Tryz.prog 3 #[.string s,pv] w fun e w' => e = .returned (.bool true) ∧ Below w.heap.size w w':=by
 obtain ⟨ap,cp,rfl⟩:=rowG_shape hM.row
 have FA0:=Fold_any tn _ _ tn_wf (by decide +kernel) (rowG_tn (w.alloc (.cells #[.int .i64 2,.int .i64 1] 26)))
 rw [tn_fold] at FA0
 simp only [World.size_alloc] at FA0
 have FA:=hidE FA0
 have HT:=hidE ht
 have HM:=hidE hM
 have b2:=below2 w (.cells #[.int .i64 2,.int .i64 1] 26) (.cells #[.int .i64 1,.int .i64 0,.int .i64 0,.int .i64 0,.int .i64 2,.int .i64 1,.int .i64 4,.int .i64 0,.int .i64 0,.int .i64 0,.int .i64 0,.int .i64 0] 29)
 have BN:=hidE b2
 clear ht hM FA0 b2
 go_enter Tryz.func3,Tryz.ntmps3
 go_wp2_with fail
 refine (truth_any true _).mono ?_
 rintro e w0 ⟨rfl,rfl⟩
 go_wp2_with fail
 refine FA.out.mono ?_
 rintro e w1 ⟨u1,rfl,hr,hb,-⟩
 obtain ⟨ao,cap,hu⟩:=rowG_shape hr
 have e1 : (flat (Ex.cst 2 0)).length = 1:=rfl
 rw [e1] at hu
 subst hu
 obtain ⟨g,off,rfl,q1,q2⟩:=const_head hr
 have HCC:=hidE (fun w' (hb : Below w1.heap.size w1 w') => const_cells hr w' hb)
 unfold maxLen at q2
 have hszn : (((w.alloc (.cells #[.int .i64 2,.int .i64 1] 26)).alloc (.cells #[.int .i64 1,.int .i64 0,.int .i64 0,.int .i64 0,.int .i64 2,.int .i64 1,.int .i64 4,.int .i64 0,.int .i64 0,.int .i64 0,.int .i64 0,.int .i64 0] 29))).heap.size = w.heap.size + 1 + 1:=by simp
 rw [← hszn] at hb
 have B1:=nxt BN hb
 clear hr hb FA BN hszn e1
 go_wp2_with fail
 refine wp_region_held (S:=fun w' => Below w1.heap.size w1 w') (by kernel_rfl) ?_
 have hS : Below w1.heap.size w1 ({ w1 with drawn:=w1.drawn + 1 } : World):=(Below.refl _ _).drew
 generalize ({ w1 with drawn:=w1.drawn + 1 } : World) = wd at *
 refine held_take (i:=0) (v:=.slice (some ⟨g,off,none⟩) 1 cap) (L:=#[true,false,false,false,false,false,false,false,false,false,false]) rfl (by kernel_rfl) (by kernel_rfl) (by kernel_rfl) (fun c a w h => h) (Or.inl ⟨by kernel_rfl,fun wq hq => by go_simp⟩) hS (by kernel_rfl) ?_
 refine held_take (i:=1) (v:=.int .i64 1) (L:=#[true,true,false,false,false,false,false,false,false,false,false]) rfl (by kernel_rfl) (by kernel_rfl) (by kernel_rfl) (fun c a w h => h) (Or.inl ⟨by kernel_rfl,fun wq hq => by go_simp⟩) hS (by kernel_rfl) ?_
 refine held_take (i:=2) (v:=.bool false) (L:=#[true,true,true,false,false,false,false,false,false,false,false]) rfl (by kernel_rfl) (by kernel_rfl) (by kernel_rfl) (fun c a w h => h) (Or.inl ⟨by kernel_rfl,fun wq hq => by go_simp⟩) hS (by kernel_rfl) ?_
 refine held_take (i:=3) (v:=.bool false) (L:=#[true,true,true,true,false,false,false,false,false,false,false]) rfl (by kernel_rfl) (by kernel_rfl) (by kernel_rfl) (fun c a w h => h) (Or.inl ⟨by kernel_rfl,fun wq hq => by go_simp⟩) hS (by kernel_rfl) ?_
 refine held_take (i:=4) (v:=.slice (some ⟨g,off,none⟩) 1 cap) (L:=#[true,true,true,true,true,false,false,false,false,false,false]) rfl (by kernel_rfl) (by kernel_rfl) (by kernel_rfl) (fun c a w h => h) (Or.inl ⟨by kernel_rfl,fun wq hq => by go_simp⟩) hS (by kernel_rfl) ?_
 refine held_take (i:=5) (v:=.pointer (some ⟨g,off,none⟩)) (L:=#[true,true,true,true,true,true,false,false,false,false,false]) rfl (by kernel_rfl) (by kernel_rfl) (by kernel_rfl) (fun c a w h => h) (Or.inl ⟨by kernel_rfl,fun wq hq => by first | (go_simp;done) | (go_simp;simp)⟩) hS (by kernel_rfl) ?_
 refine held_take (i:=6) (v:=.pointer (some ⟨g,off + 4,none⟩)) (L:=#[true,true,true,true,true,true,true,false,false,false,false]) rfl (by kernel_rfl) (by kernel_rfl) (by kernel_rfl) (fun c a w h => h) (Or.inl ⟨by kernel_rfl,fun wq hq => by go_simp⟩) hS (by kernel_rfl) ?_
 refine held_take (i:=7) (v:=.agg #[.int .i64 2,.int .i64 0]) (L:=#[true,true,true,true,true,true,true,true,false,false,false]) rfl (by kernel_rfl) (by kernel_rfl) (by kernel_rfl) (fun c a w h => h) (Or.inl ⟨by kernel_rfl,fun wq hq => by obtain ⟨y4,y5⟩:=HCC.out wq hq;go_simp⟩) hS (by kernel_rfl) ?_
 refine held_go (i:=8) (L:=#[true,true,true,true,true,true,true,true,true,false,false]) (by kernel_rfl) rfl (by kernel_rfl) (by kernel_rfl) ?_
 intro K' hK
 go_simp
 refine (truth_any false _).mono ?_
 rintro e wt ⟨rfl,hwt⟩
 have hbt : Below wd.heap.size wd wt:=by rw [hwt];exact below_alloc _ _
 have hS1:=hS.trans (hbt.mono hS.size)
 refine hK _ _ ⟨hS1,?_⟩
 clear hK hwt hbt
 refine held_take (i:=9) (v:=.bool false) (L:=#[true,true,true,true,true,true,true,true,true,true,false]) rfl (by kernel_rfl) (by kernel_rfl) (by kernel_rfl) (fun c a w h => h) (Or.inl ⟨by kernel_rfl,fun wq hq => by go_simp⟩) hS1 (by kernel_rfl) ?_
 refine held_take (i:=10) (v:=.bool false) (L:=#[true,true,true,true,true,true,true,true,true,true,true]) rfl (by kernel_rfl) (by kernel_rfl) (by kernel_rfl) (fun c a w h => h) (Or.inl ⟨by kernel_rfl,fun wq hq => by go_simp⟩) hS1 (by kernel_rfl) ?_
 refine wpAnyH_done (by kernel_rfl) ?_ _
 have B2:=nxt B1 hS1
 have ASK:=asked_any s wt (HT.out.below B2.out)
 unfold AskR at ASK
 have ASKH:=hidE ASK
 clear hS hS1 HCC B1 ASK
 go_wp2_with fail
 refine ASKH.out.mono ?_
 rintro r w7 ⟨hb,hr⟩
 have B7:=nxt B2 hb
 clear ASKH B2
 rcases hr with rfl | ⟨qq,va,vw,vb,pp,hpq,rfl,hqo⟩
 ·unfold qzV
  clear hb
  go_wp2_with fail
  go_ret
  exact ⟨rfl,B7.out.alloc B7.out.size _⟩
 ·have hqg:=qyO_G hqo
  obtain ⟨o1,d1,rfl⟩:=rowG_shape hqg.ag.row
  obtain ⟨o2,d2,rfl⟩:=rowG_shape hqg.wh
  obtain ⟨o3,d3,rfl⟩:=rowG_shape hqg.by_
  have B8:=hidE (B7.out.alloc B7.out.size (.cells #[Value.slice o1 pp.length d1,Value.slice o2 qq.wh.length d2,Value.slice o3 qq.bys.length d3,Value.int .i64 qq.size,Value.int .i64 qq.slide,Value.int .i64 qq.delay,Value.int .i64 qq.late] 32))
  have G8:=hidE (qyG_below hqg (below_alloc w7 (.cells #[Value.slice o1 pp.length d1,Value.slice o2 qq.wh.length d2,Value.slice o3 qq.bys.length d3,Value.int .i64 qq.size,Value.int .i64 qq.slide,Value.int .i64 qq.delay,Value.int .i64 qq.late] 32)))
  have BQ8:=hidE (blk_alloc w7 [Value.slice o1 pp.length d1,Value.slice o2 qq.wh.length d2,Value.slice o3 qq.bys.length d3,Value.int .i64 qq.size,Value.int .i64 qq.slide,Value.int .i64 qq.delay,Value.int .i64 qq.late] 32)
  have HC8:=hidE (chk_of_parse hpq)
  have LT:=hidE (light_any (.slice ap M.length cp) vs M (w7.alloc (.cells #[Value.slice o1 pp.length d1,Value.slice o2 qq.wh.length d2,Value.slice o3 qq.bys.length d3,Value.int .i64 qq.size,Value.int .i64 qq.slide,Value.int .i64 qq.delay,Value.int .i64 qq.late] 32)) (ptsR_below HM.out B8.out) hml)
  clear hqo hqg hpq B7 hb
  unfold qyV
  go_wp2_with fail
  generalize (w7.alloc (.cells #[Value.slice o1 pp.length d1,Value.slice o2 qq.wh.length d2,Value.slice o3 qq.bys.length d3,Value.int .i64 qq.size,Value.int .i64 qq.slide,Value.int .i64 qq.delay,Value.int .i64 qq.late] 32)) = w8 at *
  refine LT.out.mono ?_
  rintro e w9 ⟨rfl,hb⟩
  have B9:=nxt B8 hb
  have G9:=hidE (qyG_below G8.out hb)
  have BQ9:=hidE (blk_below BQ8.out hb BQ8.out.lt)
  clear LT B8 G8 BQ8 hb
  cases hlm : lightM M with
  | false =>
   go_wp2_with fail
   go_ret
   exact ⟨rfl,B9.out⟩
  | true =>
   obtain ⟨h3,h40⟩:=lightM_ok hlm
   have H40:=hidE (fun l hl => (h40 l hl).1)
   have HM9:=hidE (ptsR_below HM.out B9.out)
   have q0 : w9.cell? ⟨w7.heap.size,0,none⟩ = some (Value.slice o1 pp.length d1):=BQ9.out.c 0 (by simp)
   have q1 : w9.cell? ⟨w7.heap.size,1,none⟩ = some (Value.slice o2 qq.wh.length d2):=BQ9.out.c 1 (by simp)
   have q2 : w9.cell? ⟨w7.heap.size,2,none⟩ = some (Value.slice o3 qq.bys.length d3):=BQ9.out.c 2 (by simp)
   have q3 : w9.cell? ⟨w7.heap.size,3,none⟩ = some (Value.int .i64 qq.size):=BQ9.out.c 3 (by simp)
   have q4 : w9.cell? ⟨w7.heap.size,4,none⟩ = some (Value.int .i64 qq.slide):=BQ9.out.c 4 (by simp)
   have q5 : w9.cell? ⟨w7.heap.size,5,none⟩ = some (Value.int .i64 qq.delay):=BQ9.out.c 5 (by simp)
   have q6 : w9.cell? ⟨w7.heap.size,6,none⟩ = some (Value.int .i64 qq.late):=BQ9.out.c 6 (by simp)
   have lq:=BQ9.out.lt
   have BA:=blk_alloc w9 [.slice none 0 0,Value.slice o2 qq.wh.length d2,Value.slice o3 qq.bys.length d3,Value.int .i64 qq.size,Value.int .i64 qq.slide,Value.int .i64 qq.delay,Value.int .i64 qq.late] 32
   have ba:=below_alloc w9 (.cells #[.slice none 0 0,Value.slice o2 qq.wh.length d2,Value.slice o3 qq.bys.length d3,Value.int .i64 qq.size,Value.int .i64 qq.slide,Value.int .i64 qq.delay,Value.int .i64 qq.late] 32)
   have F0 : Hid (FoR w9 w9.heap.size [Value.slice o2 qq.wh.length d2,Value.slice o3 qq.bys.length d3,Value.int .i64 qq.size,Value.int .i64 qq.slide,Value.int .i64 qq.delay,Value.int .i64 qq.late] qq (w9.alloc (.cells #[.slice none 0 0,Value.slice o2 qq.wh.length d2,Value.slice o3 qq.bys.length d3,Value.int .i64 qq.size,Value.int .i64 qq.slide,Value.int .i64 qq.delay,Value.int .i64 qq.late] 32)) (.slice none 0 0) []):=⟨BA,World.ownsRow_nil _ _ _ _,fun p hp => by simp at hp,fun i a p h1 h2 => by simp at h2,ba⟩
   clear BA ba hlm h40 HM
   have hqa:=G9.out.qa
   have hql : qq.aggs.length = pp.length:=by rw [← hqa];simp
   have OKQ:=hidE (okQ_of HC8.out)
   obtain ⟨i0,hi,hz0,hz1,hz2⟩:=info_parts infoAg9
   go_wp2_with fail
   generalize (w9.alloc (.cells #[.slice none 0 0,Value.slice o2 qq.wh.length d2,Value.slice o3 qq.bys.length d3,Value.int .i64 qq.size,Value.int .i64 qq.slide,Value.int .i64 qq.delay,Value.int .i64 qq.late] 32)) = wA at *
   go_loopw [9] (fun i wr => ∃ (m : Nat) (v : Value) (L : List (AgQ × Value)),m ≤ pp.length ∧ i = .int .i64 m ∧ L.length = m ∧ Hid (FoR w9 w9.heap.size [Value.slice o2 qq.wh.length d2,Value.slice o3 qq.bys.length d3,Value.int .i64 qq.size,Value.int .i64 qq.slide,Value.int .i64 qq.delay,Value.int .i64 qq.late] qq wr v L)) (fun i _ => pp.length - (intOf i).toNat)
   case atStart => exact ⟨0,_,[],Nat.zero_le _,rfl,rfl,F0⟩
   case round =>
    clear F0
    obtain ⟨m,v,L,hm,rfl,hL,HF⟩:=hrel
    have y0 : wr.cell? ⟨w7.heap.size,0,none⟩ = some (.slice o1 pp.length d1):=(HF.out.old.cell (p:=⟨w7.heap.size,0,none⟩) lq).trans q0
    obtain ⟨av,cv,rfl⟩:=owns_shapeE HF.out.own
    rw [hL] at HF
    by_cases hlt : m < pp.length
    ·have Gr:=qyG_below G9.out HF.out.old
     obtain ⟨ga,oa,hae,hce,p1,p2,p3⟩:=rowOf_val cellsAg_len Gr.ag.row m hlt
     subst hae
     obtain ⟨hnd,-⟩:=Gr.ag.nds pp[m] (List.getElem_mem hlt)
     have haq : qq.aggs[m]? = some pp[m].1:=by rw [← hqa,List.getElem?_map,List.getElem?_eq_getElem hlt];rfl
     have hck:=OKQ.out.ag _ (List.mem_of_getElem? haq)
     have hp4 : pp.length ≤ 4:=by have:=OKQ.out.n4;omega
     generalize pp[m] = p at *
     obtain ⟨⟨kd,ofl⟩,u⟩:=p
     simp only at hnd haq hck
     obtain ⟨a4,c4,rfl⟩:=rowG_shape hnd
     have HN:=hidE hnd
     have HAQ:=hidE haq
     have x0 : wr.cell? ⟨ga,oa + m * 2,none⟩ = some (.int .i64 kd):=hce 0 (by omega)
     have x1 : wr.cell? ⟨ga,oa + m * 2 + 1,none⟩ = some (.slice a4 ofl.length c4):=hce 1 (by omega)
     unfold maxLen at p2
     have hpbl:=HF.out.bp.lt
     have z0 : wr.cell? ⟨w9.heap.size,0,none⟩ = some (.slice av m cv):=HF.out.bp.c 0 (by simp)
     clear hnd haq Gr hce
     by_cases hk : kd = 1
     ·have hof : ofl = []:=by
       unfold chkA at hck
       rw [if_neg (by simp only;omega),if_pos hk] at hck
       by_cases h0 : 0 < ofl.length
       ·rw [if_pos h0] at hck;omega
       ·exact List.eq_nil_of_length_eq_zero (by omega)
      subst hk hof
      clear hck
      go_wp2_with (at_builtin;go_must (refine wpList_append_own_at _ rfl (.tmp 65) (.tmp 67) 30 rfl (w9.heap.size + 1) 37 i0 (.agg #[.int .i64 0,.slice none 0 0]) 2 32 Tryz.underlying30 hi hz0 hz1 hz2 rfl (by decide) _ _ _ rfl ((HF.out.own.alloc _).alloc _) ⟨wr.heap.size + 1,0,none⟩ 1 1 [.int .i64 1,.slice a4 0 c4] rfl rfl (by have q:=cell_two_newE (wr.alloc (.cells #[.int .i64 1,.slice a4 0 c4] 37)) (.int .i64 1) (.slice a4 0 c4) 37;simpa using q) (by intro u hu;simp at hu;rcases hu with rfl | rfl <;> rfl) (by show _ ≤ 2 ^ 63 - 1;omega) (by omega) (by simp;omega) ?_))
      intro v' w3 ho3 hg3 _ hat
      obtain ⟨av3,cv3,rfl⟩:=owns_shapeE ho3
      have hob:=own_at HF.out.own
      have hob3:=own_at ho3
      have b2:=below2 wr (.cells #[.int .i64 1,.slice a4 0 c4] 37) (.cells #[.int .i64 1,.slice a4 0 c4] 37)
      have K3 : KeptB wr w3 (fun k => (Value.slice av m cv).ownBlock = some k):=keptB_grown (keptB_of_below b2) hg3 (fun k e _ => e)
      have BP3:=blk_kept HF.out.bp K3 (fun e => by have:=(hob _ e).1;omega)
      have Kf:=keptB_set (keptB_mono K3 (bad':=fun k => k = w9.heap.size ∨ k = wr.heap.size ∨ (Value.slice av m cv).ownBlock = some k) (fun k e => .inr (.inr e))) (g:=w9.heap.size) (.inl rfl) 0 (.slice av3 (m + 1) cv3)
      have BPf:=blk_set BP3 0 (.slice av3 (m + 1) cv3) (by simp)
      have of:=own_kept ho3 (keptB_set (keptB_of_below (bad:=fun k => k = w9.heap.size) (Below.refl _ _)) rfl 0 (.slice av3 (m + 1) cv3)) (fun k e e9 => by have:=(hob3 k e).1;omega)
      have FN:=hidE (foR_next (u:=.slice a4 0 c4) (b:=⟨1,[]⟩) HF.out (Nat.le_refl _) rfl (by rw [hL];exact HAQ.out) ⟨rfl,.inl ⟨rfl,rfl⟩⟩ Kf (by simpa using BPf) (by rw [hL];exact of) (by
       rcases hat with e | e
       ·exact .inl e
       ·exact .inr ⟨_,e,by omega,.inl rfl⟩) (nodG_heap HN.out Kf.b0.size (.inl rfl)) (by simp) (.inl rfl))
      have hsz3:=K3.b0.size
      have y1:=BP3.c 0 (by simp)
      have f1:=BP3.fz 0
      have l1:=BP3.lt
      clear ho3 hg3 hat hob hob3 b2 K3 BP3 Kf BPf of HF
      go_wp2_with fail
      go_roundw
      case rel => exact ⟨m + 1,_,L ++ [(⟨1,[]⟩,.slice a4 0 c4)],by omega,by go_num,by simp [hL],FN⟩
      case measure => simp [intOf];omega
     ·have hc0 : chkE ofl = 0:=by
       unfold chkA at hck
       by_cases h9 : kd < 1 ∨ 5 < kd
       ·rw [if_pos h9] at hck;omega
       rw [if_neg h9,if_neg hk] at hck
       by_cases h8 : (kindQ ofl).2 = 0
       ·exact kindQ_zero h8
       ·rw [if_pos h8] at hck;exact absurd hck h8
      obtain ⟨t,hwt,htf,h40t⟩:=chk_flat hc0
      have hrt : RowT (wr.alloc (.cells #[.int .i64 kd,.slice a4 ofl.length c4] 37)) (.slice a4 ofl.length c4) t:=by
       have:=rowG_below HN.out (below_alloc wr (.cells #[.int .i64 kd,.slice a4 ofl.length c4] 37))
       rw [← htf] at this ⊢
       exact this
      have FD:=hidE (Fold_any t _ _ hwt (by rw [htf];exact h40t) hrt)
      have BB:=hidE (blk_alloc wr [.int .i64 kd,.slice a4 ofl.length c4] 37)
      have hfo : FoldOf ofl (flat (foldT t)):=⟨t,hwt,htf,rfl,h40t⟩
      obtain ⟨fl,hfl⟩ : ∃ fl,flat (foldT t) = fl:=⟨_,rfl⟩
      rw [hfl] at hfo
      have HFL:=hidE hfl
      have HFO:=hidE hfo
      have dk : (kd != 1) = true:=by simp [hk]
      clear hck hc0 hrt hfo hfl
      go_wp2_with fail
      refine FD.out.mono ?_
      rintro e wb ⟨u5,rfl,hr5,hb5,fr5⟩
      have hr6 : NodG wb u5 fl:=by rw [← HFL.out];exact hr5
      obtain ⟨a5,c5,rfl⟩:=rowG_shape hr6
      have hfl:=foldOf_len HFO.out
      have ba1:=below_alloc wr (.cells #[.int .i64 kd,.slice a4 ofl.length c4] 37)
      have hba : Below wr.heap.size wr wb:=ba1.trans (hb5.mono (by simp))
      have BB5:=blk_below BB.out hb5 BB.out.lt
      have BS5:=blk_set BB5 1 (.slice a5 fl.length c5) (by simp)
      have hab : wr.heap.size < wb.heap.size:=BB5.lt
      have hne : wr.heap.size ≠ w9.heap.size:=by omega
      have Ks : KeptB wr (wb.setCell ⟨wr.heap.size,1,none⟩ (.slice a5 fl.length c5)) (fun k => k = wr.heap.size):=keptB_set (keptB_of_below (bad:=fun k => k = wr.heap.size) hba) (g:=wr.heap.size) rfl 1 _
      have BPs:=blk_kept HF.out.bp Ks (fun e => hne e.symm)
      have hob:=own_at HF.out.own
      have OWs:=own_kept HF.out.own Ks (fun k e e9 => by have:=(hob k e).2;omega)
      have NDs : NodG (wb.setCell ⟨wr.heap.size,1,none⟩ (.slice a5 fl.length c5)) (.slice a5 fl.length c5) fl:=nodG_heap hr6 (by simp) (.inr fun a9 n9 c9 e => Below.heap_setCell wb _ _ a9.block (fun e8 => by
       have:=fr5 a9 n9 c9 e
       simp at this
       simp only at e8
       omega))
      have hu5 : ∀ a9 n9 c9,Value.slice a5 fl.length c5 = .slice (some a9) n9 c9 → a9.block < wb.heap.size:=fun a9 n9 c9 e => by
       rcases hr6.2 with ⟨-,e9⟩ | ⟨g,off,cap,e1,-,-,e4,-⟩
       ·omega
       ·rw [e1] at e
        cases e
        exact e4
      have x0 : wb.cell? ⟨wr.heap.size,0,none⟩ = some (.int .i64 kd):=BB5.c 0 (by simp)
      have x1 : wb.cell? ⟨wr.heap.size,1,none⟩ = some (.slice a4 ofl.length c4):=BB5.c 1 (by simp)
      have f1:=BB5.fz 1
      have s0 : (wb.setCell ⟨wr.heap.size,1,none⟩ (.slice a5 fl.length c5)).cell? ⟨wr.heap.size,0,none⟩ = some (.int .i64 kd):=by simpa using BS5.c 0 (by simp)
      have s1 : (wb.setCell ⟨wr.heap.size,1,none⟩ (.slice a5 fl.length c5)).cell? ⟨wr.heap.size,1,none⟩ = some (.slice a5 fl.length c5):=by simpa using BS5.c 1 (by simp)
      have sp : (wb.setCell ⟨wr.heap.size,1,none⟩ (.slice a5 fl.length c5)).cell? ⟨w9.heap.size,0,none⟩ = some (.slice av m cv):=BPs.c 0 (by simp)
      have HKS:=hidE Ks
      have HBPS:=hidE BPs
      have HOWS:=hidE OWs
      have HNDS:=hidE NDs
      have HFR:=hidE fr5
      have HU5:=hidE hu5
      clear hr5 hr6 hb5 fr5 ba1 hba BB5 BS5 Ks BPs hob OWs NDs hu5 FD BB HN
      go_wp2_with (at_builtin;go_must (refine wpList_append_own_at _ rfl (.tmp 65) (.tmp 67) 30 rfl (w9.heap.size + 1) 37 i0 (.agg #[.int .i64 0,.slice none 0 0]) 2 32 Tryz.underlying30 hi hz0 hz1 hz2 rfl (by decide) _ _ _ rfl (HOWS.out.alloc _) ⟨wb.heap.size,0,none⟩ 1 1 [.int .i64 kd,.slice a5 fl.length c5] rfl rfl (by have q:=cell_two_newE (wb.setCell ⟨wr.heap.size,1,none⟩ (.slice a5 fl.length c5)) (.int .i64 kd) (.slice a5 fl.length c5) 37;simpa using q) (by intro u hu;simp at hu;rcases hu with rfl | rfl <;> rfl) (by show _ ≤ 2 ^ 63 - 1;omega) (by omega) (by simp;omega) ?_))
      intro v' w3 ho3 hg3 _ hat
      obtain ⟨av3,cv3,rfl⟩:=owns_shapeE ho3
      have hob:=own_at HF.out.own
      have hob3:=own_at ho3
      have K1:=keptB_trans (keptB_mono HKS.out (bad':=fun k => k = wr.heap.size ∨ (Value.slice av m cv).ownBlock = some k) (fun k e => .inl e)) (keptB_of_below (below_alloc _ (.cells #[.int .i64 kd,.slice a5 fl.length c5] 37)))
      have K3:=keptB_grown K1 hg3 (fun k e _ => .inr e)
      have BP3:=blk_kept HF.out.bp K3 (fun e => by
       rcases e with e | e
       ·exact hne e.symm
       ·have:=(hob _ e).1;omega)
      have Kf:=keptB_set (keptB_mono K3 (bad':=fun k => k = w9.heap.size ∨ k = wr.heap.size ∨ (Value.slice av m cv).ownBlock = some k) (fun k e => .inr e)) (g:=w9.heap.size) (.inl rfl) 0 (.slice av3 (m + 1) cv3)
      have BPf:=blk_set BP3 0 (.slice av3 (m + 1) cv3) (by simp)
      have of:=own_kept ho3 (keptB_set (keptB_of_below (bad:=fun k => k = w9.heap.size) (Below.refl _ _)) rfl 0 (.slice av3 (m + 1) cv3)) (fun k e e9 => by have:=(hob3 k e).1;omega)
      have hsw:=hg3.size
      have NDf : NodG (w3.setCell ⟨w9.heap.size,0,none⟩ (.slice av3 (m + 1) cv3)) (.slice a5 fl.length c5) fl:=nodG_heap HNDS.out (by simp at hsw ⊢;omega) (.inr fun a9 n9 c9 e => by
       have g1:=HFR.out a9 n9 c9 e
       have g2:=HU5.out a9 n9 c9 e
       simp at g1
       rw [Below.heap_setCell w3 _ _ a9.block (fun e8 => by simp only at e8;omega),hg3.block a9.block (by simp;omega) (fun e8 => by have:=(hob a9.block e8.symm).2;omega)]
       exact (below_alloc _ _).block a9.block (by simp;omega))
      have FN:=hidE (foR_next (u:=.slice a5 fl.length c5) (a:=⟨kd,ofl⟩) (b:=⟨kd,fl⟩) HF.out (Nat.le_refl _) rfl (by rw [hL];exact HAQ.out) ⟨rfl,.inr ⟨hk,HFO.out⟩⟩ Kf (by simpa using BPf) (by rw [hL];exact of) (by
       rcases hat with e | e
       ·exact .inl e
       ·exact .inr ⟨_,e,by first | omega | (simp;omega),.inr fun a9 n9 c9 e9 => by have:=HU5.out a9 n9 c9 e9;first | omega | (simp;omega)⟩) NDf (by show fl.length ≤ 40;omega) (.inr fun a9 n9 c9 e => by have:=HFR.out a9 n9 c9 e;simp at this;omega))
      have y1:=BP3.c 0 (by simp)
      have f1:=BP3.fz 0
      have l1:=BP3.lt
      clear ho3 hg3 hat hob hob3 K1 K3 BP3 Kf BPf of HF NDf hsw HKS HBPS HOWS HNDS HFR HU5 s0 s1 sp
      go_wp2_with fail
      go_roundw
      case rel => exact ⟨m + 1,_,L ++ [(⟨kd,fl⟩,.slice a5 fl.length c5)],by omega,by go_num,by simp [hL],FN⟩
      case measure => simp [intOf];omega
    ·have hme : m = pp.length:=by omega
     subst hme
     have hwl:=chk_len OKQ.out.wh
     have hbl:=chk_len OKQ.out.by_
     have FP:=hidE (foP_of HF.out G9.out.wh G9.out.by_ hwl hbl)
     have BQx:=blk_below BQ9.out HF.out.old lq
     have y1 : wr.cell? ⟨w7.heap.size,1,none⟩ = some (.slice o2 qq.wh.length d2):=BQx.c 1 (by simp)
     have ly:=BQx.lt
     have Hw0:=OKQ.out.wh
     clear BQx q0 q1 q2 q3 q4 q5 q6
     by_cases hw0 : 0 < qq.wh.length
     ·have dw : decide ((0 : Int) < (qq.wh.length : Int)) = true:=decide_eq_true (by omega)
      obtain ⟨tw,hww,htw,h40w⟩:=chk_flat (Hw0 hw0)
      have hrw : RowT wr (.slice o2 qq.wh.length d2) tw:=by
       have:=rowG_below G9.out.wh HF.out.old
       unfold RowT
       rw [htw]
       exact this
      have FW:=hidE (Fold_any tw _ _ hww (by rw [htw];exact h40w) hrw)
      have hfw : FoldOf qq.wh (flat (foldT tw)):=⟨tw,hww,htw,rfl,h40w⟩
      obtain ⟨fw,hfwe⟩ : ∃ fw,flat (foldT tw) = fw:=⟨_,rfl⟩
      rw [hfwe] at hfw
      have HFW:=hidE hfw
      have HFWE:=hidE hfwe
      have HWT:=hidE (foldT_wf tw hww)
      clear hrw hfw hfwe
      go_wp2_with fail
      refine FW.out.mono ?_
      rintro e wy ⟨u7,rfl,hr6,hb6,fr6⟩
      have hr7 : NodG wy u7 fw:=by rw [← HFWE.out];exact hr6
      obtain ⟨a7,c7,rfl⟩:=rowG_shape hr7
      have hlw:=foldOf_len HFW.out
      have FPy:=foP_below FP.out hb6
      have lpx:=FP.out.bp.lt
      have FPz:=foP_wh FPy (u:=.slice a7 fw.length c7) (l:=fw) ⟨hr7,by omega,.inr fun a n c e => by have:=fr6 a n c e;omega⟩
      have BPy:=FPy.bp
      have FP:=hidE FPz
      have z1:=BPy.c 1 (by simp)
      have f1:=BPy.fz 1
      have l1:=BPy.lt
      clear hr6 hr7 hb6 fr6 FPy FPz BPy FW y1 ly
      go_wp2_with fail
      generalize wy.setCell ⟨w9.heap.size,1,none⟩ (.slice a7 fw.length c7) = wx at *
      clear z1 f1 l1
      have BP2:=hidE FP.out.bp
      have BQ2:=hidE (blk_below BQ9.out FP.out.old lq)
      obtain ⟨f2,hf2⟩ : ∃ f2,flat (foldT (foldT tw)) = f2:=⟨_,rfl⟩
      have FF : Hid (∀ w',Below wx.heap.size wx w' → Calls Tryz.prog 6 #[.slice a7 fw.length c7] w' fun e w'' => ∃ u',e = .returned u' ∧ NodG w'' u' f2 ∧ Below w'.heap.size w' w''):=fun w' hb => by
       have hr9 : RowT w' (.slice a7 fw.length c7) (foldT tw):=by
        unfold RowT
        rw [HFWE.out]
        exact rowG_below FP.out.wh.1 hb
       refine (Fold_any (foldT tw) _ w' HWT.out (by rw [HFWE.out];omega) hr9).mono ?_
       rintro e w'' ⟨u',e1,e2,e3,-⟩
       exact ⟨u',e1,by rw [← hf2];exact e2,e3⟩
      have HF2 : Hid (f2.length ≤ fw.length):=hidE (by rw [← hf2,← HFWE.out];exact foldT_len _)
      have HF1 : Hid (fw.length ≤ qq.wh.length):=hidE hlw.2.2.1
      refine wp_region_held (S:=fun w' => Below wx.heap.size wx w') (by kernel_rfl) ?_
      have hS : Below wx.heap.size wx ({ wx with drawn:=wx.drawn + 1 } : World):=(Below.refl _ _).drew
      generalize ({ wx with drawn:=wx.drawn + 1 } : World) = wg at *
      refine held_take (i:=0) (v:=.pointer (some ⟨w9.heap.size,1,none⟩)) (L:=#[true,false,false,false,false,false,false,false,false,false,false,false,false,false,false,false,false]) rfl (by kernel_rfl) (by kernel_rfl) (by kernel_rfl) (fun c a w h => h) (Or.inl ⟨by kernel_rfl,fun wq hq => by go_simp⟩) hS (by kernel_rfl) ?_
      refine held_take (i:=1) (v:=.slice a7 fw.length c7) (L:=#[true,true,false,false,false,false,false,false,false,false,false,false,false,false,false,false,false]) rfl (by kernel_rfl) (by kernel_rfl) (by kernel_rfl) (fun c a w h => h) (Or.inl ⟨by kernel_rfl,fun wq hq => by have K:=blk_below BP2.out hq BP2.out.lt;have q1 : wq.cell? ⟨w9.heap.size,1,none⟩ = some (.slice a7 fw.length c7):=K.c 1 (by simp);clear K;go_simp⟩) hS (by kernel_rfl) ?_
      refine held_take (i:=4) (v:=.pointer (some ⟨w9.heap.size,1,none⟩)) (L:=#[true,true,false,false,true,false,false,false,false,false,false,false,false,false,false,false,false]) rfl (by kernel_rfl) (by kernel_rfl) (by kernel_rfl) (fun c a w h => h) (Or.inl ⟨by kernel_rfl,fun wq hq => by go_simp⟩) hS (by kernel_rfl) ?_
      refine held_take (i:=5) (v:=.slice a7 fw.length c7) (L:=#[true,true,false,false,true,true,false,false,false,false,false,false,false,false,false,false,false]) rfl (by kernel_rfl) (by kernel_rfl) (by kernel_rfl) (fun c a w h => h) (Or.inl ⟨by kernel_rfl,fun wq hq => by have K:=blk_below BP2.out hq BP2.out.lt;have q1 : wq.cell? ⟨w9.heap.size,1,none⟩ = some (.slice a7 fw.length c7):=K.c 1 (by simp);clear K;go_simp⟩) hS (by kernel_rfl) ?_
      refine held_take (i:=6) (v:=.int .i64 (fw.length : Int)) (L:=#[true,true,false,false,true,true,true,false,false,false,false,false,false,false,false,false,false]) rfl (by kernel_rfl) (by kernel_rfl) (by kernel_rfl) (fun c a w h => h) (Or.inl ⟨by kernel_rfl,fun wq hq => by go_simp⟩) hS (by kernel_rfl) ?_
      refine held_go (i:=2) (L:=#[true,true,true,false,true,true,true,false,false,false,false,false,false,false,false,false,false]) (by kernel_rfl) rfl (by kernel_rfl) (by kernel_rfl) ?_
      intro K' hK
      go_simp
      refine (FF.out _ hS).mono ?_
      rintro e wt2 ⟨u8,rfl,hr8,hb8⟩
      have hS1:=hS.trans (hb8.mono hS.size)
      obtain ⟨a8,c8,rfl⟩:=rowG_shape hr8
      refine hK _ _ ⟨hS1,?_⟩
      clear hK hr8 hb8
      refine held_take (i:=3) (v:=.int .i64 (f2.length : Int)) (L:=#[true,true,true,true,true,true,true,false,false,false,false,false,false,false,false,false,false]) rfl (by kernel_rfl) (by kernel_rfl) (by kernel_rfl) (fun c a w h => h) (Or.inl ⟨by kernel_rfl,fun wq hq => by go_simp⟩) hS1 (by kernel_rfl) ?_
      refine held_take (i:=7) (v:=.bool false) (L:=#[true,true,true,true,true,true,true,true,false,false,false,false,false,false,false,false,false]) rfl (by kernel_rfl) (by kernel_rfl) (by kernel_rfl) (fun c a w h => h) (Or.inl ⟨by kernel_rfl,fun wq hq => by first | (go_simp;done) | (go_simp;exact HF2.out)⟩) hS1 (by kernel_rfl) ?_
      refine held_take (i:=8) (v:=.bool false) (L:=#[true,true,true,true,true,true,true,true,true,false,false,false,false,false,false,false,false]) rfl (by kernel_rfl) (by kernel_rfl) (by kernel_rfl) (fun c a w h => h) (Or.inl ⟨by kernel_rfl,fun wq hq => by go_simp⟩) hS1 (by kernel_rfl) ?_
      refine held_take (i:=9) (v:=.pointer (some ⟨w9.heap.size,1,none⟩)) (L:=#[true,true,true,true,true,true,true,true,true,true,false,false,false,false,false,false,false]) rfl (by kernel_rfl) (by kernel_rfl) (by kernel_rfl) (fun c a w h => h) (Or.inl ⟨by kernel_rfl,fun wq hq => by go_simp⟩) hS1 (by kernel_rfl) ?_
      refine held_take (i:=10) (v:=.slice a7 fw.length c7) (L:=#[true,true,true,true,true,true,true,true,true,true,true,false,false,false,false,false,false]) rfl (by kernel_rfl) (by kernel_rfl) (by kernel_rfl) (fun c a w h => h) (Or.inl ⟨by kernel_rfl,fun wq hq => by have K:=blk_below BP2.out hq BP2.out.lt;have q1 : wq.cell? ⟨w9.heap.size,1,none⟩ = some (.slice a7 fw.length c7):=K.c 1 (by simp);clear K;go_simp⟩) hS1 (by kernel_rfl) ?_
      refine held_take (i:=11) (v:=.int .i64 (fw.length : Int)) (L:=#[true,true,true,true,true,true,true,true,true,true,true,true,false,false,false,false,false]) rfl (by kernel_rfl) (by kernel_rfl) (by kernel_rfl) (fun c a w h => h) (Or.inl ⟨by kernel_rfl,fun wq hq => by go_simp⟩) hS1 (by kernel_rfl) ?_
      refine held_take (i:=12) (v:=.pointer (some ⟨w7.heap.size,1,none⟩)) (L:=#[true,true,true,true,true,true,true,true,true,true,true,true,true,false,false,false,false]) rfl (by kernel_rfl) (by kernel_rfl) (by kernel_rfl) (fun c a w h => h) (Or.inl ⟨by kernel_rfl,fun wq hq => by go_simp⟩) hS1 (by kernel_rfl) ?_
      refine held_take (i:=13) (v:=.slice o2 qq.wh.length d2) (L:=#[true,true,true,true,true,true,true,true,true,true,true,true,true,true,false,false,false]) rfl (by kernel_rfl) (by kernel_rfl) (by kernel_rfl) (fun c a w h => h) (Or.inl ⟨by kernel_rfl,fun wq hq => by have K:=blk_below BQ2.out hq BQ2.out.lt;have q1 : wq.cell? ⟨w7.heap.size,1,none⟩ = some (.slice o2 qq.wh.length d2):=K.c 1 (by simp);clear K;go_simp⟩) hS1 (by kernel_rfl) ?_
      refine held_take (i:=14) (v:=.int .i64 (qq.wh.length : Int)) (L:=#[true,true,true,true,true,true,true,true,true,true,true,true,true,true,true,false,false]) rfl (by kernel_rfl) (by kernel_rfl) (by kernel_rfl) (fun c a w h => h) (Or.inl ⟨by kernel_rfl,fun wq hq => by go_simp⟩) hS1 (by kernel_rfl) ?_
      refine held_take (i:=15) (v:=.bool false) (L:=#[true,true,true,true,true,true,true,true,true,true,true,true,true,true,true,true,false]) rfl (by kernel_rfl) (by kernel_rfl) (by kernel_rfl) (fun c a w h => h) (Or.inl ⟨by kernel_rfl,fun wq hq => by first | (go_simp;done) | (go_simp;exact HF1.out)⟩) hS1 (by kernel_rfl) ?_
      refine held_take (i:=16) (v:=.bool false) (L:=#[true,true,true,true,true,true,true,true,true,true,true,true,true,true,true,true,true]) rfl (by kernel_rfl) (by kernel_rfl) (by kernel_rfl) (fun c a w h => h) (Or.inl ⟨by kernel_rfl,fun wq hq => by go_simp⟩) hS1 (by kernel_rfl) ?_
      refine wpAnyH_done (by kernel_rfl) ?_ _
      go_simp
      have FP:=hidE (foP_below FP.out hS1)
      clear hS hS1 FF BP2 BQ2
      have Hb0:=OKQ.out.by_
      have BQx:=blk_below BQ9.out FP.out.old lq
      have y2 : wt2.cell? ⟨w7.heap.size,2,none⟩ = some (.slice o3 qq.bys.length d3):=BQx.c 2 (by simp)
      have ly:=BQx.lt
      clear BQx
      by_cases hb0 : 0 < qq.bys.length
      ·have db : decide ((0 : Int) < (qq.bys.length : Int)) = true:=decide_eq_true (by omega)
       obtain ⟨tb,hwb,htb,h40b⟩:=chk_flat (Hb0 hb0)
       have hrb : RowT wt2 (.slice o3 qq.bys.length d3) tb:=by
        have:=rowG_below G9.out.by_ FP.out.old
        unfold RowT
        rw [htb]
        exact this
       have FB:=hidE (Fold_any tb _ _ hwb (by rw [htb];exact h40b) hrb)
       have hfb : FoldOf qq.bys (flat (foldT tb)):=⟨tb,hwb,htb,rfl,h40b⟩
       obtain ⟨fb,hfbe⟩ : ∃ fb,flat (foldT tb) = fb:=⟨_,rfl⟩
       rw [hfbe] at hfb
       have HFB:=hidE hfb
       have HFBE:=hidE hfbe
       clear hrb hfb hfbe
       go_wp2_with fail
       refine FB.out.mono ?_
       rintro e wy ⟨u6,rfl,hr6,hb6,fr6⟩
       have hr7 : NodG wy u6 fb:=by rw [← HFBE.out];exact hr6
       obtain ⟨a6,c6,rfl⟩:=rowG_shape hr7
       have hlb:=foldOf_len HFB.out
       have FPy:=foP_below FP.out hb6
       have lpx:=FP.out.bp.lt
       have FPz:=foP_by FPy (u:=.slice a6 fb.length c6) (l:=fb) ⟨hr7,by omega,.inr fun a n c e => by have:=fr6 a n c e;omega⟩
       have BPy:=FPy.bp
       have FP:=hidE FPz
       have zz2:=BPy.c 2 (by simp)
       have ff2:=BPy.fz 2
       have ll2:=BPy.lt
       clear hr6 hr7 hb6 fr6 FPy FPz BPy FB y2 ly
       have FQ:=hidE (foldQ_of HF.out (by omega) (.inr HFW.out) (.inr HFB.out))
       have HCP:=hidE (foldQ_chk FQ.out HC8.out)
       have CK:=qcheck_any _ _ _ _ L (wy.setCell ⟨w9.heap.size,2,none⟩ (.slice a6 fb.length c6)) (foP_G FP.out)
       rw [HCP.out] at CK
       unfold qyV qyP at CK
       have CKH:=hidE CK
       have e0 : errC 0 = .nilIface:=rfl
       rw [e0] at CKH
       clear CK e0
       have BPx:=FP.out.bp
       have z0 : (wy.setCell ⟨w9.heap.size,2,none⟩ (.slice a6 fb.length c6)).cell? ⟨w9.heap.size,0,none⟩ = some (Value.slice av pp.length cv):=BPx.c 0 (by simp)
       have z1 : (wy.setCell ⟨w9.heap.size,2,none⟩ (.slice a6 fb.length c6)).cell? ⟨w9.heap.size,1,none⟩ = some (Value.slice a7 fw.length c7):=BPx.c 1 (by simp)
       have z2 : (wy.setCell ⟨w9.heap.size,2,none⟩ (.slice a6 fb.length c6)).cell? ⟨w9.heap.size,2,none⟩ = some (Value.slice a6 fb.length c6):=BPx.c 2 (by simp)
       have z3 : (wy.setCell ⟨w9.heap.size,2,none⟩ (.slice a6 fb.length c6)).cell? ⟨w9.heap.size,3,none⟩ = some (Value.int .i64 qq.size):=BPx.c 3 (by simp)
       have z4 : (wy.setCell ⟨w9.heap.size,2,none⟩ (.slice a6 fb.length c6)).cell? ⟨w9.heap.size,4,none⟩ = some (Value.int .i64 qq.slide):=BPx.c 4 (by simp)
       have z5 : (wy.setCell ⟨w9.heap.size,2,none⟩ (.slice a6 fb.length c6)).cell? ⟨w9.heap.size,5,none⟩ = some (Value.int .i64 qq.delay):=BPx.c 5 (by simp)
       have z6 : (wy.setCell ⟨w9.heap.size,2,none⟩ (.slice a6 fb.length c6)).cell? ⟨w9.heap.size,6,none⟩ = some (Value.int .i64 qq.late):=BPx.c 6 (by simp)
       have lz:=BPx.lt
       clear BPx
       go_wp2_with fail
       refine CKH.out.mono ?_
       rintro e wc ⟨rfl,hb⟩
       have FPc:=hidE (foP_below FP.out hb)
       have Gc:=hidE (qyG_below G9.out FPc.out.old)
       have BQc:=hidE (blk_below BQ9.out FPc.out.old lq)
       have HMc:=hidE (ptsR_below HM9.out FPc.out.old)
       have A1:=answer_any _ _ _ _ qq pp vs M wc Gc.out HC8.out HMc.out h3 H40.out
       unfold qyV at A1
       have A1H:=hidE A1
       clear A1 CKH hb FP z0 z1 z2 z3 z4 z5 z6 lz
       have q0 : wc.cell? ⟨w7.heap.size,0,none⟩ = some (Value.slice o1 pp.length d1):=BQc.out.c 0 (by simp)
       have q1 : wc.cell? ⟨w7.heap.size,1,none⟩ = some (Value.slice o2 qq.wh.length d2):=BQc.out.c 1 (by simp)
       have q2 : wc.cell? ⟨w7.heap.size,2,none⟩ = some (Value.slice o3 qq.bys.length d3):=BQc.out.c 2 (by simp)
       have q3 : wc.cell? ⟨w7.heap.size,3,none⟩ = some (Value.int .i64 qq.size):=BQc.out.c 3 (by simp)
       have q4 : wc.cell? ⟨w7.heap.size,4,none⟩ = some (Value.int .i64 qq.slide):=BQc.out.c 4 (by simp)
       have q5 : wc.cell? ⟨w7.heap.size,5,none⟩ = some (Value.int .i64 qq.delay):=BQc.out.c 5 (by simp)
       have q6 : wc.cell? ⟨w7.heap.size,6,none⟩ = some (Value.int .i64 qq.late):=BQc.out.c 6 (by simp)
       have lqc:=BQc.out.lt
       go_wp2_with fail
       refine A1H.out.mono ?_
       rintro e wd1 ⟨u1,os1,tbl1,rfl,hp1,ho1,hot1,hb⟩
       obtain ⟨e1,g1,rfl⟩:=owns_shapeE hp1.row
       have HP1:=hidE hp1
       have HO1:=hidE ho1
       have HOT1:=hidE hot1
       have FPd:=hidE (foP_below FPc.out hb)
       have HMd:=hidE (ptsR_below HMc.out hb)
       have A2:=answer_any _ _ _ _ _ L vs M wd1 (foP_G FPd.out) HCP.out HMd.out h3 H40.out
       rw [(foldQ_all FQ.out M).1,(foldQ_all FQ.out M).2,foldQ_kinds FQ.out] at A2
       unfold qyV qyP at A2
       have A2H:=hidE A2
       have BPx:=FPd.out.bp
       clear A2 A1H hp1 ho1 hot1 hb FPc Gc BQc HMc q0 q1 q2 q3 q4 q5 q6 lqc
       have z0 : wd1.cell? ⟨w9.heap.size,0,none⟩ = some (Value.slice av pp.length cv):=BPx.c 0 (by simp)
       have z1 : wd1.cell? ⟨w9.heap.size,1,none⟩ = some (Value.slice a7 fw.length c7):=BPx.c 1 (by simp)
       have z2 : wd1.cell? ⟨w9.heap.size,2,none⟩ = some (Value.slice a6 fb.length c6):=BPx.c 2 (by simp)
       have z3 : wd1.cell? ⟨w9.heap.size,3,none⟩ = some (Value.int .i64 qq.size):=BPx.c 3 (by simp)
       have z4 : wd1.cell? ⟨w9.heap.size,4,none⟩ = some (Value.int .i64 qq.slide):=BPx.c 4 (by simp)
       have z5 : wd1.cell? ⟨w9.heap.size,5,none⟩ = some (Value.int .i64 qq.delay):=BPx.c 5 (by simp)
       have z6 : wd1.cell? ⟨w9.heap.size,6,none⟩ = some (Value.int .i64 qq.late):=BPx.c 6 (by simp)
       have lz:=BPx.lt
       clear BPx
       obtain ⟨NM,hNM⟩ : ∃ NM,allN qq M = NM:=⟨_,rfl⟩
       rw [hNM] at A2H ⊢
       go_wp2_with fail
       refine A2H.out.mono ?_
       rintro e we2 ⟨u2,os2,tbl2,rfl,hp2,ho2,hot2,hb⟩
       obtain ⟨e2,g2,rfl⟩:=owns_shapeE hp2.row
       have Be:=hidE (B9.out.trans ((FPd.out.old.trans (hb.mono (Nat.le_of_lt FPd.out.bp.lt))).mono B9.out.size))
       have hn4:=(okQ_of HC8.out).n4
       have SP:=hidE (samePanes_eq os1 os2 _ _ we2 (rowG_below (rowG_of_owns HP1.out.row) hb) (fun o h => rowG_below (rowG_of_owns (HP1.out.vs o h)) hb) (rowG_of_owns hp2.row) (fun o h => rowG_of_owns (hp2.vs o h))
        (by have h1:=HOT1.out.few;have h2:=allC_len (qyS_of HC8.out) M H40.out;rw [os_len HO1.out];omega) (os_few HO1.out HOT1.out hn4) (HO1.out.trans ((ofT_same HOT1.out hot2 (fun _ _ _ => ⟨rfl,Iff.rfl⟩)).trans ho2.symm)))
       clear hp2 ho2 hot2 hb A2H HP1 HO1 HOT1 FPd HMd FQ HCP HF z0 z1 z2 z3 z4 z5 z6 lz
       have beq9 : ((NM : Int) == (NM : Int)) = true:=by simp
       go_wp2_with fail
       refine SP.out.mono ?_
       rintro e wf2 ⟨rfl,hb⟩
       have Bf:=nxt Be hb
       clear SP hb Be
       go_wp2_with fail
       go_ret
       exact ⟨rfl,Bf.out⟩
      ·have db : decide ((0 : Int) < (qq.bys.length : Int)) = false:=decide_eq_false (by omega)
       have HBE : Hid (qq.bys = []):=hidE (List.eq_nil_of_length_eq_zero (by omega))
       have FQ:=hidE (foldQ_of HF.out (by omega) (.inr HFW.out) (.inl ⟨HBE.out,HBE.out⟩))
       have HCP:=hidE (foldQ_chk FQ.out HC8.out)
       have CK:=qcheck_any _ _ _ _ L wt2 (foP_G FP.out)
       rw [HCP.out] at CK
       unfold qyV qyP at CK
       have CKH:=hidE CK
       have e0 : errC 0 = .nilIface:=rfl
       rw [e0] at CKH
       clear CK e0
       have BPx:=FP.out.bp
       have z0 : wt2.cell? ⟨w9.heap.size,0,none⟩ = some (Value.slice av pp.length cv):=BPx.c 0 (by simp)
       have z1 : wt2.cell? ⟨w9.heap.size,1,none⟩ = some (Value.slice a7 fw.length c7):=BPx.c 1 (by simp)
       have z2 : wt2.cell? ⟨w9.heap.size,2,none⟩ = some (Value.slice o3 qq.bys.length d3):=BPx.c 2 (by simp)
       have z3 : wt2.cell? ⟨w9.heap.size,3,none⟩ = some (Value.int .i64 qq.size):=BPx.c 3 (by simp)
       have z4 : wt2.cell? ⟨w9.heap.size,4,none⟩ = some (Value.int .i64 qq.slide):=BPx.c 4 (by simp)
       have z5 : wt2.cell? ⟨w9.heap.size,5,none⟩ = some (Value.int .i64 qq.delay):=BPx.c 5 (by simp)
       have z6 : wt2.cell? ⟨w9.heap.size,6,none⟩ = some (Value.int .i64 qq.late):=BPx.c 6 (by simp)
       have lz:=BPx.lt
       clear BPx
       go_wp2_with fail
       refine CKH.out.mono ?_
       rintro e wc ⟨rfl,hb⟩
       have FPc:=hidE (foP_below FP.out hb)
       have Gc:=hidE (qyG_below G9.out FPc.out.old)
       have BQc:=hidE (blk_below BQ9.out FPc.out.old lq)
       have HMc:=hidE (ptsR_below HM9.out FPc.out.old)
       have A1:=answer_any _ _ _ _ qq pp vs M wc Gc.out HC8.out HMc.out h3 H40.out
       unfold qyV at A1
       have A1H:=hidE A1
       clear A1 CKH hb FP z0 z1 z2 z3 z4 z5 z6 lz
       have q0 : wc.cell? ⟨w7.heap.size,0,none⟩ = some (Value.slice o1 pp.length d1):=BQc.out.c 0 (by simp)
       have q1 : wc.cell? ⟨w7.heap.size,1,none⟩ = some (Value.slice o2 qq.wh.length d2):=BQc.out.c 1 (by simp)
       have q2 : wc.cell? ⟨w7.heap.size,2,none⟩ = some (Value.slice o3 qq.bys.length d3):=BQc.out.c 2 (by simp)
       have q3 : wc.cell? ⟨w7.heap.size,3,none⟩ = some (Value.int .i64 qq.size):=BQc.out.c 3 (by simp)
       have q4 : wc.cell? ⟨w7.heap.size,4,none⟩ = some (Value.int .i64 qq.slide):=BQc.out.c 4 (by simp)
       have q5 : wc.cell? ⟨w7.heap.size,5,none⟩ = some (Value.int .i64 qq.delay):=BQc.out.c 5 (by simp)
       have q6 : wc.cell? ⟨w7.heap.size,6,none⟩ = some (Value.int .i64 qq.late):=BQc.out.c 6 (by simp)
       have lqc:=BQc.out.lt
       go_wp2_with fail
       refine A1H.out.mono ?_
       rintro e wd1 ⟨u1,os1,tbl1,rfl,hp1,ho1,hot1,hb⟩
       obtain ⟨e1,g1,rfl⟩:=owns_shapeE hp1.row
       have HP1:=hidE hp1
       have HO1:=hidE ho1
       have HOT1:=hidE hot1
       have FPd:=hidE (foP_below FPc.out hb)
       have HMd:=hidE (ptsR_below HMc.out hb)
       have A2:=answer_any _ _ _ _ _ L vs M wd1 (foP_G FPd.out) HCP.out HMd.out h3 H40.out
       rw [(foldQ_all FQ.out M).1,(foldQ_all FQ.out M).2,foldQ_kinds FQ.out] at A2
       unfold qyV qyP at A2
       have A2H:=hidE A2
       have BPx:=FPd.out.bp
       clear A2 A1H hp1 ho1 hot1 hb FPc Gc BQc HMc q0 q1 q2 q3 q4 q5 q6 lqc
       have z0 : wd1.cell? ⟨w9.heap.size,0,none⟩ = some (Value.slice av pp.length cv):=BPx.c 0 (by simp)
       have z1 : wd1.cell? ⟨w9.heap.size,1,none⟩ = some (Value.slice a7 fw.length c7):=BPx.c 1 (by simp)
       have z2 : wd1.cell? ⟨w9.heap.size,2,none⟩ = some (Value.slice o3 qq.bys.length d3):=BPx.c 2 (by simp)
       have z3 : wd1.cell? ⟨w9.heap.size,3,none⟩ = some (Value.int .i64 qq.size):=BPx.c 3 (by simp)
       have z4 : wd1.cell? ⟨w9.heap.size,4,none⟩ = some (Value.int .i64 qq.slide):=BPx.c 4 (by simp)
       have z5 : wd1.cell? ⟨w9.heap.size,5,none⟩ = some (Value.int .i64 qq.delay):=BPx.c 5 (by simp)
       have z6 : wd1.cell? ⟨w9.heap.size,6,none⟩ = some (Value.int .i64 qq.late):=BPx.c 6 (by simp)
       have lz:=BPx.lt
       clear BPx
       obtain ⟨NM,hNM⟩ : ∃ NM,allN qq M = NM:=⟨_,rfl⟩
       rw [hNM] at A2H ⊢
       go_wp2_with fail
       refine A2H.out.mono ?_
       rintro e we2 ⟨u2,os2,tbl2,rfl,hp2,ho2,hot2,hb⟩
       obtain ⟨e2,g2,rfl⟩:=owns_shapeE hp2.row
       have Be:=hidE (B9.out.trans ((FPd.out.old.trans (hb.mono (Nat.le_of_lt FPd.out.bp.lt))).mono B9.out.size))
       have hn4:=(okQ_of HC8.out).n4
       have SP:=hidE (samePanes_eq os1 os2 _ _ we2 (rowG_below (rowG_of_owns HP1.out.row) hb) (fun o h => rowG_below (rowG_of_owns (HP1.out.vs o h)) hb) (rowG_of_owns hp2.row) (fun o h => rowG_of_owns (hp2.vs o h))
        (by have h1:=HOT1.out.few;have h2:=allC_len (qyS_of HC8.out) M H40.out;rw [os_len HO1.out];omega) (os_few HO1.out HOT1.out hn4) (HO1.out.trans ((ofT_same HOT1.out hot2 (fun _ _ _ => ⟨rfl,Iff.rfl⟩)).trans ho2.symm)))
       clear hp2 ho2 hot2 hb A2H HP1 HO1 HOT1 FPd HMd FQ HCP HF z0 z1 z2 z3 z4 z5 z6 lz
       have beq9 : ((NM : Int) == (NM : Int)) = true:=by simp
       go_wp2_with fail
       refine SP.out.mono ?_
       rintro e wf2 ⟨rfl,hb⟩
       have Bf:=nxt Be hb
       clear SP hb Be
       go_wp2_with fail
       go_ret
       exact ⟨rfl,Bf.out⟩
     ·have dw : decide ((0 : Int) < (qq.wh.length : Int)) = false:=decide_eq_false (by omega)
      have HWE : Hid (qq.wh = []):=hidE (List.eq_nil_of_length_eq_zero (by omega))
      have Hb0:=OKQ.out.by_
      have BQx:=blk_below BQ9.out FP.out.old lq
      have y2 : wr.cell? ⟨w7.heap.size,2,none⟩ = some (.slice o3 qq.bys.length d3):=BQx.c 2 (by simp)
      have ly:=BQx.lt
      clear BQx
      by_cases hb0 : 0 < qq.bys.length
      ·have db : decide ((0 : Int) < (qq.bys.length : Int)) = true:=decide_eq_true (by omega)
       obtain ⟨tb,hwb,htb,h40b⟩:=chk_flat (Hb0 hb0)
       have hrb : RowT wr (.slice o3 qq.bys.length d3) tb:=by
        have:=rowG_below G9.out.by_ FP.out.old
        unfold RowT
        rw [htb]
        exact this
       have FB:=hidE (Fold_any tb _ _ hwb (by rw [htb];exact h40b) hrb)
       have hfb : FoldOf qq.bys (flat (foldT tb)):=⟨tb,hwb,htb,rfl,h40b⟩
       obtain ⟨fb,hfbe⟩ : ∃ fb,flat (foldT tb) = fb:=⟨_,rfl⟩
       rw [hfbe] at hfb
       have HFB:=hidE hfb
       have HFBE:=hidE hfbe
       clear hrb hfb hfbe
       go_wp2_with fail
       refine FB.out.mono ?_
       rintro e wy ⟨u6,rfl,hr6,hb6,fr6⟩
       have hr7 : NodG wy u6 fb:=by rw [← HFBE.out];exact hr6
       obtain ⟨a6,c6,rfl⟩:=rowG_shape hr7
       have hlb:=foldOf_len HFB.out
       have FPy:=foP_below FP.out hb6
       have lpx:=FP.out.bp.lt
       have FPz:=foP_by FPy (u:=.slice a6 fb.length c6) (l:=fb) ⟨hr7,by omega,.inr fun a n c e => by have:=fr6 a n c e;omega⟩
       have BPy:=FPy.bp
       have FP:=hidE FPz
       have zz2:=BPy.c 2 (by simp)
       have ff2:=BPy.fz 2
       have ll2:=BPy.lt
       clear hr6 hr7 hb6 fr6 FPy FPz BPy FB y2 ly
       have FQ:=hidE (foldQ_of HF.out (by omega) (.inl ⟨HWE.out,HWE.out⟩) (.inr HFB.out))
       have HCP:=hidE (foldQ_chk FQ.out HC8.out)
       have CK:=qcheck_any _ _ _ _ L (wy.setCell ⟨w9.heap.size,2,none⟩ (.slice a6 fb.length c6)) (foP_G FP.out)
       rw [HCP.out] at CK
       unfold qyV qyP at CK
       have CKH:=hidE CK
       have e0 : errC 0 = .nilIface:=rfl
       rw [e0] at CKH
       clear CK e0
       have BPx:=FP.out.bp
       have z0 : (wy.setCell ⟨w9.heap.size,2,none⟩ (.slice a6 fb.length c6)).cell? ⟨w9.heap.size,0,none⟩ = some (Value.slice av pp.length cv):=BPx.c 0 (by simp)
       have z1 : (wy.setCell ⟨w9.heap.size,2,none⟩ (.slice a6 fb.length c6)).cell? ⟨w9.heap.size,1,none⟩ = some (Value.slice o2 qq.wh.length d2):=BPx.c 1 (by simp)
       have z2 : (wy.setCell ⟨w9.heap.size,2,none⟩ (.slice a6 fb.length c6)).cell? ⟨w9.heap.size,2,none⟩ = some (Value.slice a6 fb.length c6):=BPx.c 2 (by simp)
       have z3 : (wy.setCell ⟨w9.heap.size,2,none⟩ (.slice a6 fb.length c6)).cell? ⟨w9.heap.size,3,none⟩ = some (Value.int .i64 qq.size):=BPx.c 3 (by simp)
       have z4 : (wy.setCell ⟨w9.heap.size,2,none⟩ (.slice a6 fb.length c6)).cell? ⟨w9.heap.size,4,none⟩ = some (Value.int .i64 qq.slide):=BPx.c 4 (by simp)
       have z5 : (wy.setCell ⟨w9.heap.size,2,none⟩ (.slice a6 fb.length c6)).cell? ⟨w9.heap.size,5,none⟩ = some (Value.int .i64 qq.delay):=BPx.c 5 (by simp)
       have z6 : (wy.setCell ⟨w9.heap.size,2,none⟩ (.slice a6 fb.length c6)).cell? ⟨w9.heap.size,6,none⟩ = some (Value.int .i64 qq.late):=BPx.c 6 (by simp)
       have lz:=BPx.lt
       clear BPx
       go_wp2_with fail
       refine CKH.out.mono ?_
       rintro e wc ⟨rfl,hb⟩
       have FPc:=hidE (foP_below FP.out hb)
       have Gc:=hidE (qyG_below G9.out FPc.out.old)
       have BQc:=hidE (blk_below BQ9.out FPc.out.old lq)
       have HMc:=hidE (ptsR_below HM9.out FPc.out.old)
       have A1:=answer_any _ _ _ _ qq pp vs M wc Gc.out HC8.out HMc.out h3 H40.out
       unfold qyV at A1
       have A1H:=hidE A1
       clear A1 CKH hb FP z0 z1 z2 z3 z4 z5 z6 lz
       have q0 : wc.cell? ⟨w7.heap.size,0,none⟩ = some (Value.slice o1 pp.length d1):=BQc.out.c 0 (by simp)
       have q1 : wc.cell? ⟨w7.heap.size,1,none⟩ = some (Value.slice o2 qq.wh.length d2):=BQc.out.c 1 (by simp)
       have q2 : wc.cell? ⟨w7.heap.size,2,none⟩ = some (Value.slice o3 qq.bys.length d3):=BQc.out.c 2 (by simp)
       have q3 : wc.cell? ⟨w7.heap.size,3,none⟩ = some (Value.int .i64 qq.size):=BQc.out.c 3 (by simp)
       have q4 : wc.cell? ⟨w7.heap.size,4,none⟩ = some (Value.int .i64 qq.slide):=BQc.out.c 4 (by simp)
       have q5 : wc.cell? ⟨w7.heap.size,5,none⟩ = some (Value.int .i64 qq.delay):=BQc.out.c 5 (by simp)
       have q6 : wc.cell? ⟨w7.heap.size,6,none⟩ = some (Value.int .i64 qq.late):=BQc.out.c 6 (by simp)
       have lqc:=BQc.out.lt
       go_wp2_with fail
       refine A1H.out.mono ?_
       rintro e wd1 ⟨u1,os1,tbl1,rfl,hp1,ho1,hot1,hb⟩
       obtain ⟨e1,g1,rfl⟩:=owns_shapeE hp1.row
       have HP1:=hidE hp1
       have HO1:=hidE ho1
       have HOT1:=hidE hot1
       have FPd:=hidE (foP_below FPc.out hb)
       have HMd:=hidE (ptsR_below HMc.out hb)
       have A2:=answer_any _ _ _ _ _ L vs M wd1 (foP_G FPd.out) HCP.out HMd.out h3 H40.out
       rw [(foldQ_all FQ.out M).1,(foldQ_all FQ.out M).2,foldQ_kinds FQ.out] at A2
       unfold qyV qyP at A2
       have A2H:=hidE A2
       have BPx:=FPd.out.bp
       clear A2 A1H hp1 ho1 hot1 hb FPc Gc BQc HMc q0 q1 q2 q3 q4 q5 q6 lqc
       have z0 : wd1.cell? ⟨w9.heap.size,0,none⟩ = some (Value.slice av pp.length cv):=BPx.c 0 (by simp)
       have z1 : wd1.cell? ⟨w9.heap.size,1,none⟩ = some (Value.slice o2 qq.wh.length d2):=BPx.c 1 (by simp)
       have z2 : wd1.cell? ⟨w9.heap.size,2,none⟩ = some (Value.slice a6 fb.length c6):=BPx.c 2 (by simp)
       have z3 : wd1.cell? ⟨w9.heap.size,3,none⟩ = some (Value.int .i64 qq.size):=BPx.c 3 (by simp)
       have z4 : wd1.cell? ⟨w9.heap.size,4,none⟩ = some (Value.int .i64 qq.slide):=BPx.c 4 (by simp)
       have z5 : wd1.cell? ⟨w9.heap.size,5,none⟩ = some (Value.int .i64 qq.delay):=BPx.c 5 (by simp)
       have z6 : wd1.cell? ⟨w9.heap.size,6,none⟩ = some (Value.int .i64 qq.late):=BPx.c 6 (by simp)
       have lz:=BPx.lt
       clear BPx
       obtain ⟨NM,hNM⟩ : ∃ NM,allN qq M = NM:=⟨_,rfl⟩
       rw [hNM] at A2H ⊢
       go_wp2_with fail
       refine A2H.out.mono ?_
       rintro e we2 ⟨u2,os2,tbl2,rfl,hp2,ho2,hot2,hb⟩
       obtain ⟨e2,g2,rfl⟩:=owns_shapeE hp2.row
       have Be:=hidE (B9.out.trans ((FPd.out.old.trans (hb.mono (Nat.le_of_lt FPd.out.bp.lt))).mono B9.out.size))
       have hn4:=(okQ_of HC8.out).n4
       have SP:=hidE (samePanes_eq os1 os2 _ _ we2 (rowG_below (rowG_of_owns HP1.out.row) hb) (fun o h => rowG_below (rowG_of_owns (HP1.out.vs o h)) hb) (rowG_of_owns hp2.row) (fun o h => rowG_of_owns (hp2.vs o h))
        (by have h1:=HOT1.out.few;have h2:=allC_len (qyS_of HC8.out) M H40.out;rw [os_len HO1.out];omega) (os_few HO1.out HOT1.out hn4) (HO1.out.trans ((ofT_same HOT1.out hot2 (fun _ _ _ => ⟨rfl,Iff.rfl⟩)).trans ho2.symm)))
       clear hp2 ho2 hot2 hb A2H HP1 HO1 HOT1 FPd HMd FQ HCP HF z0 z1 z2 z3 z4 z5 z6 lz
       have beq9 : ((NM : Int) == (NM : Int)) = true:=by simp
       go_wp2_with fail
       refine SP.out.mono ?_
       rintro e wf2 ⟨rfl,hb⟩
       have Bf:=nxt Be hb
       clear SP hb Be
       go_wp2_with fail
       go_ret
       exact ⟨rfl,Bf.out⟩
      ·have db : decide ((0 : Int) < (qq.bys.length : Int)) = false:=decide_eq_false (by omega)
       have HBE : Hid (qq.bys = []):=hidE (List.eq_nil_of_length_eq_zero (by omega))
       have FQ:=hidE (foldQ_of HF.out (by omega) (.inl ⟨HWE.out,HWE.out⟩) (.inl ⟨HBE.out,HBE.out⟩))
       have HCP:=hidE (foldQ_chk FQ.out HC8.out)
       have CK:=qcheck_any _ _ _ _ L wr (foP_G FP.out)
       rw [HCP.out] at CK
       unfold qyV qyP at CK
       have CKH:=hidE CK
       have e0 : errC 0 = .nilIface:=rfl
       rw [e0] at CKH
       clear CK e0
       have BPx:=FP.out.bp
       have z0 : wr.cell? ⟨w9.heap.size,0,none⟩ = some (Value.slice av pp.length cv):=BPx.c 0 (by simp)
       have z1 : wr.cell? ⟨w9.heap.size,1,none⟩ = some (Value.slice o2 qq.wh.length d2):=BPx.c 1 (by simp)
       have z2 : wr.cell? ⟨w9.heap.size,2,none⟩ = some (Value.slice o3 qq.bys.length d3):=BPx.c 2 (by simp)
       have z3 : wr.cell? ⟨w9.heap.size,3,none⟩ = some (Value.int .i64 qq.size):=BPx.c 3 (by simp)
       have z4 : wr.cell? ⟨w9.heap.size,4,none⟩ = some (Value.int .i64 qq.slide):=BPx.c 4 (by simp)
       have z5 : wr.cell? ⟨w9.heap.size,5,none⟩ = some (Value.int .i64 qq.delay):=BPx.c 5 (by simp)
       have z6 : wr.cell? ⟨w9.heap.size,6,none⟩ = some (Value.int .i64 qq.late):=BPx.c 6 (by simp)
       have lz:=BPx.lt
       clear BPx
       go_wp2_with fail
       refine CKH.out.mono ?_
       rintro e wc ⟨rfl,hb⟩
       have FPc:=hidE (foP_below FP.out hb)
       have Gc:=hidE (qyG_below G9.out FPc.out.old)
       have BQc:=hidE (blk_below BQ9.out FPc.out.old lq)
       have HMc:=hidE (ptsR_below HM9.out FPc.out.old)
       have A1:=answer_any _ _ _ _ qq pp vs M wc Gc.out HC8.out HMc.out h3 H40.out
       unfold qyV at A1
       have A1H:=hidE A1
       clear A1 CKH hb FP z0 z1 z2 z3 z4 z5 z6 lz
       have q0 : wc.cell? ⟨w7.heap.size,0,none⟩ = some (Value.slice o1 pp.length d1):=BQc.out.c 0 (by simp)
       have q1 : wc.cell? ⟨w7.heap.size,1,none⟩ = some (Value.slice o2 qq.wh.length d2):=BQc.out.c 1 (by simp)
       have q2 : wc.cell? ⟨w7.heap.size,2,none⟩ = some (Value.slice o3 qq.bys.length d3):=BQc.out.c 2 (by simp)
       have q3 : wc.cell? ⟨w7.heap.size,3,none⟩ = some (Value.int .i64 qq.size):=BQc.out.c 3 (by simp)
       have q4 : wc.cell? ⟨w7.heap.size,4,none⟩ = some (Value.int .i64 qq.slide):=BQc.out.c 4 (by simp)
       have q5 : wc.cell? ⟨w7.heap.size,5,none⟩ = some (Value.int .i64 qq.delay):=BQc.out.c 5 (by simp)
       have q6 : wc.cell? ⟨w7.heap.size,6,none⟩ = some (Value.int .i64 qq.late):=BQc.out.c 6 (by simp)
       have lqc:=BQc.out.lt
       go_wp2_with fail
       refine A1H.out.mono ?_
       rintro e wd1 ⟨u1,os1,tbl1,rfl,hp1,ho1,hot1,hb⟩
       obtain ⟨e1,g1,rfl⟩:=owns_shapeE hp1.row
       have HP1:=hidE hp1
       have HO1:=hidE ho1
       have HOT1:=hidE hot1
       have FPd:=hidE (foP_below FPc.out hb)
       have HMd:=hidE (ptsR_below HMc.out hb)
       have A2:=answer_any _ _ _ _ _ L vs M wd1 (foP_G FPd.out) HCP.out HMd.out h3 H40.out
       rw [(foldQ_all FQ.out M).1,(foldQ_all FQ.out M).2,foldQ_kinds FQ.out] at A2
       unfold qyV qyP at A2
       have A2H:=hidE A2
       have BPx:=FPd.out.bp
       clear A2 A1H hp1 ho1 hot1 hb FPc Gc BQc HMc q0 q1 q2 q3 q4 q5 q6 lqc
       have z0 : wd1.cell? ⟨w9.heap.size,0,none⟩ = some (Value.slice av pp.length cv):=BPx.c 0 (by simp)
       have z1 : wd1.cell? ⟨w9.heap.size,1,none⟩ = some (Value.slice o2 qq.wh.length d2):=BPx.c 1 (by simp)
       have z2 : wd1.cell? ⟨w9.heap.size,2,none⟩ = some (Value.slice o3 qq.bys.length d3):=BPx.c 2 (by simp)
       have z3 : wd1.cell? ⟨w9.heap.size,3,none⟩ = some (Value.int .i64 qq.size):=BPx.c 3 (by simp)
       have z4 : wd1.cell? ⟨w9.heap.size,4,none⟩ = some (Value.int .i64 qq.slide):=BPx.c 4 (by simp)
       have z5 : wd1.cell? ⟨w9.heap.size,5,none⟩ = some (Value.int .i64 qq.delay):=BPx.c 5 (by simp)
       have z6 : wd1.cell? ⟨w9.heap.size,6,none⟩ = some (Value.int .i64 qq.late):=BPx.c 6 (by simp)
       have lz:=BPx.lt
       clear BPx
       obtain ⟨NM,hNM⟩ : ∃ NM,allN qq M = NM:=⟨_,rfl⟩
       rw [hNM] at A2H ⊢
       go_wp2_with fail
       refine A2H.out.mono ?_
       rintro e we2 ⟨u2,os2,tbl2,rfl,hp2,ho2,hot2,hb⟩
       obtain ⟨e2,g2,rfl⟩:=owns_shapeE hp2.row
       have Be:=hidE (B9.out.trans ((FPd.out.old.trans (hb.mono (Nat.le_of_lt FPd.out.bp.lt))).mono B9.out.size))
       have hn4:=(okQ_of HC8.out).n4
       have SP:=hidE (samePanes_eq os1 os2 _ _ we2 (rowG_below (rowG_of_owns HP1.out.row) hb) (fun o h => rowG_below (rowG_of_owns (HP1.out.vs o h)) hb) (rowG_of_owns hp2.row) (fun o h => rowG_of_owns (hp2.vs o h))
        (by have h1:=HOT1.out.few;have h2:=allC_len (qyS_of HC8.out) M H40.out;rw [os_len HO1.out];omega) (os_few HO1.out HOT1.out hn4) (HO1.out.trans ((ofT_same HOT1.out hot2 (fun _ _ _ => ⟨rfl,Iff.rfl⟩)).trans ho2.symm)))
       clear hp2 ho2 hot2 hb A2H HP1 HO1 HOT1 FPd HMd FQ HCP HF z0 z1 z2 z3 z4 z5 z6 lz
       have beq9 : ((NM : Int) == (NM : Int)) = true:=by simp
       go_wp2_with fail
       refine SP.out.mono ?_
       rintro e wf2 ⟨rfl,hb⟩
       have Bf:=nxt Be hb
       clear SP hb Be
       go_wp2_with fail
       go_ret
       exact ⟨rfl,Bf.out⟩
end Go.Proofs.YtaomljdbndajgaaGreatDoor
