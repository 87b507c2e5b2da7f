/- Several texts in one, each with its own head. What is proved: what the parts say. Conditions: theirs. -/
import Derived.Test.YtcgjflamgnjhcaaGreatDoorBtBJ
import Derived.Test.YtcgjflamgnjhcaaGreatDoorPaneC
import Derived.Test.YtcgjflamgnjhcaaGreatDoorPaneDJ
set_option linter.unusedVariables false
set_option linter.unusedSimpArgs false
set_option maxRecDepth 100000
set_option maxHeartbeats 8000000
namespace Go.Proofs.YtcgjflamgnjhcaaGreatDoor
open Go.ChangeShapes Go.WideShapes Go.ChangeAt Go.RowKit
theorem apart_tell {w0 w w' : World} {tv u v : Value} {tb TT : List Pn} {size upto : Int} (hT0 : TblR w0 tv tb) (h0 : w0.heap.size ≤ w.heap.size) (hT : TblR w' u (tb.map (tellP size upto))) (hV : TblR w' v TT) (hu : FromB w.heap.size u) (hv : FromB w.heap.size v) (ha : ∀ p ∈ TT,FromB w.heap.size p.av) :
  ∀ k,(w0.heap.size ≤ k ∧ k < w.heap.size) ∨ w'.heap.size ≤ k → u.ownBlock ≠ some k ∧ v.ownBlock ≠ some k ∧ (∀ p ∈ tb.map (tellP size upto),p.av.ownBlock ≠ some k) ∧ ∀ p ∈ TT,p.av.ownBlock ≠ some k:=fun k hk => by
 refine ⟨fun e => ?_,fun e => ?_,fun p hp e => ?_,fun p hp e => ?_⟩
 ·have h1:=hu k e;have h2:=rowS_lt hT.row e;omega
 ·have h1:=hv k e;have h2:=rowS_lt hV.row e;omega
 ·have h2:=rowS_lt (hT.acc p hp) e
  obtain ⟨p0,hp0,rfl⟩:=List.mem_map.1 hp
  have e9 : (tellP size upto p0).av = p0.av:=by unfold tellP;split <;> rfl
  rw [e9] at e
  have h1:=rowS_lt (hT0.acc p0 hp0) e
  omega
 ·have h1:=ha p hp k e;have h2:=rowS_lt (hV.acc p hp) e;omega
theorem r0_end {w w9 : World} {tb_ : Nat} {u v : Value} {A C : List Pn} {z : Value} (hb : Below w.heap.size w w9) (y1 : w.heap.size ≤ tb_) (BT : BlkAt w9 tb_ [z]) (TT : TblR w9 u A) (VV : TblR w9 v C) (d : u.ownBlock ≠ some tb_ ∧ v.ownBlock ≠ some tb_ ∧ (∀ p ∈ A,p.av.ownBlock ≠ some tb_) ∧ ∀ p ∈ C,p.av.ownBlock ≠ some tb_) :
  BlkAt (w9.setCell ⟨tb_,0,none⟩ u) tb_ [u] ∧ TblR (w9.setCell ⟨tb_,0,none⟩ u) u A ∧ TblR (w9.setCell ⟨tb_,0,none⟩ u) v C ∧ Below w.heap.size w (w9.setCell ⟨tb_,0,none⟩ u):=by
 have K:=keptB_set (keptB_of_below (bad:=fun k => k = tb_) (Below.refl w9.heap.size w9)) (g:=tb_) rfl 0 u
 exact ⟨by simpa using blk_set BT 0 u (by simp),tblR_kept9 TT K (fun k hk e => d.1 (by rw [← e];exact hk)) (fun p hp k hk e => d.2.2.1 p hp (by rw [← e];exact hk)),tblR_kept9 VV K (fun k hk e => d.2.1 (by rw [← e];exact hk)) (fun p hp k hk e => d.2.2.2 p hp (by rw [← e];exact hk)),hb.setCell (p:=⟨tb_,0,none⟩) y1 u⟩
theorem etell_r0 (Q : Exit → Act → World → Prop) (C0 : Code) (h0 : rgn 0 (Tryz.f49.body.getD .skip) = some C0) (t : List Value) (eb : Nat) (rdv ckv ltv rwv vq5 vq6 vq7 : Value) (tva : Option Addr) (tvc : Nat) (tb : List Pn) (q : Qy) (upto : Int) (w : World) (ht : t.length = 58) (k0 : t[0]? = some (.pointer (some ⟨eb,0,none⟩))) (k1 : t[1]? = some (.int .i64 upto))
  (BE : BlkAt w eb [rdv,ckv,Value.slice tva tb.length tvc,ltv,rwv,vq5,vq6,vq7,Value.int .i64 q.size,Value.int .i64 q.slide,Value.int .i64 q.delay,Value.int .i64 q.late]) (hT : TblR w (.slice tva tb.length tvc) tb) (hl : tb.length ≤ 500) (hst : ∀ p ∈ tb,-100000 ≤ p.st ∧ p.st ≤ 100000) (h3 : 1 ≤ q.size) (h4 : q.size ≤ 100000) (hal : ∀ p ∈ tb,p.ac.length ≤ 100)
  (hpan : ∀ c (a : Act) o v w,Q (.panic c) (a.put o v) w → Q (.panic c) a w)
  (hQ : ∀ (t' : List Value) (tb_ : Nat) (au_ : Option Addr) (cu_ : Nat) (av_ : Option Addr) (cv_ : Nat) (TT : List Pn) (w' : World),t'.length = 58 → t'[0]? = some (.pointer (some ⟨eb,0,none⟩)) → t'[1]? = some (.int .i64 upto) → t'[4]? = some (.pointer (some ⟨tb_,0,none⟩)) → t'[5]? = some (.slice av_ TT.length cv_) → w.heap.size ≤ tb_ ∧ BlkAt w' tb_ [.slice au_ tb.length cu_] ∧ TblR w' (.slice au_ tb.length cu_) (tb.map (tellP q.size upto)) ∧ TblR w' (.slice av_ TT.length cv_) TT ∧ TT.map keyC = (tb.filter (isDue q.size upto)).map keyC ∧ Below w.heap.size w w' ∧ FromB w.heap.size (.slice au_ tb.length cu_) ∧ FromB w.heap.size (.slice av_ TT.length cv_) ∧ (∀ p ∈ TT,FromB w.heap.size p.av) → Q .normal { tmps:=t'.toArray,defers:=[] } w') :
  Code.wp Tryz.prog C0 Q { tmps:=t.toArray,defers:=[] } w:=by
 have HQ:=hidE hQ
 have HPN:=hidE hpan
 have hS : Below w.heap.size w ({ w with drawn:=w.drawn + 1 } : World):=(Below.refl _ _).drew
 have TO:=hidE (fun w' (hb : Below w.heap.size w w') => tell_gen tb (.slice tva tb.length tvc) q.size upto w' (tblR_below hT hb) hl hst h3 h4 hal)
 have BE:=hidE BE
 have HT0:=hidE hT
 clear hQ hpan hT hl hst h3 h4 hal
 obtain ⟨f,hf,hi⟩:=listed58 t ht
 have e0:=some_at (hi 0 (by decide)) k0
 have e1:=some_at (hi 1 (by decide)) k1
 rw [e0,e1] at hf
 clear hi ht k0 e0 k1 e1
 subst hf
 unfold Tryz.f49 at h0
 simp [rgn] at h0
 subst h0
 refine wp_region_held (S:=fun w' => Below w.heap.size w w') (by kernel_rfl) ?_
 generalize ({ w with drawn:=w.drawn + 1 } : World) = wd at *
 refine held_take (i:=0) (v:=.pointer (some ⟨eb,0,none⟩)) (L:=#[true,false,false,false,false,false,false,false,false,false,false,false,false,false,false,false,false]) rfl (by kernel_rfl) (by kernel_rfl) (by kernel_rfl) (fun c a w h => HPN.out c a _ _ w h) (Or.inl ⟨by kernel_rfl,fun wq hq => by go_simp⟩) hS (by kernel_rfl) ?_
 refine held_take (i:=1) (v:=.pointer (some ⟨eb,0,none⟩)) (L:=#[true,true,false,false,false,false,false,false,false,false,false,false,false,false,false,false,false]) rfl (by kernel_rfl) (by kernel_rfl) (by kernel_rfl) (fun c a w h => HPN.out c a _ _ w h) (Or.inl ⟨by kernel_rfl,fun wq hq => by go_simp⟩) hS (by kernel_rfl) ?_
 refine held_take (i:=2) (v:=.pointer (some ⟨eb,2,none⟩)) (L:=#[true,true,true,false,false,false,false,false,false,false,false,false,false,false,false,false,false]) rfl (by kernel_rfl) (by kernel_rfl) (by kernel_rfl) (fun c a w h => HPN.out c a _ _ w h) (Or.inl ⟨by kernel_rfl,fun wq hq => by go_simp⟩) hS (by kernel_rfl) ?_
 refine held_take (i:=3) (v:=.agg #[.slice tva tb.length tvc]) (L:=#[true,true,true,true,false,false,false,false,false,false,false,false,false,false,false,false,false]) rfl (by kernel_rfl) (by kernel_rfl) (by kernel_rfl) (fun c a w h => HPN.out c a _ _ w h) (Or.inl ⟨by kernel_rfl,fun wq hq => by have K:=blk_below BE.out hq BE.out.lt;have q2 : wq.cell? ⟨eb,2,none⟩ = some (Value.slice tva tb.length tvc):=K.c 2 (by simp);clear K;go_simp⟩) hS (by kernel_rfl) ?_
 refine held_take (i:=4) (v:=.pointer (some ⟨eb,0,none⟩)) (L:=#[true,true,true,true,true,false,false,false,false,false,false,false,false,false,false,false,false]) rfl (by kernel_rfl) (by kernel_rfl) (by kernel_rfl) (fun c a w h => HPN.out c a _ _ w h) (Or.inl ⟨by kernel_rfl,fun wq hq => by go_simp⟩) hS (by kernel_rfl) ?_
 refine held_take (i:=5) (v:=.pointer (some ⟨eb,0,none⟩)) (L:=#[true,true,true,true,true,true,false,false,false,false,false,false,false,false,false,false,false]) rfl (by kernel_rfl) (by kernel_rfl) (by kernel_rfl) (fun c a w h => HPN.out c a _ _ w h) (Or.inl ⟨by kernel_rfl,fun wq hq => by go_simp⟩) hS (by kernel_rfl) ?_
 refine held_take (i:=6) (v:=.pointer (some ⟨eb,5,none⟩)) (L:=#[true,true,true,true,true,true,true,false,false,false,false,false,false,false,false,false,false]) rfl (by kernel_rfl) (by kernel_rfl) (by kernel_rfl) (fun c a w h => HPN.out c a _ _ w h) (Or.inl ⟨by kernel_rfl,fun wq hq => by go_simp⟩) hS (by kernel_rfl) ?_
 refine held_take (i:=7) (v:=.pointer (some ⟨eb,8,none⟩)) (L:=#[true,true,true,true,true,true,true,true,false,false,false,false,false,false,false,false,false]) rfl (by kernel_rfl) (by kernel_rfl) (by kernel_rfl) (fun c a w h => HPN.out c a _ _ w h) (Or.inl ⟨by kernel_rfl,fun wq hq => by go_simp⟩) hS (by kernel_rfl) ?_
 refine held_take (i:=8) (v:=.int .i64 q.size) (L:=#[true,true,true,true,true,true,true,true,true,false,false,false,false,false,false,false,false]) rfl (by kernel_rfl) (by kernel_rfl) (by kernel_rfl) (fun c a w h => HPN.out c a _ _ w h) (Or.inl ⟨by kernel_rfl,fun wq hq => by have K:=blk_below BE.out hq BE.out.lt;have q8 : wq.cell? ⟨eb,8,none⟩ = some (Value.int .i64 q.size):=K.c 8 (by simp);clear K;go_simp⟩) hS (by kernel_rfl) ?_
 refine held_take (i:=9) (v:=.int .i64 upto) (L:=#[true,true,true,true,true,true,true,true,true,true,false,false,false,false,false,false,false]) rfl (by kernel_rfl) (by kernel_rfl) (by kernel_rfl) (fun c a w h => HPN.out c a _ _ w h) (Or.inl ⟨by kernel_rfl,fun wq hq => by go_simp⟩) hS (by kernel_rfl) ?_
 refine held_two (i:=10) (j:=14) (Li:=#[true,true,true,true,true,true,true,true,true,true,true,false,false,false,false,false,false]) (Lj:=#[true,true,true,true,true,true,true,true,true,true,false,false,false,false,true,false,false]) (by kernel_rfl) rfl rfl (by kernel_rfl) (by kernel_rfl) (by kernel_rfl) (by kernel_rfl) ?_ ?_
 ·intro K' hK
  go_simp
  refine (TO.out _ hS).mono ?_
  rintro e w1 ⟨u,v,TT,rfl,hT9,hV9,hk9,⟨hu9,hv9,ha9⟩,hb⟩
  have hS1:=hS.trans (hb.mono hS.size)
  obtain ⟨au_,cu_,rfl⟩:=rowS_shape hT9.row
  obtain ⟨av_,cv_,rfl⟩:=rowS_shape hV9.row
  rw [List.length_map] at hT9 hu9
  have HD:=hidE (apart_tell HT0.out hS.size hT9 hV9 hu9 hv9 ha9)
  have HF9:=hidE (And.intro (fromB_mono hu9 hS.size) (And.intro (fromB_mono hv9 hS.size) (fun p hp => fromB_mono (ha9 p hp) hS.size)))
  have HTT:=hidE hT9
  have HVV:=hidE hV9
  have HKK:=hidE hk9
  have HB:=hidE hb
  have zb:=hb.size
  try simp only [List.length_map]
  refine hK _ _ ⟨hS1,?_⟩
  clear hK hT9 hV9 hk9 hu9 hv9 ha9 hb
  refine held_take (i:=11) (v:=.tuple #[.agg #[.slice au_ tb.length cu_],.slice av_ TT.length cv_]) (L:=#[true,true,true,true,true,true,true,true,true,true,true,true,false,false,false,false,false]) rfl (by kernel_rfl) (by kernel_rfl) (by kernel_rfl) (fun c a w h => HPN.out c a _ _ w h) (Or.inl ⟨by kernel_rfl,fun wq hq => by go_simp⟩) hS1 (by kernel_rfl) ?_
  refine held_take (i:=12) (v:=.agg #[.slice au_ tb.length cu_]) (L:=#[true,true,true,true,true,true,true,true,true,true,true,true,true,false,false,false,false]) rfl (by kernel_rfl) (by kernel_rfl) (by kernel_rfl) (fun c a w h => HPN.out c a _ _ w h) (Or.inl ⟨by kernel_rfl,fun wq hq => by go_simp⟩) hS1 (by kernel_rfl) ?_
  refine held_take (i:=13) (v:=.slice av_ TT.length cv_) (L:=#[true,true,true,true,true,true,true,true,true,true,true,true,true,true,false,false,false]) rfl (by kernel_rfl) (by kernel_rfl) (by kernel_rfl) (fun c a w h => HPN.out c a _ _ w h) (Or.inl ⟨by kernel_rfl,fun wq hq => by go_simp⟩) hS1 (by kernel_rfl) ?_
  refine held_go (i:=14) (L:=#[true,true,true,true,true,true,true,true,true,true,true,true,true,true,true,false,false]) (by kernel_rfl) rfl (by kernel_rfl) (by kernel_rfl) ?_
  intro K' hK
  have BT:=hidE (blk_alloc w1 [.slice none 0 0] 66)
  have hS2:=hS1.alloc hS1.size (.cells #[.slice none 0 0] 66)
  have HB2:=hidE (below_alloc w1 (.cells #[.slice none 0 0] 66))
  go_simp
  refine hK _ _ ⟨hS2,?_⟩
  clear hK
  have ytb : Hid (w.heap.size ≤ w1.heap.size):=hS1.size
  generalize hgt : w1.heap.size = tb_ at *
  have hS2' : Hid (Below w.heap.size w (w1.alloc (.cells #[.slice none 0 0] 66))):=hS2
  generalize w1.alloc (.cells #[.slice none 0 0] 66) = w2 at *
  have hS2:=hS2'.out
  have zt : tb_ < w2.heap.size:=BT.out.lt
  clear hS2'
  have BTe:=BT.out
  have TTe:=tblR_bel HTT.out (by rw [hgt];exact HB2.out)
  have VVe:=tblR_bel HVV.out (by rw [hgt];exact HB2.out)
  have y1:=ytb.out
  have d:=HD.out tb_ (by omega)
  have E:=hidE (r0_end hS2 y1 BTe TTe VVe d)
  have t0:=BTe.c 0 (by simp)
  have g0:=BTe.fz 0
  have sT:=hS2.setCell (p:=⟨tb_,0,none⟩) y1 (.slice au_ tb.length cu_)
  clear BTe TTe VVe d HD
  refine held_go (i:=15) (L:=#[true,true,true,true,true,true,true,true,true,true,true,true,true,true,true,true,false]) (by kernel_rfl) rfl (by kernel_rfl) (by kernel_rfl) ?_
  intro K' hK
  go_simp
  refine hK _ _ ⟨sT,?_⟩
  clear hK
  refine held_go (i:=16) (L:=#[true,true,true,true,true,true,true,true,true,true,true,true,true,true,true,true,true]) (by kernel_rfl) rfl (by kernel_rfl) (by kernel_rfl) ?_
  intro K' hK
  go_simp
  refine hK _ _ ⟨sT,?_⟩
  clear hK
  refine wpAnyH_done (by kernel_rfl) ?_ _
  exact HQ.out _ tb_ au_ cu_ av_ cv_ TT _ rfl rfl rfl rfl rfl ⟨y1,E.out.1,E.out.2.1,E.out.2.2.1,HKK.out,E.out.2.2.2,HF9.out.1,HF9.out.2.1,HF9.out.2.2⟩
 ·intro K' hK
  have BT:=hidE (blk_alloc wd [.slice none 0 0] 66)
  have hS1:=hS.alloc hS.size (.cells #[.slice none 0 0] 66)
  have HB2:=hidE (below_alloc wd (.cells #[.slice none 0 0] 66))
  go_simp
  refine hK _ _ ⟨hS1,?_⟩
  clear hK
  have ytb : Hid (w.heap.size ≤ wd.heap.size):=hS.size
  generalize hgt : wd.heap.size = tb_ at *
  have hS1' : Hid (Below w.heap.size w (wd.alloc (.cells #[.slice none 0 0] 66))):=hS1
  generalize wd.alloc (.cells #[.slice none 0 0] 66) = w1 at *
  have hS1:=hS1'.out
  have zt : tb_ < w1.heap.size:=BT.out.lt
  clear hS1'
  refine held_go (i:=10) (L:=#[true,true,true,true,true,true,true,true,true,true,true,false,false,false,true,false,false]) (by kernel_rfl) rfl (by kernel_rfl) (by kernel_rfl) ?_
  intro K' hK
  go_simp
  refine (TO.out _ hS1).mono ?_
  rintro e w2 ⟨u,v,TT,rfl,hT9,hV9,hk9,⟨hu9,hv9,ha9⟩,hb⟩
  have hS2:=hS1.trans (hb.mono hS1.size)
  obtain ⟨au_,cu_,rfl⟩:=rowS_shape hT9.row
  obtain ⟨av_,cv_,rfl⟩:=rowS_shape hV9.row
  rw [List.length_map] at hT9 hu9
  have HD:=hidE (apart_tell HT0.out hS1.size hT9 hV9 hu9 hv9 ha9)
  have HF9:=hidE (And.intro (fromB_mono hu9 hS1.size) (And.intro (fromB_mono hv9 hS1.size) (fun p hp => fromB_mono (ha9 p hp) hS1.size)))
  have HTT:=hidE hT9
  have HVV:=hidE hV9
  have HKK:=hidE hk9
  have HB:=hidE hb
  have zb:=hb.size
  try simp only [List.length_map]
  refine hK _ _ ⟨hS2,?_⟩
  clear hK hT9 hV9 hk9 hu9 hv9 ha9 hb
  refine held_take (i:=11) (v:=.tuple #[.agg #[.slice au_ tb.length cu_],.slice av_ TT.length cv_]) (L:=#[true,true,true,true,true,true,true,true,true,true,true,true,false,false,true,false,false]) rfl (by kernel_rfl) (by kernel_rfl) (by kernel_rfl) (fun c a w h => HPN.out c a _ _ w h) (Or.inl ⟨by kernel_rfl,fun wq hq => by go_simp⟩) hS2 (by kernel_rfl) ?_
  refine held_take (i:=12) (v:=.agg #[.slice au_ tb.length cu_]) (L:=#[true,true,true,true,true,true,true,true,true,true,true,true,true,false,true,false,false]) rfl (by kernel_rfl) (by kernel_rfl) (by kernel_rfl) (fun c a w h => HPN.out c a _ _ w h) (Or.inl ⟨by kernel_rfl,fun wq hq => by go_simp⟩) hS2 (by kernel_rfl) ?_
  refine held_take (i:=13) (v:=.slice av_ TT.length cv_) (L:=#[true,true,true,true,true,true,true,true,true,true,true,true,true,true,true,false,false]) rfl (by kernel_rfl) (by kernel_rfl) (by kernel_rfl) (fun c a w h => HPN.out c a _ _ w h) (Or.inl ⟨by kernel_rfl,fun wq hq => by go_simp⟩) hS2 (by kernel_rfl) ?_
  have BTe:=blk_bel BT.out HB.out
  have TTe:=HTT.out
  have VVe:=HVV.out
  have y1:=ytb.out
  have d:=HD.out tb_ (by omega)
  have E:=hidE (r0_end hS2 y1 BTe TTe VVe d)
  have t0:=BTe.c 0 (by simp)
  have g0:=BTe.fz 0
  have sT:=hS2.setCell (p:=⟨tb_,0,none⟩) y1 (.slice au_ tb.length cu_)
  clear BTe TTe VVe d HD
  refine held_go (i:=15) (L:=#[true,true,true,true,true,true,true,true,true,true,true,true,true,true,true,true,false]) (by kernel_rfl) rfl (by kernel_rfl) (by kernel_rfl) ?_
  intro K' hK
  go_simp
  refine hK _ _ ⟨sT,?_⟩
  clear hK
  refine held_go (i:=16) (L:=#[true,true,true,true,true,true,true,true,true,true,true,true,true,true,true,true,true]) (by kernel_rfl) rfl (by kernel_rfl) (by kernel_rfl) ?_
  intro K' hK
  go_simp
  refine hK _ _ ⟨sT,?_⟩
  clear hK
  refine wpAnyH_done (by kernel_rfl) ?_ _
  exact HQ.out _ tb_ au_ cu_ av_ cv_ TT _ rfl rfl rfl rfl rfl ⟨y1,E.out.1,E.out.2.1,E.out.2.2.1,HKK.out,E.out.2.2.2,HF9.out.1,HF9.out.2.1,HF9.out.2.2⟩
theorem etell_r6 (Q : Exit → Act → World → Prop) (C6 : Code) (h6 : rgn 6 (Tryz.f49.body.getD .skip) = some C6) (t : List Value) (eb tb_ : Nat) (rdv ckv tv0 ltv rwv vq5 vq6 vq7 : Value) (au_ : Option Addr) (cu_ : Nat) (tb : List Pn) (q : Qy) (upto : Int) (w : World) (ht : t.length = 58) (k0 : t[0]? = some (.pointer (some ⟨eb,0,none⟩))) (k1 : t[1]? = some (.int .i64 upto)) (k4 : t[4]? = some (.pointer (some ⟨tb_,0,none⟩)))
  (BE : BlkAt w eb [rdv,ckv,tv0,ltv,rwv,vq5,vq6,vq7,Value.int .i64 q.size,Value.int .i64 q.slide,Value.int .i64 q.delay,Value.int .i64 q.late]) (BT : BlkAt w tb_ [Value.slice au_ tb.length cu_]) (hT : TblR w (Value.slice au_ tb.length cu_) tb) (hap : ∀ p ∈ tb,p.av.ownBlock ≠ some eb) (hl : tb.length ≤ 500) (hst : ∀ p ∈ tb,-100000 ≤ p.st ∧ p.st ≤ 100000) (h3 : 1 ≤ q.size + q.late) (h4 : q.size + q.late ≤ 100000)
  (hpan : ∀ c (a : Act) o v w,Q (.panic c) (a.put o v) w → Q (.panic c) a w)
  (hQ : ∀ (t' : List Value) (ud_ : Option Addr) (cd_ : Nat) (w' : World),t'.length = 58 → t'[0]? = some (.pointer (some ⟨eb,0,none⟩)) → t'[1]? = some (.int .i64 upto) → t'[4]? = some (.pointer (some ⟨tb_,0,none⟩)) → BlkAt w' eb [rdv,ckv,Value.slice ud_ (tb.filter (stays (q.size + q.late) upto)).length cd_,ltv,rwv,vq5,vq6,vq7,Value.int .i64 q.size,Value.int .i64 q.slide,Value.int .i64 q.delay,Value.int .i64 q.late] ∧ TblR w' (.slice ud_ (tb.filter (stays (q.size + q.late) upto)).length cd_) (tb.filter (stays (q.size + q.late) upto)) ∧ FromB w.heap.size (.slice ud_ (tb.filter (stays (q.size + q.late) upto)).length cd_) ∧ KeptB w w' (fun k => k = eb) → Q .normal { tmps:=t'.toArray,defers:=[] } w') :
  Code.wp Tryz.prog C6 Q { tmps:=t.toArray,defers:=[] } w:=by
 have HQ:=hidE hQ
 have HPN:=hidE hpan
 have hS : Below w.heap.size w ({ w with drawn:=w.drawn + 1 } : World):=(Below.refl _ _).drew
 have DO:=hidE (fun w' (hb : Below w.heap.size w w') => drop_any tb (Value.slice au_ tb.length cu_) (q.size + q.late) upto w' (tblR_below hT hb) hl hst h3 h4)
 have HW:=hidE (wrapIn2 (q.size + q.late) (by omega) (by omega))
 have HAP:=hidE hap
 have BE:=hidE BE
 have BT:=hidE BT
 clear hQ hpan hT hl hst hap
 obtain ⟨f,hf,hi⟩:=listed58 t ht
 have e0:=some_at (hi 0 (by decide)) k0
 have e1:=some_at (hi 1 (by decide)) k1
 have e4:=some_at (hi 4 (by decide)) k4
 rw [e0,e1,e4] at hf
 clear hi ht k0 e0 k1 e1 k4 e4
 subst hf
 unfold Tryz.f49 at h6
 simp [rgn] at h6
 subst h6
 refine wp_region_last (fun w' => Below w.heap.size w w') 17 (by kernel_rfl) ?_
 generalize ({ w with drawn:=w.drawn + 1 } : World) = wd at *
 refine last_take (i:=0) (v:=.pointer (some ⟨eb,0,none⟩)) (L:=#[true,false,false,false,false,false,false,false,false,false,false,false,false,false,false,false,false,false]) [15,16,17] rfl (by kernel_rfl) (by kernel_rfl) (by kernel_rfl) (by kernel_rfl) (by kernel_rfl) (fun c a w h => HPN.out c a _ _ w h) (Or.inl ⟨by kernel_rfl,fun wq hq => by go_simp⟩) hS (by kernel_rfl) ?_
 refine last_take (i:=1) (v:=.agg #[Value.slice au_ tb.length cu_]) (L:=#[true,true,false,false,false,false,false,false,false,false,false,false,false,false,false,false,false,false]) [14,17] rfl (by kernel_rfl) (by kernel_rfl) (by kernel_rfl) (by kernel_rfl) (by kernel_rfl) (fun c a w h => HPN.out c a _ _ w h) (Or.inl ⟨by kernel_rfl,fun wq hq => by have K:=blk_below BT.out hq BT.out.lt;have q0 : wq.cell? ⟨tb_,0,none⟩ = some (Value.slice au_ tb.length cu_):=K.c 0 (by simp);clear K;go_simp⟩) hS (by kernel_rfl) ?_
 refine last_take (i:=2) (v:=.pointer (some ⟨eb,0,none⟩)) (L:=#[true,true,true,false,false,false,false,false,false,false,false,false,false,false,false,false,false,false]) [3,4,5,6,12,14,17] rfl (by kernel_rfl) (by kernel_rfl) (by kernel_rfl) (by kernel_rfl) (by kernel_rfl) (fun c a w h => HPN.out c a _ _ w h) (Or.inl ⟨by kernel_rfl,fun wq hq => by go_simp⟩) hS (by kernel_rfl) ?_
 refine last_take (i:=3) (v:=.pointer (some ⟨eb,0,none⟩)) (L:=#[true,true,true,true,false,false,false,false,false,false,false,false,false,false,false,false,false,false]) [4,5,6,12,14,17] rfl (by kernel_rfl) (by kernel_rfl) (by kernel_rfl) (by kernel_rfl) (by kernel_rfl) (fun c a w h => HPN.out c a _ _ w h) (Or.inl ⟨by kernel_rfl,fun wq hq => by go_simp⟩) hS (by kernel_rfl) ?_
 refine last_take (i:=4) (v:=.pointer (some ⟨eb,5,none⟩)) (L:=#[true,true,true,true,true,false,false,false,false,false,false,false,false,false,false,false,false,false]) [5,6,12,14,17] rfl (by kernel_rfl) (by kernel_rfl) (by kernel_rfl) (by kernel_rfl) (by kernel_rfl) (fun c a w h => HPN.out c a _ _ w h) (Or.inl ⟨by kernel_rfl,fun wq hq => by go_simp⟩) hS (by kernel_rfl) ?_
 refine last_take (i:=5) (v:=.pointer (some ⟨eb,8,none⟩)) (L:=#[true,true,true,true,true,true,false,false,false,false,false,false,false,false,false,false,false,false]) [6,12,14,17] rfl (by kernel_rfl) (by kernel_rfl) (by kernel_rfl) (by kernel_rfl) (by kernel_rfl) (fun c a w h => HPN.out c a _ _ w h) (Or.inl ⟨by kernel_rfl,fun wq hq => by go_simp⟩) hS (by kernel_rfl) ?_
 refine last_take (i:=6) (v:=.int .i64 q.size) (L:=#[true,true,true,true,true,true,true,false,false,false,false,false,false,false,false,false,false,false]) [12,14,17] rfl (by kernel_rfl) (by kernel_rfl) (by kernel_rfl) (by kernel_rfl) (by kernel_rfl) (fun c a w h => HPN.out c a _ _ w h) (Or.inl ⟨by kernel_rfl,fun wq hq => by have K:=blk_below BE.out hq BE.out.lt;have q8 : wq.cell? ⟨eb,8,none⟩ = some (Value.int .i64 q.size):=K.c 8 (by simp);clear K;go_simp⟩) hS (by kernel_rfl) ?_
 refine last_take (i:=7) (v:=.pointer (some ⟨eb,0,none⟩)) (L:=#[true,true,true,true,true,true,true,true,false,false,false,false,false,false,false,false,false,false]) [8,9,10,11,12,14,17] rfl (by kernel_rfl) (by kernel_rfl) (by kernel_rfl) (by kernel_rfl) (by kernel_rfl) (fun c a w h => HPN.out c a _ _ w h) (Or.inl ⟨by kernel_rfl,fun wq hq => by go_simp⟩) hS (by kernel_rfl) ?_
 refine last_take (i:=8) (v:=.pointer (some ⟨eb,0,none⟩)) (L:=#[true,true,true,true,true,true,true,true,true,false,false,false,false,false,false,false,false,false]) [9,10,11,12,14,17] rfl (by kernel_rfl) (by kernel_rfl) (by kernel_rfl) (by kernel_rfl) (by kernel_rfl) (fun c a w h => HPN.out c a _ _ w h) (Or.inl ⟨by kernel_rfl,fun wq hq => by go_simp⟩) hS (by kernel_rfl) ?_
 refine last_take (i:=9) (v:=.pointer (some ⟨eb,5,none⟩)) (L:=#[true,true,true,true,true,true,true,true,true,true,false,false,false,false,false,false,false,false]) [10,11,12,14,17] rfl (by kernel_rfl) (by kernel_rfl) (by kernel_rfl) (by kernel_rfl) (by kernel_rfl) (fun c a w h => HPN.out c a _ _ w h) (Or.inl ⟨by kernel_rfl,fun wq hq => by go_simp⟩) hS (by kernel_rfl) ?_
 refine last_take (i:=10) (v:=.pointer (some ⟨eb,11,none⟩)) (L:=#[true,true,true,true,true,true,true,true,true,true,true,false,false,false,false,false,false,false]) [11,12,14,17] rfl (by kernel_rfl) (by kernel_rfl) (by kernel_rfl) (by kernel_rfl) (by kernel_rfl) (fun c a w h => HPN.out c a _ _ w h) (Or.inl ⟨by kernel_rfl,fun wq hq => by go_simp⟩) hS (by kernel_rfl) ?_
 refine last_take (i:=11) (v:=.int .i64 q.late) (L:=#[true,true,true,true,true,true,true,true,true,true,true,true,false,false,false,false,false,false]) [12,14,17] rfl (by kernel_rfl) (by kernel_rfl) (by kernel_rfl) (by kernel_rfl) (by kernel_rfl) (fun c a w h => HPN.out c a _ _ w h) (Or.inl ⟨by kernel_rfl,fun wq hq => by have K:=blk_below BE.out hq BE.out.lt;have q11 : wq.cell? ⟨eb,11,none⟩ = some (Value.int .i64 q.late):=K.c 11 (by simp);clear K;go_simp⟩) hS (by kernel_rfl) ?_
 refine last_take (i:=12) (v:=.int .i64 (q.size + q.late)) (L:=#[true,true,true,true,true,true,true,true,true,true,true,true,true,false,false,false,false,false]) [14,17] rfl (by kernel_rfl) (by kernel_rfl) (by kernel_rfl) (by kernel_rfl) (by kernel_rfl) (fun c a w h => HPN.out c a _ _ w h) (Or.inl ⟨by kernel_rfl,fun wq hq => by have hw:=HW.out;go_simp⟩) hS (by kernel_rfl) ?_
 refine last_take (i:=13) (v:=.int .i64 upto) (L:=#[true,true,true,true,true,true,true,true,true,true,true,true,true,true,false,false,false,false]) [14,17] rfl (by kernel_rfl) (by kernel_rfl) (by kernel_rfl) (by kernel_rfl) (by kernel_rfl) (fun c a w h => HPN.out c a _ _ w h) (Or.inl ⟨by kernel_rfl,fun wq hq => by go_simp⟩) hS (by kernel_rfl) ?_
 refine last_go (i:=14) (L:=#[true,true,true,true,true,true,true,true,true,true,true,true,true,true,true,false,false,false]) (by kernel_rfl) rfl (by kernel_rfl) (by kernel_rfl) ?_
 intro K' hK
 go_simp
 refine (DO.out _ hS).mono ?_
 rintro e w1 ⟨u,rfl,hT9,hu9,hb⟩
 have hS1:=hS.trans (hb.mono hS.size)
 obtain ⟨ud_,cd_,rfl⟩:=rowS_shape hT9.row
 have HTT:=hidE hT9
 have HUU:=hidE (fromB_mono hu9 hS.size)
 refine hK _ _ ⟨fun _ => hS1,?_⟩
 clear hK hT9 hu9 hb
 refine last_take (i:=15) (v:=.pointer (some ⟨eb,0,none⟩)) (L:=#[true,true,true,true,true,true,true,true,true,true,true,true,true,true,true,true,false,false]) [16,17] rfl (by kernel_rfl) (by kernel_rfl) (by kernel_rfl) (by kernel_rfl) (by kernel_rfl) (fun c a w h => HPN.out c a _ _ w h) (Or.inl ⟨by kernel_rfl,fun wq hq => by go_simp⟩) hS1 (by kernel_rfl) ?_
 refine last_take (i:=16) (v:=.pointer (some ⟨eb,2,none⟩)) (L:=#[true,true,true,true,true,true,true,true,true,true,true,true,true,true,true,true,true,false]) [17] rfl (by kernel_rfl) (by kernel_rfl) (by kernel_rfl) (by kernel_rfl) (by kernel_rfl) (fun c a w h => HPN.out c a _ _ w h) (Or.inl ⟨by kernel_rfl,fun wq hq => by go_simp⟩) hS1 (by kernel_rfl) ?_
 refine last_go (i:=17) (L:=#[true,true,true,true,true,true,true,true,true,true,true,true,true,true,true,true,true,true]) (by kernel_rfl) rfl (by kernel_rfl) (by kernel_rfl) ?_
 intro K' hK
 have BE1:=hidE (blk_below BE.out hS1 BE.out.lt)
 have q2 : w1.cell? ⟨eb,2,none⟩ = some (tv0):=BE1.out.c 2 (by simp)
 have f2:=BE1.out.fz 2
 have l2:=BE1.out.lt
 go_simp
 refine hK _ _ ⟨fun h => absurd rfl h,?_⟩
 clear hK
 refine last_done (by kernel_rfl) ?_ _
 have hlt0:=BE.out.lt
 have KB:=keptB_set (keptB_of_below (bad:=fun k => k = eb) (Below.refl w1.heap.size w1)) (g:=eb) rfl 2 (.slice ud_ (tb.filter (stays (q.size + q.late) upto)).length cd_)
 have hEnd:=blk_set BE1.out 2 (.slice ud_ (tb.filter (stays (q.size + q.late) upto)).length cd_) (by simp)
 exact HQ.out _ ud_ cd_ _ rfl rfl rfl rfl ⟨by simpa using hEnd,tblR_kept9 HTT.out KB (fun k hk e => by have:=HUU.out k hk;omega) (fun p hp k hk e => HAP.out p (List.mem_filter.1 hp).1 (by rw [← e];exact hk)),HUU.out,keptB_set (keptB_of_below (bad:=fun k => k = eb) hS1) (g:=eb) rfl 2 _⟩
end Go.Proofs.YtcgjflamgnjhcaaGreatDoor
