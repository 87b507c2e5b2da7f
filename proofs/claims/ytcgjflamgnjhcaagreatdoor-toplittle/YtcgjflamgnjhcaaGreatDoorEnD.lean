/- The law engine.add's drawn region of the put, over this seat's translation. Conditions: as named. -/
import Derived.Test.YtcgjflamgnjhcaaGreatDoorBtBJ
set_option linter.unusedVariables false
set_option linter.unusedSimpArgs false
set_option maxRecDepth 100000
set_option maxHeartbeats 8000000
namespace Go.Proofs.YtcgjflamgnjhcaaGreatDoor
open Go.ChangeShapes Go.WideShapes Go.ChangeAt Go.RowKit
theorem listed69 (t : List Value) (h : t.length = 69) : ∃ f : Nat → Value,t = f 0 :: f 1 :: f 2 :: f 3 :: f 4 :: f 5 :: f 6 :: f 7 :: f 8 :: f 9 :: f 10 :: f 11 :: f 12 :: f 13 :: f 14 :: f 15 :: f 16 :: f 17 :: f 18 :: f 19 :: f 20 :: f 21 :: f 22 :: f 23 :: f 24 :: f 25 :: f 26 :: f 27 :: f 28 :: f 29 :: f 30 :: f 31 :: f 32 :: f 33 :: f 34 :: f 35 :: f 36 :: f 37 :: f 38 :: f 39 :: f 40 :: f 41 :: f 42 :: f 43 :: f 44 :: f 45 :: f 46 :: f 47 :: f 48 :: f 49 :: f 50 :: f 51 :: f 52 :: f 53 :: f 54 :: f 55 :: f 56 :: f 57 :: f 58 :: f 59 :: f 60 :: f 61 :: f 62 :: f 63 :: f 64 :: f 65 :: f 66 :: f 67 :: f 68 :: [] ∧ ∀ i,i < 69 → t[i]? = some (f i):=by
 have e1 : t = (List.range 69).map (fun i => t.getD i undef):=by
  apply List.ext_getElem
  ·simp [h]
  ·intro i h1 h2
   simp [List.getD,h1]
 refine ⟨fun i => t.getD i undef,?_,fun i hi => ?_⟩
 ·have e2 : ∀ g : Nat → Value,(List.range 69).map g = g 0 :: g 1 :: g 2 :: g 3 :: g 4 :: g 5 :: g 6 :: g 7 :: g 8 :: g 9 :: g 10 :: g 11 :: g 12 :: g 13 :: g 14 :: g 15 :: g 16 :: g 17 :: g 18 :: g 19 :: g 20 :: g 21 :: g 22 :: g 23 :: g 24 :: g 25 :: g 26 :: g 27 :: g 28 :: g 29 :: g 30 :: g 31 :: g 32 :: g 33 :: g 34 :: g 35 :: g 36 :: g 37 :: g 38 :: g 39 :: g 40 :: g 41 :: g 42 :: g 43 :: g 44 :: g 45 :: g 46 :: g 47 :: g 48 :: g 49 :: g 50 :: g 51 :: g 52 :: g 53 :: g 54 :: g 55 :: g 56 :: g 57 :: g 58 :: g 59 :: g 60 :: g 61 :: g 62 :: g 63 :: g 64 :: g 65 :: g 66 :: g 67 :: g 68 :: []:=fun _ => rfl
  exact e1.trans (e2 _)
 ·simp [List.getD,h,hi]
theorem eadd_r1 (Q : Exit → Act → World → Prop) (C1 : Code) (h1 : rgn 1 (Tryz.f47.body.getD .skip) = some C1) (t : List Value) (eb kb : Nat) (rdv ckv ltv rwv : Value) (tva vva : Option Addr) (tvc vvc : Nat) (tb : List Pn) (c : Ct) (q : Qy) (ps : List (AgQ × Value)) (ao a2 a3 : Option Addr) (cap c2 c3 : Nat) (w : World) (ht : t.length = 69) (k0 : t[0]? = some (.pointer (some ⟨eb,0,none⟩))) (k1 : t[1]? = some (.int .i64 c.st)) (k3 : t[3]? = some (Value.slice vva c.vs.length vvc)) (k6 : t[6]? = some (.pointer (some ⟨kb,0,none⟩)))
  (BE : BlkAt w eb [rdv,ckv,Value.slice tva tb.length tvc,ltv,rwv,Value.slice ao ps.length cap,Value.slice a2 q.wh.length c2,Value.slice a3 q.bys.length c3,Value.int .i64 q.size,Value.int .i64 q.slide,Value.int .i64 q.delay,Value.int .i64 q.late]) (BK : BlkAt w kb [Value.int .i64 c.key.1,Value.int .i64 c.key.2]) (h : QyG w (.slice ao ps.length cap) (.slice a2 q.wh.length c2) (.slice a3 q.bys.length c3) q ps) (h4 : ps.length ≤ 4) (hkk : ∀ a ∈ q.aggs,1 ≤ a.kind ∧ a.kind ≤ 5) (hT : TblR w (.slice tva tb.length tvc) tb) (hO : TbOk (q.aggs.map AgQ.kind) tb) (hv : RowG w (Value.slice vva c.vs.length vvc) 2 c.vs.length (rowV c.vs)) (hvl : c.vs.length = ps.length)
  (hpan : ∀ c (a : Act) o v w,Q (.panic c) (a.put o v) w → Q (.panic c) a w)
  (hQ : ∀ (t' : List Value) (tb_ wb_ : Nat) (ws wk wn : Int) (wt : Bool) (wac : List Ac) (aw : Option Addr) (cw : Nat) (au : Option Addr) (cu : Nat) (b : Bool) (tb' : List Pn) (w' : World),t'.length = 69 → t'[0]? = some (.pointer (some ⟨eb,0,none⟩)) → t'[1]? = some (.int .i64 c.st) → t'[3]? = some (Value.slice vva c.vs.length vvc) → t'[6]? = some (.pointer (some ⟨kb,0,none⟩)) → t'[8]? = some (.pointer (some ⟨tb_,0,none⟩)) → t'[9]? = some (.pointer (some ⟨wb_,0,none⟩)) → t'[10]? = some (.bool b) → (w.heap.size ≤ tb_ ∧ w.heap.size ≤ wb_) ∧ BlkAt w' tb_ [.slice au tb'.length cu] ∧ BlkAt w' wb_ [.int .i64 ws,.int .i64 wk,.int .i64 wn,.slice aw wac.length cw,.bool wt] ∧ TblR w' (.slice au tb'.length cu) tb' ∧ AccR w' ⟨ws,wk,wn,wt,wac,.slice aw wac.length cw⟩ ∧ FromB w.heap.size (.slice au tb'.length cu) ∧ FromB w.heap.size (.slice aw wac.length cw) ∧ AddW w.heap.size (q.aggs.map AgQ.kind) tb c tb' ⟨ws,wk,wn,wt,wac,.slice aw wac.length cw⟩ ∧ Below w.heap.size w w' → Q .normal { tmps:=t'.toArray,defers:=[] } w') :
  Code.wp Tryz.prog C1 Q { tmps:=t.toArray,defers:=[] } w:=by
 have HQ:=hidE hQ
 have HPN:=hidE hpan
 have hS : Below w.heap.size w ({ w with drawn:=w.drawn + 1 } : World):=(Below.refl _ _).drew
 have hql : (q.aggs.map AgQ.kind).length = ps.length:=by rw [List.length_map,← h.qa,List.length_map]
 have KO : Hid (∀ w',Below w.heap.size w w' → Calls Tryz.prog 63 #[.agg #[Value.slice ao ps.length cap,Value.slice a2 q.wh.length c2,Value.slice a3 q.bys.length c3,Value.int .i64 q.size,Value.int .i64 q.slide,Value.int .i64 q.delay,Value.int .i64 q.late]] w' fun e w'' => ∃ u,e = .returned u ∧ w''.ownsRow w'.heap.size 3 1 u (q.aggs.map AgQ.kind).length ((q.aggs.map AgQ.kind).map (Value.int .i64)) ∧ Below w'.heap.size w' w''):=fun w' hb => kinds_any _ _ _ q ps w' (qyG_below h hb) h4
 have AO : Hid (∀ kv w',Below w.heap.size w w' → RowG w' kv 1 (q.aggs.map AgQ.kind).length ((q.aggs.map AgQ.kind).map (Value.int .i64)) → Calls Tryz.prog 62 #[.agg #[.slice tva tb.length tvc],.int .i64 c.st,.agg #[.int .i64 c.key.1,.int .i64 c.key.2],kv,Value.slice vva c.vs.length vvc] w' fun e w'' => ∃ u wp b tb',e = .returned (.tuple #[.agg #[u],aggP wp,.bool b]) ∧ TblR w'' u tb' ∧ AccR w'' wp ∧ FromB w'.heap.size u ∧ FromB w'.heap.size wp.av ∧ AddW w'.heap.size (q.aggs.map AgQ.kind) tb c tb' wp ∧ Below w'.heap.size w' w''):=fun kv w' hb hr =>
  add_e _ tb _ c kv _ w' (tblR_below hT hb) hO (by rw [hql];exact h4) (fun x hx => by obtain ⟨a,ha,rfl⟩:=List.mem_map.1 hx;exact hkk a ha) hr (rowG_below hv hb) (by rw [hql];exact hvl)
 obtain ⟨ks,hks⟩ : ∃ ks,q.aggs.map AgQ.kind = ks:=⟨_,rfl⟩
 rw [hks] at KO AO HQ
 have BE:=hidE BE
 have BK:=hidE BK
 have HT0:=hidE hT
 clear hQ hpan h h4 hkk hT hO hv hvl hql hks
 obtain ⟨f,hf,hi⟩:=listed69 t ht
 have e0:=some_at (hi 0 (by decide)) k0
 have e1:=some_at (hi 1 (by decide)) k1
 have e3:=some_at (hi 3 (by decide)) k3
 have e6:=some_at (hi 6 (by decide)) k6
 rw [e0,e1,e3,e6] at hf
 clear hi ht k0 e0 k1 e1 k3 e3 k6 e6
 subst hf
 unfold Tryz.f47 at h1
 simp [rgn] at h1
 subst h1
 refine wp_region_held (S:=fun w' => Below w.heap.size w w') (by kernel_rfl) ?_
 generalize ({ w with drawn:=w.drawn + 1 } : World) = wd at *
 refine held_take (i:=0) (v:=.pointer (some ⟨eb,0,none⟩)) (L:=#[true,false,false,false,false,false,false,false,false,false,false,false,false,false,false,false,false,false,false,false,false,false]) rfl (by kernel_rfl) (by kernel_rfl) (by kernel_rfl) (fun c a w h => HPN.out c a _ _ w h) (Or.inl ⟨by kernel_rfl,fun wq hq => by go_simp⟩) hS (by kernel_rfl) ?_
 refine held_take (i:=1) (v:=.pointer (some ⟨eb,0,none⟩)) (L:=#[true,true,false,false,false,false,false,false,false,false,false,false,false,false,false,false,false,false,false,false,false,false]) rfl (by kernel_rfl) (by kernel_rfl) (by kernel_rfl) (fun c a w h => HPN.out c a _ _ w h) (Or.inl ⟨by kernel_rfl,fun wq hq => by go_simp⟩) hS (by kernel_rfl) ?_
 refine held_take (i:=2) (v:=.pointer (some ⟨eb,2,none⟩)) (L:=#[true,true,true,false,false,false,false,false,false,false,false,false,false,false,false,false,false,false,false,false,false,false]) rfl (by kernel_rfl) (by kernel_rfl) (by kernel_rfl) (fun c a w h => HPN.out c a _ _ w h) (Or.inl ⟨by kernel_rfl,fun wq hq => by go_simp⟩) hS (by kernel_rfl) ?_
 refine held_take (i:=3) (v:=.agg #[.slice tva tb.length tvc]) (L:=#[true,true,true,true,false,false,false,false,false,false,false,false,false,false,false,false,false,false,false,false,false,false]) rfl (by kernel_rfl) (by kernel_rfl) (by kernel_rfl) (fun c a w h => HPN.out c a _ _ w h) (Or.inl ⟨by kernel_rfl,fun wq hq => by have K:=blk_below BE.out hq BE.out.lt;have q2 : wq.cell? ⟨eb,2,none⟩ = some (Value.slice tva tb.length tvc):=K.c 2 (by simp);clear K;go_simp⟩) hS (by kernel_rfl) ?_
 refine held_take (i:=4) (v:=.int .i64 c.st) (L:=#[true,true,true,true,true,false,false,false,false,false,false,false,false,false,false,false,false,false,false,false,false,false]) rfl (by kernel_rfl) (by kernel_rfl) (by kernel_rfl) (fun c a w h => HPN.out c a _ _ w h) (Or.inl ⟨by kernel_rfl,fun wq hq => by go_simp⟩) hS (by kernel_rfl) ?_
 refine held_take (i:=5) (v:=.agg #[.int .i64 c.key.1,.int .i64 c.key.2]) (L:=#[true,true,true,true,true,true,false,false,false,false,false,false,false,false,false,false,false,false,false,false,false,false]) rfl (by kernel_rfl) (by kernel_rfl) (by kernel_rfl) (fun c a w h => HPN.out c a _ _ w h) (Or.inl ⟨by kernel_rfl,fun wq hq => by have K:=blk_below BK.out hq BK.out.lt;have q0 : wq.cell? ⟨kb,0,none⟩ = some (Value.int .i64 c.key.1):=K.c 0 (by simp);have q1 : wq.cell? ⟨kb,1,none⟩ = some (Value.int .i64 c.key.2):=K.c 1 (by simp);clear K;go_simp⟩) hS (by kernel_rfl) ?_
 refine held_take (i:=6) (v:=.pointer (some ⟨eb,0,none⟩)) (L:=#[true,true,true,true,true,true,true,false,false,false,false,false,false,false,false,false,false,false,false,false,false,false]) rfl (by kernel_rfl) (by kernel_rfl) (by kernel_rfl) (fun c a w h => HPN.out c a _ _ w h) (Or.inl ⟨by kernel_rfl,fun wq hq => by go_simp⟩) hS (by kernel_rfl) ?_
 refine held_take (i:=7) (v:=.pointer (some ⟨eb,0,none⟩)) (L:=#[true,true,true,true,true,true,true,true,false,false,false,false,false,false,false,false,false,false,false,false,false,false]) rfl (by kernel_rfl) (by kernel_rfl) (by kernel_rfl) (fun c a w h => HPN.out c a _ _ w h) (Or.inl ⟨by kernel_rfl,fun wq hq => by go_simp⟩) hS (by kernel_rfl) ?_
 refine held_take (i:=8) (v:=.pointer (some ⟨eb,5,none⟩)) (L:=#[true,true,true,true,true,true,true,true,true,false,false,false,false,false,false,false,false,false,false,false,false,false]) rfl (by kernel_rfl) (by kernel_rfl) (by kernel_rfl) (fun c a w h => HPN.out c a _ _ w h) (Or.inl ⟨by kernel_rfl,fun wq hq => by go_simp⟩) hS (by kernel_rfl) ?_
 refine held_take (i:=9) (v:=.agg #[Value.slice ao ps.length cap,Value.slice a2 q.wh.length c2,Value.slice a3 q.bys.length c3,Value.int .i64 q.size,Value.int .i64 q.slide,Value.int .i64 q.delay,Value.int .i64 q.late]) (L:=#[true,true,true,true,true,true,true,true,true,true,false,false,false,false,false,false,false,false,false,false,false,false]) rfl (by kernel_rfl) (by kernel_rfl) (by kernel_rfl) (fun c a w h => HPN.out c a _ _ w h) (Or.inl ⟨by kernel_rfl,fun wq hq => by have K:=blk_below BE.out hq BE.out.lt;have q5 : wq.cell? ⟨eb,5,none⟩ = some (Value.slice ao ps.length cap):=K.c 5 (by simp);have q6 : wq.cell? ⟨eb,6,none⟩ = some (Value.slice a2 q.wh.length c2):=K.c 6 (by simp);have q7 : wq.cell? ⟨eb,7,none⟩ = some (Value.slice a3 q.bys.length c3):=K.c 7 (by simp);have q8 : wq.cell? ⟨eb,8,none⟩ = some (Value.int .i64 q.size):=K.c 8 (by simp);have q9 : wq.cell? ⟨eb,9,none⟩ = some (Value.int .i64 q.slide):=K.c 9 (by simp);have q10 : wq.cell? ⟨eb,10,none⟩ = some (Value.int .i64 q.delay):=K.c 10 (by simp);have q11 : wq.cell? ⟨eb,11,none⟩ = some (Value.int .i64 q.late):=K.c 11 (by simp);clear K;go_simp⟩) hS (by kernel_rfl) ?_
 refine held_take (i:=11) (v:=Value.slice vva c.vs.length vvc) (L:=#[true,true,true,true,true,true,true,true,true,true,false,true,false,false,false,false,false,false,false,false,false,false]) rfl (by kernel_rfl) (by kernel_rfl) (by kernel_rfl) (fun c a w h => HPN.out c a _ _ w h) (Or.inl ⟨by kernel_rfl,fun wq hq => by go_simp⟩) hS (by kernel_rfl) ?_
 refine held_three (i:=10) (j:=17) (k:=18) (Li:=#[true,true,true,true,true,true,true,true,true,true,true,true,false,false,false,false,false,false,false,false,false,false]) (Lj:=#[true,true,true,true,true,true,true,true,true,true,false,true,false,false,false,false,false,true,false,false,false,false]) (Lk:=#[true,true,true,true,true,true,true,true,true,true,false,true,false,false,false,false,false,false,true,false,false,false]) (by kernel_rfl) rfl rfl rfl (by kernel_rfl) (by kernel_rfl) (by kernel_rfl) (by kernel_rfl) (by kernel_rfl) (by kernel_rfl) ?_ ?_ ?_
 ·intro K' hK
  go_simp
  refine (KO.out _ hS).mono ?_
  rintro e w1 ⟨u9,rfl,ho9,hb⟩
  have hS1:=hS.trans (hb.mono hS.size)
  obtain ⟨ak,ck,rfl⟩:=owns_shapeE ho9
  have HK:=hidE (rowG_of_owns ho9)
  have HB0:=hidE hb
  have z0:=hb.size
  refine hK _ _ ⟨hS1,?_⟩
  clear hK ho9 hb
  refine held_three (i:=12) (j:=17) (k:=18) (Li:=#[true,true,true,true,true,true,true,true,true,true,true,true,true,false,false,false,false,false,false,false,false,false]) (Lj:=#[true,true,true,true,true,true,true,true,true,true,true,true,false,false,false,false,false,true,false,false,false,false]) (Lk:=#[true,true,true,true,true,true,true,true,true,true,true,true,false,false,false,false,false,false,true,false,false,false]) (by kernel_rfl) rfl rfl rfl (by kernel_rfl) (by kernel_rfl) (by kernel_rfl) (by kernel_rfl) (by kernel_rfl) (by kernel_rfl) ?_ ?_ ?_
  ·intro K' hK
   go_simp
   refine (AO.out _ _ hS1 HK.out).mono ?_
   rintro e w2 ⟨u,wp,b,tb',rfl,hT9,hA9,hu9,hw9,had9,hb⟩
   have hS2:=hS1.trans (hb.mono hS1.size)
   have HD:=hidE (apart_add HT0.out hS1.size hT9 hA9 hu9 hw9 had9)
   obtain ⟨au,cu,rfl⟩:=rowS_shape hT9.row
   obtain ⟨aw,cw,hwv⟩:=rowS_shape hA9
   obtain ⟨ws,wk,wn,wt,wac,wav⟩:=wp
   simp only at hwv
   subst hwv
   have HTT:=hidE hT9
   have HAA:=hidE hA9
   have HUU:=hidE (fromB_mono hu9 hS1.size)
   have HAD:=hidE (addW_mono had9 hS1.size)
   have HWV : Hid (FromB w.heap.size (.slice aw wac.length cw)):=hidE (fromB_mono hw9 hS1.size)
   have HB1:=hidE hb
   have z1:=hb.size
   unfold aggP
   refine hK _ _ ⟨hS2,?_⟩
   clear hK hT9 hA9 hu9 hw9 had9 hb
   refine held_take (i:=13) (v:=.tuple #[.agg #[.slice au tb'.length cu],.agg #[.int .i64 ws,.int .i64 wk,.int .i64 wn,.slice aw wac.length cw,.bool wt],.bool b]) (L:=#[true,true,true,true,true,true,true,true,true,true,true,true,true,true,false,false,false,false,false,false,false,false]) rfl (by kernel_rfl) (by kernel_rfl) (by kernel_rfl) (fun c a w h => HPN.out c a _ _ w h) (Or.inl ⟨by kernel_rfl,fun wq hq => by go_simp⟩) hS2 (by kernel_rfl) ?_
   refine held_take (i:=14) (v:=.agg #[.slice au tb'.length cu]) (L:=#[true,true,true,true,true,true,true,true,true,true,true,true,true,true,true,false,false,false,false,false,false,false]) rfl (by kernel_rfl) (by kernel_rfl) (by kernel_rfl) (fun c a w h => HPN.out c a _ _ w h) (Or.inl ⟨by kernel_rfl,fun wq hq => by go_simp⟩) hS2 (by kernel_rfl) ?_
   refine held_take (i:=15) (v:=.agg #[.int .i64 ws,.int .i64 wk,.int .i64 wn,.slice aw wac.length cw,.bool wt]) (L:=#[true,true,true,true,true,true,true,true,true,true,true,true,true,true,true,true,false,false,false,false,false,false]) rfl (by kernel_rfl) (by kernel_rfl) (by kernel_rfl) (fun c a w h => HPN.out c a _ _ w h) (Or.inl ⟨by kernel_rfl,fun wq hq => by go_simp⟩) hS2 (by kernel_rfl) ?_
   refine held_take (i:=16) (v:=.bool b) (L:=#[true,true,true,true,true,true,true,true,true,true,true,true,true,true,true,true,true,false,false,false,false,false]) rfl (by kernel_rfl) (by kernel_rfl) (by kernel_rfl) (fun c a w h => HPN.out c a _ _ w h) (Or.inl ⟨by kernel_rfl,fun wq hq => by go_simp⟩) hS2 (by kernel_rfl) ?_
   refine held_two (i:=17) (j:=18) (Li:=#[true,true,true,true,true,true,true,true,true,true,true,true,true,true,true,true,true,true,false,false,false,false]) (Lj:=#[true,true,true,true,true,true,true,true,true,true,true,true,true,true,true,true,true,false,true,false,false,false]) (by kernel_rfl) rfl rfl (by kernel_rfl) (by kernel_rfl) (by kernel_rfl) (by kernel_rfl) ?_ ?_
   ·intro K' hK
    have BT:=hidE (blk_alloc w2 [.slice none 0 0] 66)
    have hS3:=hS2.alloc hS2.size (.cells #[.slice none 0 0] 66)
    have HB2:=hidE (below_alloc w2 (.cells #[.slice none 0 0] 66))
    go_simp
    refine hK _ _ ⟨hS3,?_⟩
    clear hK
    have ytb_ : Hid (w.heap.size ≤ w2.heap.size):=hS2.size
    generalize hgtb_ : w2.heap.size = tb_ at *
    have hS3' : Hid (Below w.heap.size w (w2.alloc (.cells #[.slice none 0 0] 66))):=hS3
    generalize w2.alloc (.cells #[.slice none 0 0] 66) = w3 at *
    have hS3:=hS3'.out
    have z2 : tb_ < w3.heap.size:=BT.out.lt
    clear hS3'
    refine held_go (i:=18) (L:=#[true,true,true,true,true,true,true,true,true,true,true,true,true,true,true,true,true,true,true,false,false,false]) (by kernel_rfl) rfl (by kernel_rfl) (by kernel_rfl) ?_
    intro K' hK
    have BW:=hidE (blk_alloc w3 [.int .i64 0,.int .i64 0,.int .i64 0,.slice none 0 0,.bool false] 84)
    have hS4:=hS3.alloc hS3.size (.cells #[.int .i64 0,.int .i64 0,.int .i64 0,.slice none 0 0,.bool false] 84)
    have HB3:=hidE (below_alloc w3 (.cells #[.int .i64 0,.int .i64 0,.int .i64 0,.slice none 0 0,.bool false] 84))
    go_simp
    refine hK _ _ ⟨hS4,?_⟩
    clear hK
    have ywb_ : Hid (w.heap.size ≤ w3.heap.size):=hS3.size
    generalize hgwb_ : w3.heap.size = wb_ at *
    have hS4' : Hid (Below w.heap.size w (w3.alloc (.cells #[.int .i64 0,.int .i64 0,.int .i64 0,.slice none 0 0,.bool false] 84))):=hS4
    generalize w3.alloc (.cells #[.int .i64 0,.int .i64 0,.int .i64 0,.slice none 0 0,.bool false] 84) = w4 at *
    have hS4:=hS4'.out
    have z3 : wb_ < w4.heap.size:=BW.out.lt
    clear hS4'
    have BTe:=BT.out
    have BTe:=blk_bel BTe (by rw [hgwb_];exact HB3.out)
    have BWe:=BW.out
    have TTe:=HTT.out
    have TTe:=tblR_bel TTe (by rw [hgtb_];exact HB2.out)
    have TTe:=tblR_bel TTe (by rw [hgwb_];exact HB3.out)
    have AAe:=HAA.out
    have AAe:=accR_bel AAe (by rw [hgtb_];exact HB2.out)
    have AAe:=accR_bel AAe (by rw [hgwb_];exact HB3.out)
    have y1:=ytb_.out
    have y2:=ywb_.out
    have hne : tb_ ≠ wb_:=by omega
    have dT:=HD.out tb_ (by omega)
    have dW:=HD.out wb_ (by omega)
    have E:=hidE (r1_end hS4 hne y1 y2 BTe BWe TTe AAe dT dW)
    have t0:=BTe.c 0 (by simp)
    have g0:=BTe.fz 0
    have b0:=BWe.c 0 (by simp)
    have b1:=BWe.c 1 (by simp)
    have b2:=BWe.c 2 (by simp)
    have b3:=BWe.c 3 (by simp)
    have b4:=BWe.c 4 (by simp)
    have g1:=BWe.fz 0
    have g2:=BWe.fz 1
    have g3:=BWe.fz 2
    have g4:=BWe.fz 3
    have g5:=BWe.fz 4
    have sT:=hS4.setCell (p:=⟨tb_,0,none⟩) y1 (.slice au tb'.length cu)
    have X:=blk_kept BWe (keptB_set (keptB_of_below (bad:=fun k => k = tb_) (Below.refl _ _)) (g:=tb_) rfl 0 (.slice au tb'.length cu)) (fun e => hne e.symm)
    have d0:=X.c 0 (by simp)
    have d1:=X.c 1 (by simp)
    have d2:=X.c 2 (by simp)
    have d3:=X.c 3 (by simp)
    have d4:=X.c 4 (by simp)
    have e0:=X.fz 0
    have e1:=X.fz 1
    have e2:=X.fz 2
    have e3:=X.fz 3
    have e4:=X.fz 4
    have sW:=((((sT.setCell (p:=⟨wb_,0,none⟩) y2 (.int .i64 ws)).setCell (p:=⟨wb_,1,none⟩) y2 (.int .i64 wk)).setCell (p:=⟨wb_,2,none⟩) y2 (.int .i64 wn)).setCell (p:=⟨wb_,3,none⟩) y2 (.slice aw wac.length cw)).setCell (p:=⟨wb_,4,none⟩) y2 (.bool wt)
    clear BTe BWe TTe AAe dT dW X HD
    refine held_go (i:=19) (L:=#[true,true,true,true,true,true,true,true,true,true,true,true,true,true,true,true,true,true,true,true,false,false]) (by kernel_rfl) rfl (by kernel_rfl) (by kernel_rfl) ?_
    intro K' hK
    go_simp
    refine hK _ _ ⟨sT,?_⟩
    clear hK
    refine held_go (i:=20) (L:=#[true,true,true,true,true,true,true,true,true,true,true,true,true,true,true,true,true,true,true,true,true,false]) (by kernel_rfl) rfl (by kernel_rfl) (by kernel_rfl) ?_
    intro K' hK
    go_simp
    refine hK _ _ ⟨sW,?_⟩
    clear hK
    refine held_go (i:=21) (L:=#[true,true,true,true,true,true,true,true,true,true,true,true,true,true,true,true,true,true,true,true,true,true]) (by kernel_rfl) rfl (by kernel_rfl) (by kernel_rfl) ?_
    intro K' hK
    go_simp
    refine hK _ _ ⟨sW,?_⟩
    clear hK
    refine wpAnyH_done (by kernel_rfl) ?_ _
    exact HQ.out _ tb_ wb_ ws wk wn wt wac aw cw au cu b tb' _ rfl rfl rfl rfl rfl rfl rfl rfl ⟨⟨y1,y2⟩,E.out.1,E.out.2.1,E.out.2.2.1,E.out.2.2.2.1,HUU.out,HWV.out,HAD.out,E.out.2.2.2.2⟩
   ·intro K' hK
    have BW:=hidE (blk_alloc w2 [.int .i64 0,.int .i64 0,.int .i64 0,.slice none 0 0,.bool false] 84)
    have hS3:=hS2.alloc hS2.size (.cells #[.int .i64 0,.int .i64 0,.int .i64 0,.slice none 0 0,.bool false] 84)
    have HB2:=hidE (below_alloc w2 (.cells #[.int .i64 0,.int .i64 0,.int .i64 0,.slice none 0 0,.bool false] 84))
    go_simp
    refine hK _ _ ⟨hS3,?_⟩
    clear hK
    have ywb_ : Hid (w.heap.size ≤ w2.heap.size):=hS2.size
    generalize hgwb_ : w2.heap.size = wb_ at *
    have hS3' : Hid (Below w.heap.size w (w2.alloc (.cells #[.int .i64 0,.int .i64 0,.int .i64 0,.slice none 0 0,.bool false] 84))):=hS3
    generalize w2.alloc (.cells #[.int .i64 0,.int .i64 0,.int .i64 0,.slice none 0 0,.bool false] 84) = w3 at *
    have hS3:=hS3'.out
    have z2 : wb_ < w3.heap.size:=BW.out.lt
    clear hS3'
    refine held_go (i:=17) (L:=#[true,true,true,true,true,true,true,true,true,true,true,true,true,true,true,true,true,true,true,false,false,false]) (by kernel_rfl) rfl (by kernel_rfl) (by kernel_rfl) ?_
    intro K' hK
    have BT:=hidE (blk_alloc w3 [.slice none 0 0] 66)
    have hS4:=hS3.alloc hS3.size (.cells #[.slice none 0 0] 66)
    have HB3:=hidE (below_alloc w3 (.cells #[.slice none 0 0] 66))
    go_simp
    refine hK _ _ ⟨hS4,?_⟩
    clear hK
    have ytb_ : Hid (w.heap.size ≤ w3.heap.size):=hS3.size
    generalize hgtb_ : w3.heap.size = tb_ at *
    have hS4' : Hid (Below w.heap.size w (w3.alloc (.cells #[.slice none 0 0] 66))):=hS4
    generalize w3.alloc (.cells #[.slice none 0 0] 66) = w4 at *
    have hS4:=hS4'.out
    have z3 : tb_ < w4.heap.size:=BT.out.lt
    clear hS4'
    have BTe:=BT.out
    have BWe:=BW.out
    have BWe:=blk_bel BWe (by rw [hgtb_];exact HB3.out)
    have TTe:=HTT.out
    have TTe:=tblR_bel TTe (by rw [hgwb_];exact HB2.out)
    have TTe:=tblR_bel TTe (by rw [hgtb_];exact HB3.out)
    have AAe:=HAA.out
    have AAe:=accR_bel AAe (by rw [hgwb_];exact HB2.out)
    have AAe:=accR_bel AAe (by rw [hgtb_];exact HB3.out)
    have y1:=ytb_.out
    have y2:=ywb_.out
    have hne : tb_ ≠ wb_:=by omega
    have dT:=HD.out tb_ (by omega)
    have dW:=HD.out wb_ (by omega)
    have E:=hidE (r1_end hS4 hne y1 y2 BTe BWe TTe AAe dT dW)
    have t0:=BTe.c 0 (by simp)
    have g0:=BTe.fz 0
    have b0:=BWe.c 0 (by simp)
    have b1:=BWe.c 1 (by simp)
    have b2:=BWe.c 2 (by simp)
    have b3:=BWe.c 3 (by simp)
    have b4:=BWe.c 4 (by simp)
    have g1:=BWe.fz 0
    have g2:=BWe.fz 1
    have g3:=BWe.fz 2
    have g4:=BWe.fz 3
    have g5:=BWe.fz 4
    have sT:=hS4.setCell (p:=⟨tb_,0,none⟩) y1 (.slice au tb'.length cu)
    have X:=blk_kept BWe (keptB_set (keptB_of_below (bad:=fun k => k = tb_) (Below.refl _ _)) (g:=tb_) rfl 0 (.slice au tb'.length cu)) (fun e => hne e.symm)
    have d0:=X.c 0 (by simp)
    have d1:=X.c 1 (by simp)
    have d2:=X.c 2 (by simp)
    have d3:=X.c 3 (by simp)
    have d4:=X.c 4 (by simp)
    have e0:=X.fz 0
    have e1:=X.fz 1
    have e2:=X.fz 2
    have e3:=X.fz 3
    have e4:=X.fz 4
    have sW:=((((sT.setCell (p:=⟨wb_,0,none⟩) y2 (.int .i64 ws)).setCell (p:=⟨wb_,1,none⟩) y2 (.int .i64 wk)).setCell (p:=⟨wb_,2,none⟩) y2 (.int .i64 wn)).setCell (p:=⟨wb_,3,none⟩) y2 (.slice aw wac.length cw)).setCell (p:=⟨wb_,4,none⟩) y2 (.bool wt)
    clear BTe BWe TTe AAe dT dW X HD
    refine held_go (i:=19) (L:=#[true,true,true,true,true,true,true,true,true,true,true,true,true,true,true,true,true,true,true,true,false,false]) (by kernel_rfl) rfl (by kernel_rfl) (by kernel_rfl) ?_
    intro K' hK
    go_simp
    refine hK _ _ ⟨sT,?_⟩
    clear hK
    refine held_go (i:=20) (L:=#[true,true,true,true,true,true,true,true,true,true,true,true,true,true,true,true,true,true,true,true,true,false]) (by kernel_rfl) rfl (by kernel_rfl) (by kernel_rfl) ?_
    intro K' hK
    go_simp
    refine hK _ _ ⟨sW,?_⟩
    clear hK
    refine held_go (i:=21) (L:=#[true,true,true,true,true,true,true,true,true,true,true,true,true,true,true,true,true,true,true,true,true,true]) (by kernel_rfl) rfl (by kernel_rfl) (by kernel_rfl) ?_
    intro K' hK
    go_simp
    refine hK _ _ ⟨sW,?_⟩
    clear hK
    refine wpAnyH_done (by kernel_rfl) ?_ _
    exact HQ.out _ tb_ wb_ ws wk wn wt wac aw cw au cu b tb' _ rfl rfl rfl rfl rfl rfl rfl rfl ⟨⟨y1,y2⟩,E.out.1,E.out.2.1,E.out.2.2.1,E.out.2.2.2.1,HUU.out,HWV.out,HAD.out,E.out.2.2.2.2⟩
  ·intro K' hK
   have BT:=hidE (blk_alloc w1 [.slice none 0 0] 66)
   have hS2:=hS1.alloc hS1.size (.cells #[.slice none 0 0] 66)
   have HB1:=hidE (below_alloc w1 (.cells #[.slice none 0 0] 66))
   go_simp
   refine hK _ _ ⟨hS2,?_⟩
   clear hK
   have ytb_ : Hid (w.heap.size ≤ w1.heap.size):=hS1.size
   generalize hgtb_ : w1.heap.size = tb_ at *
   have hS2' : Hid (Below w.heap.size w (w1.alloc (.cells #[.slice none 0 0] 66))):=hS2
   generalize w1.alloc (.cells #[.slice none 0 0] 66) = w2 at *
   have hS2:=hS2'.out
   have z1 : tb_ < w2.heap.size:=BT.out.lt
   clear hS2'
   refine held_two (i:=12) (j:=18) (Li:=#[true,true,true,true,true,true,true,true,true,true,true,true,true,false,false,false,false,true,false,false,false,false]) (Lj:=#[true,true,true,true,true,true,true,true,true,true,true,true,false,false,false,false,false,true,true,false,false,false]) (by kernel_rfl) rfl rfl (by kernel_rfl) (by kernel_rfl) (by kernel_rfl) (by kernel_rfl) ?_ ?_
   ·intro K' hK
    go_simp
    refine (AO.out _ _ hS2 (rowG_below HK.out (by rw [hgtb_];exact HB1.out))).mono ?_
    rintro e w3 ⟨u,wp,b,tb',rfl,hT9,hA9,hu9,hw9,had9,hb⟩
    have hS3:=hS2.trans (hb.mono hS2.size)
    have HD:=hidE (apart_add HT0.out hS2.size hT9 hA9 hu9 hw9 had9)
    obtain ⟨au,cu,rfl⟩:=rowS_shape hT9.row
    obtain ⟨aw,cw,hwv⟩:=rowS_shape hA9
    obtain ⟨ws,wk,wn,wt,wac,wav⟩:=wp
    simp only at hwv
    subst hwv
    have HTT:=hidE hT9
    have HAA:=hidE hA9
    have HUU:=hidE (fromB_mono hu9 hS2.size)
    have HAD:=hidE (addW_mono had9 hS2.size)
    have HWV : Hid (FromB w.heap.size (.slice aw wac.length cw)):=hidE (fromB_mono hw9 hS2.size)
    have HB2:=hidE hb
    have z2:=hb.size
    unfold aggP
    refine hK _ _ ⟨hS3,?_⟩
    clear hK hT9 hA9 hu9 hw9 had9 hb
    refine held_take (i:=13) (v:=.tuple #[.agg #[.slice au tb'.length cu],.agg #[.int .i64 ws,.int .i64 wk,.int .i64 wn,.slice aw wac.length cw,.bool wt],.bool b]) (L:=#[true,true,true,true,true,true,true,true,true,true,true,true,true,true,false,false,false,true,false,false,false,false]) rfl (by kernel_rfl) (by kernel_rfl) (by kernel_rfl) (fun c a w h => HPN.out c a _ _ w h) (Or.inl ⟨by kernel_rfl,fun wq hq => by go_simp⟩) hS3 (by kernel_rfl) ?_
    refine held_take (i:=14) (v:=.agg #[.slice au tb'.length cu]) (L:=#[true,true,true,true,true,true,true,true,true,true,true,true,true,true,true,false,false,true,false,false,false,false]) rfl (by kernel_rfl) (by kernel_rfl) (by kernel_rfl) (fun c a w h => HPN.out c a _ _ w h) (Or.inl ⟨by kernel_rfl,fun wq hq => by go_simp⟩) hS3 (by kernel_rfl) ?_
    refine held_take (i:=15) (v:=.agg #[.int .i64 ws,.int .i64 wk,.int .i64 wn,.slice aw wac.length cw,.bool wt]) (L:=#[true,true,true,true,true,true,true,true,true,true,true,true,true,true,true,true,false,true,false,false,false,false]) rfl (by kernel_rfl) (by kernel_rfl) (by kernel_rfl) (fun c a w h => HPN.out c a _ _ w h) (Or.inl ⟨by kernel_rfl,fun wq hq => by go_simp⟩) hS3 (by kernel_rfl) ?_
    refine held_take (i:=16) (v:=.bool b) (L:=#[true,true,true,true,true,true,true,true,true,true,true,true,true,true,true,true,true,true,false,false,false,false]) rfl (by kernel_rfl) (by kernel_rfl) (by kernel_rfl) (fun c a w h => HPN.out c a _ _ w h) (Or.inl ⟨by kernel_rfl,fun wq hq => by go_simp⟩) hS3 (by kernel_rfl) ?_
    refine held_go (i:=18) (L:=#[true,true,true,true,true,true,true,true,true,true,true,true,true,true,true,true,true,true,true,false,false,false]) (by kernel_rfl) rfl (by kernel_rfl) (by kernel_rfl) ?_
    intro K' hK
    have BW:=hidE (blk_alloc w3 [.int .i64 0,.int .i64 0,.int .i64 0,.slice none 0 0,.bool false] 84)
    have hS4:=hS3.alloc hS3.size (.cells #[.int .i64 0,.int .i64 0,.int .i64 0,.slice none 0 0,.bool false] 84)
    have HB3:=hidE (below_alloc w3 (.cells #[.int .i64 0,.int .i64 0,.int .i64 0,.slice none 0 0,.bool false] 84))
    go_simp
    refine hK _ _ ⟨hS4,?_⟩
    clear hK
    have ywb_ : Hid (w.heap.size ≤ w3.heap.size):=hS3.size
    generalize hgwb_ : w3.heap.size = wb_ at *
    have hS4' : Hid (Below w.heap.size w (w3.alloc (.cells #[.int .i64 0,.int .i64 0,.int .i64 0,.slice none 0 0,.bool false] 84))):=hS4
    generalize w3.alloc (.cells #[.int .i64 0,.int .i64 0,.int .i64 0,.slice none 0 0,.bool false] 84) = w4 at *
    have hS4:=hS4'.out
    have z3 : wb_ < w4.heap.size:=BW.out.lt
    clear hS4'
    have BTe:=BT.out
    have BTe:=blk_bel BTe HB2.out
    have BTe:=blk_bel BTe (by rw [hgwb_];exact HB3.out)
    have BWe:=BW.out
    have TTe:=HTT.out
    have TTe:=tblR_bel TTe (by rw [hgwb_];exact HB3.out)
    have AAe:=HAA.out
    have AAe:=accR_bel AAe (by rw [hgwb_];exact HB3.out)
    have y1:=ytb_.out
    have y2:=ywb_.out
    have hne : tb_ ≠ wb_:=by omega
    have dT:=HD.out tb_ (by omega)
    have dW:=HD.out wb_ (by omega)
    have E:=hidE (r1_end hS4 hne y1 y2 BTe BWe TTe AAe dT dW)
    have t0:=BTe.c 0 (by simp)
    have g0:=BTe.fz 0
    have b0:=BWe.c 0 (by simp)
    have b1:=BWe.c 1 (by simp)
    have b2:=BWe.c 2 (by simp)
    have b3:=BWe.c 3 (by simp)
    have b4:=BWe.c 4 (by simp)
    have g1:=BWe.fz 0
    have g2:=BWe.fz 1
    have g3:=BWe.fz 2
    have g4:=BWe.fz 3
    have g5:=BWe.fz 4
    have sT:=hS4.setCell (p:=⟨tb_,0,none⟩) y1 (.slice au tb'.length cu)
    have X:=blk_kept BWe (keptB_set (keptB_of_below (bad:=fun k => k = tb_) (Below.refl _ _)) (g:=tb_) rfl 0 (.slice au tb'.length cu)) (fun e => hne e.symm)
    have d0:=X.c 0 (by simp)
    have d1:=X.c 1 (by simp)
    have d2:=X.c 2 (by simp)
    have d3:=X.c 3 (by simp)
    have d4:=X.c 4 (by simp)
    have e0:=X.fz 0
    have e1:=X.fz 1
    have e2:=X.fz 2
    have e3:=X.fz 3
    have e4:=X.fz 4
    have sW:=((((sT.setCell (p:=⟨wb_,0,none⟩) y2 (.int .i64 ws)).setCell (p:=⟨wb_,1,none⟩) y2 (.int .i64 wk)).setCell (p:=⟨wb_,2,none⟩) y2 (.int .i64 wn)).setCell (p:=⟨wb_,3,none⟩) y2 (.slice aw wac.length cw)).setCell (p:=⟨wb_,4,none⟩) y2 (.bool wt)
    clear BTe BWe TTe AAe dT dW X HD
    refine held_go (i:=19) (L:=#[true,true,true,true,true,true,true,true,true,true,true,true,true,true,true,true,true,true,true,true,false,false]) (by kernel_rfl) rfl (by kernel_rfl) (by kernel_rfl) ?_
    intro K' hK
    go_simp
    refine hK _ _ ⟨sT,?_⟩
    clear hK
    refine held_go (i:=20) (L:=#[true,true,true,true,true,true,true,true,true,true,true,true,true,true,true,true,true,true,true,true,true,false]) (by kernel_rfl) rfl (by kernel_rfl) (by kernel_rfl) ?_
    intro K' hK
    go_simp
    refine hK _ _ ⟨sW,?_⟩
    clear hK
    refine held_go (i:=21) (L:=#[true,true,true,true,true,true,true,true,true,true,true,true,true,true,true,true,true,true,true,true,true,true]) (by kernel_rfl) rfl (by kernel_rfl) (by kernel_rfl) ?_
    intro K' hK
    go_simp
    refine hK _ _ ⟨sW,?_⟩
    clear hK
    refine wpAnyH_done (by kernel_rfl) ?_ _
    exact HQ.out _ tb_ wb_ ws wk wn wt wac aw cw au cu b tb' _ rfl rfl rfl rfl rfl rfl rfl rfl ⟨⟨y1,y2⟩,E.out.1,E.out.2.1,E.out.2.2.1,E.out.2.2.2.1,HUU.out,HWV.out,HAD.out,E.out.2.2.2.2⟩
   ·intro K' hK
    have BW:=hidE (blk_alloc w2 [.int .i64 0,.int .i64 0,.int .i64 0,.slice none 0 0,.bool false] 84)
    have hS3:=hS2.alloc hS2.size (.cells #[.int .i64 0,.int .i64 0,.int .i64 0,.slice none 0 0,.bool false] 84)
    have HB2:=hidE (below_alloc w2 (.cells #[.int .i64 0,.int .i64 0,.int .i64 0,.slice none 0 0,.bool false] 84))
    go_simp
    refine hK _ _ ⟨hS3,?_⟩
    clear hK
    have ywb_ : Hid (w.heap.size ≤ w2.heap.size):=hS2.size
    generalize hgwb_ : w2.heap.size = wb_ at *
    have hS3' : Hid (Below w.heap.size w (w2.alloc (.cells #[.int .i64 0,.int .i64 0,.int .i64 0,.slice none 0 0,.bool false] 84))):=hS3
    generalize w2.alloc (.cells #[.int .i64 0,.int .i64 0,.int .i64 0,.slice none 0 0,.bool false] 84) = w3 at *
    have hS3:=hS3'.out
    have z2 : wb_ < w3.heap.size:=BW.out.lt
    clear hS3'
    refine held_go (i:=12) (L:=#[true,true,true,true,true,true,true,true,true,true,true,true,true,false,false,false,false,true,true,false,false,false]) (by kernel_rfl) rfl (by kernel_rfl) (by kernel_rfl) ?_
    intro K' hK
    go_simp
    refine (AO.out _ _ hS3 (rowG_below (rowG_below HK.out (by rw [hgtb_];exact HB1.out)) (by rw [hgwb_];exact HB2.out))).mono ?_
    rintro e w4 ⟨u,wp,b,tb',rfl,hT9,hA9,hu9,hw9,had9,hb⟩
    have hS4:=hS3.trans (hb.mono hS3.size)
    have HD:=hidE (apart_add HT0.out hS3.size hT9 hA9 hu9 hw9 had9)
    obtain ⟨au,cu,rfl⟩:=rowS_shape hT9.row
    obtain ⟨aw,cw,hwv⟩:=rowS_shape hA9
    obtain ⟨ws,wk,wn,wt,wac,wav⟩:=wp
    simp only at hwv
    subst hwv
    have HTT:=hidE hT9
    have HAA:=hidE hA9
    have HUU:=hidE (fromB_mono hu9 hS3.size)
    have HAD:=hidE (addW_mono had9 hS3.size)
    have HWV : Hid (FromB w.heap.size (.slice aw wac.length cw)):=hidE (fromB_mono hw9 hS3.size)
    have HB3:=hidE hb
    have z3:=hb.size
    unfold aggP
    refine hK _ _ ⟨hS4,?_⟩
    clear hK hT9 hA9 hu9 hw9 had9 hb
    refine held_take (i:=13) (v:=.tuple #[.agg #[.slice au tb'.length cu],.agg #[.int .i64 ws,.int .i64 wk,.int .i64 wn,.slice aw wac.length cw,.bool wt],.bool b]) (L:=#[true,true,true,true,true,true,true,true,true,true,true,true,true,true,false,false,false,true,true,false,false,false]) rfl (by kernel_rfl) (by kernel_rfl) (by kernel_rfl) (fun c a w h => HPN.out c a _ _ w h) (Or.inl ⟨by kernel_rfl,fun wq hq => by go_simp⟩) hS4 (by kernel_rfl) ?_
    refine held_take (i:=14) (v:=.agg #[.slice au tb'.length cu]) (L:=#[true,true,true,true,true,true,true,true,true,true,true,true,true,true,true,false,false,true,true,false,false,false]) rfl (by kernel_rfl) (by kernel_rfl) (by kernel_rfl) (fun c a w h => HPN.out c a _ _ w h) (Or.inl ⟨by kernel_rfl,fun wq hq => by go_simp⟩) hS4 (by kernel_rfl) ?_
    refine held_take (i:=15) (v:=.agg #[.int .i64 ws,.int .i64 wk,.int .i64 wn,.slice aw wac.length cw,.bool wt]) (L:=#[true,true,true,true,true,true,true,true,true,true,true,true,true,true,true,true,false,true,true,false,false,false]) rfl (by kernel_rfl) (by kernel_rfl) (by kernel_rfl) (fun c a w h => HPN.out c a _ _ w h) (Or.inl ⟨by kernel_rfl,fun wq hq => by go_simp⟩) hS4 (by kernel_rfl) ?_
    refine held_take (i:=16) (v:=.bool b) (L:=#[true,true,true,true,true,true,true,true,true,true,true,true,true,true,true,true,true,true,true,false,false,false]) rfl (by kernel_rfl) (by kernel_rfl) (by kernel_rfl) (fun c a w h => HPN.out c a _ _ w h) (Or.inl ⟨by kernel_rfl,fun wq hq => by go_simp⟩) hS4 (by kernel_rfl) ?_
    have BTe:=BT.out
    have BTe:=blk_bel BTe (by rw [hgwb_];exact HB2.out)
    have BTe:=blk_bel BTe HB3.out
    have BWe:=BW.out
    have BWe:=blk_bel BWe HB3.out
    have TTe:=HTT.out
    have AAe:=HAA.out
    have y1:=ytb_.out
    have y2:=ywb_.out
    have hne : tb_ ≠ wb_:=by omega
    have dT:=HD.out tb_ (by omega)
    have dW:=HD.out wb_ (by omega)
    have E:=hidE (r1_end hS4 hne y1 y2 BTe BWe TTe AAe dT dW)
    have t0:=BTe.c 0 (by simp)
    have g0:=BTe.fz 0
    have b0:=BWe.c 0 (by simp)
    have b1:=BWe.c 1 (by simp)
    have b2:=BWe.c 2 (by simp)
    have b3:=BWe.c 3 (by simp)
    have b4:=BWe.c 4 (by simp)
    have g1:=BWe.fz 0
    have g2:=BWe.fz 1
    have g3:=BWe.fz 2
    have g4:=BWe.fz 3
    have g5:=BWe.fz 4
    have sT:=hS4.setCell (p:=⟨tb_,0,none⟩) y1 (.slice au tb'.length cu)
    have X:=blk_kept BWe (keptB_set (keptB_of_below (bad:=fun k => k = tb_) (Below.refl _ _)) (g:=tb_) rfl 0 (.slice au tb'.length cu)) (fun e => hne e.symm)
    have d0:=X.c 0 (by simp)
    have d1:=X.c 1 (by simp)
    have d2:=X.c 2 (by simp)
    have d3:=X.c 3 (by simp)
    have d4:=X.c 4 (by simp)
    have e0:=X.fz 0
    have e1:=X.fz 1
    have e2:=X.fz 2
    have e3:=X.fz 3
    have e4:=X.fz 4
    have sW:=((((sT.setCell (p:=⟨wb_,0,none⟩) y2 (.int .i64 ws)).setCell (p:=⟨wb_,1,none⟩) y2 (.int .i64 wk)).setCell (p:=⟨wb_,2,none⟩) y2 (.int .i64 wn)).setCell (p:=⟨wb_,3,none⟩) y2 (.slice aw wac.length cw)).setCell (p:=⟨wb_,4,none⟩) y2 (.bool wt)
    clear BTe BWe TTe AAe dT dW X HD
    refine held_go (i:=19) (L:=#[true,true,true,true,true,true,true,true,true,true,true,true,true,true,true,true,true,true,true,true,false,false]) (by kernel_rfl) rfl (by kernel_rfl) (by kernel_rfl) ?_
    intro K' hK
    go_simp
    refine hK _ _ ⟨sT,?_⟩
    clear hK
    refine held_go (i:=20) (L:=#[true,true,true,true,true,true,true,true,true,true,true,true,true,true,true,true,true,true,true,true,true,false]) (by kernel_rfl) rfl (by kernel_rfl) (by kernel_rfl) ?_
    intro K' hK
    go_simp
    refine hK _ _ ⟨sW,?_⟩
    clear hK
    refine held_go (i:=21) (L:=#[true,true,true,true,true,true,true,true,true,true,true,true,true,true,true,true,true,true,true,true,true,true]) (by kernel_rfl) rfl (by kernel_rfl) (by kernel_rfl) ?_
    intro K' hK
    go_simp
    refine hK _ _ ⟨sW,?_⟩
    clear hK
    refine wpAnyH_done (by kernel_rfl) ?_ _
    exact HQ.out _ tb_ wb_ ws wk wn wt wac aw cw au cu b tb' _ rfl rfl rfl rfl rfl rfl rfl rfl ⟨⟨y1,y2⟩,E.out.1,E.out.2.1,E.out.2.2.1,E.out.2.2.2.1,HUU.out,HWV.out,HAD.out,E.out.2.2.2.2⟩
  ·intro K' hK
   have BW:=hidE (blk_alloc w1 [.int .i64 0,.int .i64 0,.int .i64 0,.slice none 0 0,.bool false] 84)
   have hS2:=hS1.alloc hS1.size (.cells #[.int .i64 0,.int .i64 0,.int .i64 0,.slice none 0 0,.bool false] 84)
   have HB1:=hidE (below_alloc w1 (.cells #[.int .i64 0,.int .i64 0,.int .i64 0,.slice none 0 0,.bool false] 84))
   go_simp
   refine hK _ _ ⟨hS2,?_⟩
   clear hK
   have ywb_ : Hid (w.heap.size ≤ w1.heap.size):=hS1.size
   generalize hgwb_ : w1.heap.size = wb_ at *
   have hS2' : Hid (Below w.heap.size w (w1.alloc (.cells #[.int .i64 0,.int .i64 0,.int .i64 0,.slice none 0 0,.bool false] 84))):=hS2
   generalize w1.alloc (.cells #[.int .i64 0,.int .i64 0,.int .i64 0,.slice none 0 0,.bool false] 84) = w2 at *
   have hS2:=hS2'.out
   have z1 : wb_ < w2.heap.size:=BW.out.lt
   clear hS2'
   refine held_two (i:=12) (j:=17) (Li:=#[true,true,true,true,true,true,true,true,true,true,true,true,true,false,false,false,false,false,true,false,false,false]) (Lj:=#[true,true,true,true,true,true,true,true,true,true,true,true,false,false,false,false,false,true,true,false,false,false]) (by kernel_rfl) rfl rfl (by kernel_rfl) (by kernel_rfl) (by kernel_rfl) (by kernel_rfl) ?_ ?_
   ·intro K' hK
    go_simp
    refine (AO.out _ _ hS2 (rowG_below HK.out (by rw [hgwb_];exact HB1.out))).mono ?_
    rintro e w3 ⟨u,wp,b,tb',rfl,hT9,hA9,hu9,hw9,had9,hb⟩
    have hS3:=hS2.trans (hb.mono hS2.size)
    have HD:=hidE (apart_add HT0.out hS2.size hT9 hA9 hu9 hw9 had9)
    obtain ⟨au,cu,rfl⟩:=rowS_shape hT9.row
    obtain ⟨aw,cw,hwv⟩:=rowS_shape hA9
    obtain ⟨ws,wk,wn,wt,wac,wav⟩:=wp
    simp only at hwv
    subst hwv
    have HTT:=hidE hT9
    have HAA:=hidE hA9
    have HUU:=hidE (fromB_mono hu9 hS2.size)
    have HAD:=hidE (addW_mono had9 hS2.size)
    have HWV : Hid (FromB w.heap.size (.slice aw wac.length cw)):=hidE (fromB_mono hw9 hS2.size)
    have HB2:=hidE hb
    have z2:=hb.size
    unfold aggP
    refine hK _ _ ⟨hS3,?_⟩
    clear hK hT9 hA9 hu9 hw9 had9 hb
    refine held_take (i:=13) (v:=.tuple #[.agg #[.slice au tb'.length cu],.agg #[.int .i64 ws,.int .i64 wk,.int .i64 wn,.slice aw wac.length cw,.bool wt],.bool b]) (L:=#[true,true,true,true,true,true,true,true,true,true,true,true,true,true,false,false,false,false,true,false,false,false]) rfl (by kernel_rfl) (by kernel_rfl) (by kernel_rfl) (fun c a w h => HPN.out c a _ _ w h) (Or.inl ⟨by kernel_rfl,fun wq hq => by go_simp⟩) hS3 (by kernel_rfl) ?_
    refine held_take (i:=14) (v:=.agg #[.slice au tb'.length cu]) (L:=#[true,true,true,true,true,true,true,true,true,true,true,true,true,true,true,false,false,false,true,false,false,false]) rfl (by kernel_rfl) (by kernel_rfl) (by kernel_rfl) (fun c a w h => HPN.out c a _ _ w h) (Or.inl ⟨by kernel_rfl,fun wq hq => by go_simp⟩) hS3 (by kernel_rfl) ?_
    refine held_take (i:=15) (v:=.agg #[.int .i64 ws,.int .i64 wk,.int .i64 wn,.slice aw wac.length cw,.bool wt]) (L:=#[true,true,true,true,true,true,true,true,true,true,true,true,true,true,true,true,false,false,true,false,false,false]) rfl (by kernel_rfl) (by kernel_rfl) (by kernel_rfl) (fun c a w h => HPN.out c a _ _ w h) (Or.inl ⟨by kernel_rfl,fun wq hq => by go_simp⟩) hS3 (by kernel_rfl) ?_
    refine held_take (i:=16) (v:=.bool b) (L:=#[true,true,true,true,true,true,true,true,true,true,true,true,true,true,true,true,true,false,true,false,false,false]) rfl (by kernel_rfl) (by kernel_rfl) (by kernel_rfl) (fun c a w h => HPN.out c a _ _ w h) (Or.inl ⟨by kernel_rfl,fun wq hq => by go_simp⟩) hS3 (by kernel_rfl) ?_
    refine held_go (i:=17) (L:=#[true,true,true,true,true,true,true,true,true,true,true,true,true,true,true,true,true,true,true,false,false,false]) (by kernel_rfl) rfl (by kernel_rfl) (by kernel_rfl) ?_
    intro K' hK
    have BT:=hidE (blk_alloc w3 [.slice none 0 0] 66)
    have hS4:=hS3.alloc hS3.size (.cells #[.slice none 0 0] 66)
    have HB3:=hidE (below_alloc w3 (.cells #[.slice none 0 0] 66))
    go_simp
    refine hK _ _ ⟨hS4,?_⟩
    clear hK
    have ytb_ : Hid (w.heap.size ≤ w3.heap.size):=hS3.size
    generalize hgtb_ : w3.heap.size = tb_ at *
    have hS4' : Hid (Below w.heap.size w (w3.alloc (.cells #[.slice none 0 0] 66))):=hS4
    generalize w3.alloc (.cells #[.slice none 0 0] 66) = w4 at *
    have hS4:=hS4'.out
    have z3 : tb_ < w4.heap.size:=BT.out.lt
    clear hS4'
    have BTe:=BT.out
    have BWe:=BW.out
    have BWe:=blk_bel BWe HB2.out
    have BWe:=blk_bel BWe (by rw [hgtb_];exact HB3.out)
    have TTe:=HTT.out
    have TTe:=tblR_bel TTe (by rw [hgtb_];exact HB3.out)
    have AAe:=HAA.out
    have AAe:=accR_bel AAe (by rw [hgtb_];exact HB3.out)
    have y1:=ytb_.out
    have y2:=ywb_.out
    have hne : tb_ ≠ wb_:=by omega
    have dT:=HD.out tb_ (by omega)
    have dW:=HD.out wb_ (by omega)
    have E:=hidE (r1_end hS4 hne y1 y2 BTe BWe TTe AAe dT dW)
    have t0:=BTe.c 0 (by simp)
    have g0:=BTe.fz 0
    have b0:=BWe.c 0 (by simp)
    have b1:=BWe.c 1 (by simp)
    have b2:=BWe.c 2 (by simp)
    have b3:=BWe.c 3 (by simp)
    have b4:=BWe.c 4 (by simp)
    have g1:=BWe.fz 0
    have g2:=BWe.fz 1
    have g3:=BWe.fz 2
    have g4:=BWe.fz 3
    have g5:=BWe.fz 4
    have sT:=hS4.setCell (p:=⟨tb_,0,none⟩) y1 (.slice au tb'.length cu)
    have X:=blk_kept BWe (keptB_set (keptB_of_below (bad:=fun k => k = tb_) (Below.refl _ _)) (g:=tb_) rfl 0 (.slice au tb'.length cu)) (fun e => hne e.symm)
    have d0:=X.c 0 (by simp)
    have d1:=X.c 1 (by simp)
    have d2:=X.c 2 (by simp)
    have d3:=X.c 3 (by simp)
    have d4:=X.c 4 (by simp)
    have e0:=X.fz 0
    have e1:=X.fz 1
    have e2:=X.fz 2
    have e3:=X.fz 3
    have e4:=X.fz 4
    have sW:=((((sT.setCell (p:=⟨wb_,0,none⟩) y2 (.int .i64 ws)).setCell (p:=⟨wb_,1,none⟩) y2 (.int .i64 wk)).setCell (p:=⟨wb_,2,none⟩) y2 (.int .i64 wn)).setCell (p:=⟨wb_,3,none⟩) y2 (.slice aw wac.length cw)).setCell (p:=⟨wb_,4,none⟩) y2 (.bool wt)
    clear BTe BWe TTe AAe dT dW X HD
    refine held_go (i:=19) (L:=#[true,true,true,true,true,true,true,true,true,true,true,true,true,true,true,true,true,true,true,true,false,false]) (by kernel_rfl) rfl (by kernel_rfl) (by kernel_rfl) ?_
    intro K' hK
    go_simp
    refine hK _ _ ⟨sT,?_⟩
    clear hK
    refine held_go (i:=20) (L:=#[true,true,true,true,true,true,true,true,true,true,true,true,true,true,true,true,true,true,true,true,true,false]) (by kernel_rfl) rfl (by kernel_rfl) (by kernel_rfl) ?_
    intro K' hK
    go_simp
    refine hK _ _ ⟨sW,?_⟩
    clear hK
    refine held_go (i:=21) (L:=#[true,true,true,true,true,true,true,true,true,true,true,true,true,true,true,true,true,true,true,true,true,true]) (by kernel_rfl) rfl (by kernel_rfl) (by kernel_rfl) ?_
    intro K' hK
    go_simp
    refine hK _ _ ⟨sW,?_⟩
    clear hK
    refine wpAnyH_done (by kernel_rfl) ?_ _
    exact HQ.out _ tb_ wb_ ws wk wn wt wac aw cw au cu b tb' _ rfl rfl rfl rfl rfl rfl rfl rfl ⟨⟨y1,y2⟩,E.out.1,E.out.2.1,E.out.2.2.1,E.out.2.2.2.1,HUU.out,HWV.out,HAD.out,E.out.2.2.2.2⟩
   ·intro K' hK
    have BT:=hidE (blk_alloc w2 [.slice none 0 0] 66)
    have hS3:=hS2.alloc hS2.size (.cells #[.slice none 0 0] 66)
    have HB2:=hidE (below_alloc w2 (.cells #[.slice none 0 0] 66))
    go_simp
    refine hK _ _ ⟨hS3,?_⟩
    clear hK
    have ytb_ : Hid (w.heap.size ≤ w2.heap.size):=hS2.size
    generalize hgtb_ : w2.heap.size = tb_ at *
    have hS3' : Hid (Below w.heap.size w (w2.alloc (.cells #[.slice none 0 0] 66))):=hS3
    generalize w2.alloc (.cells #[.slice none 0 0] 66) = w3 at *
    have hS3:=hS3'.out
    have z2 : tb_ < w3.heap.size:=BT.out.lt
    clear hS3'
    refine held_go (i:=12) (L:=#[true,true,true,true,true,true,true,true,true,true,true,true,true,false,false,false,false,true,true,false,false,false]) (by kernel_rfl) rfl (by kernel_rfl) (by kernel_rfl) ?_
    intro K' hK
    go_simp
    refine (AO.out _ _ hS3 (rowG_below (rowG_below HK.out (by rw [hgwb_];exact HB1.out)) (by rw [hgtb_];exact HB2.out))).mono ?_
    rintro e w4 ⟨u,wp,b,tb',rfl,hT9,hA9,hu9,hw9,had9,hb⟩
    have hS4:=hS3.trans (hb.mono hS3.size)
    have HD:=hidE (apart_add HT0.out hS3.size hT9 hA9 hu9 hw9 had9)
    obtain ⟨au,cu,rfl⟩:=rowS_shape hT9.row
    obtain ⟨aw,cw,hwv⟩:=rowS_shape hA9
    obtain ⟨ws,wk,wn,wt,wac,wav⟩:=wp
    simp only at hwv
    subst hwv
    have HTT:=hidE hT9
    have HAA:=hidE hA9
    have HUU:=hidE (fromB_mono hu9 hS3.size)
    have HAD:=hidE (addW_mono had9 hS3.size)
    have HWV : Hid (FromB w.heap.size (.slice aw wac.length cw)):=hidE (fromB_mono hw9 hS3.size)
    have HB3:=hidE hb
    have z3:=hb.size
    unfold aggP
    refine hK _ _ ⟨hS4,?_⟩
    clear hK hT9 hA9 hu9 hw9 had9 hb
    refine held_take (i:=13) (v:=.tuple #[.agg #[.slice au tb'.length cu],.agg #[.int .i64 ws,.int .i64 wk,.int .i64 wn,.slice aw wac.length cw,.bool wt],.bool b]) (L:=#[true,true,true,true,true,true,true,true,true,true,true,true,true,true,false,false,false,true,true,false,false,false]) rfl (by kernel_rfl) (by kernel_rfl) (by kernel_rfl) (fun c a w h => HPN.out c a _ _ w h) (Or.inl ⟨by kernel_rfl,fun wq hq => by go_simp⟩) hS4 (by kernel_rfl) ?_
    refine held_take (i:=14) (v:=.agg #[.slice au tb'.length cu]) (L:=#[true,true,true,true,true,true,true,true,true,true,true,true,true,true,true,false,false,true,true,false,false,false]) rfl (by kernel_rfl) (by kernel_rfl) (by kernel_rfl) (fun c a w h => HPN.out c a _ _ w h) (Or.inl ⟨by kernel_rfl,fun wq hq => by go_simp⟩) hS4 (by kernel_rfl) ?_
    refine held_take (i:=15) (v:=.agg #[.int .i64 ws,.int .i64 wk,.int .i64 wn,.slice aw wac.length cw,.bool wt]) (L:=#[true,true,true,true,true,true,true,true,true,true,true,true,true,true,true,true,false,true,true,false,false,false]) rfl (by kernel_rfl) (by kernel_rfl) (by kernel_rfl) (fun c a w h => HPN.out c a _ _ w h) (Or.inl ⟨by kernel_rfl,fun wq hq => by go_simp⟩) hS4 (by kernel_rfl) ?_
    refine held_take (i:=16) (v:=.bool b) (L:=#[true,true,true,true,true,true,true,true,true,true,true,true,true,true,true,true,true,true,true,false,false,false]) rfl (by kernel_rfl) (by kernel_rfl) (by kernel_rfl) (fun c a w h => HPN.out c a _ _ w h) (Or.inl ⟨by kernel_rfl,fun wq hq => by go_simp⟩) hS4 (by kernel_rfl) ?_
    have BTe:=BT.out
    have BTe:=blk_bel BTe HB3.out
    have BWe:=BW.out
    have BWe:=blk_bel BWe (by rw [hgtb_];exact HB2.out)
    have BWe:=blk_bel BWe HB3.out
    have TTe:=HTT.out
    have AAe:=HAA.out
    have y1:=ytb_.out
    have y2:=ywb_.out
    have hne : tb_ ≠ wb_:=by omega
    have dT:=HD.out tb_ (by omega)
    have dW:=HD.out wb_ (by omega)
    have E:=hidE (r1_end hS4 hne y1 y2 BTe BWe TTe AAe dT dW)
    have t0:=BTe.c 0 (by simp)
    have g0:=BTe.fz 0
    have b0:=BWe.c 0 (by simp)
    have b1:=BWe.c 1 (by simp)
    have b2:=BWe.c 2 (by simp)
    have b3:=BWe.c 3 (by simp)
    have b4:=BWe.c 4 (by simp)
    have g1:=BWe.fz 0
    have g2:=BWe.fz 1
    have g3:=BWe.fz 2
    have g4:=BWe.fz 3
    have g5:=BWe.fz 4
    have sT:=hS4.setCell (p:=⟨tb_,0,none⟩) y1 (.slice au tb'.length cu)
    have X:=blk_kept BWe (keptB_set (keptB_of_below (bad:=fun k => k = tb_) (Below.refl _ _)) (g:=tb_) rfl 0 (.slice au tb'.length cu)) (fun e => hne e.symm)
    have d0:=X.c 0 (by simp)
    have d1:=X.c 1 (by simp)
    have d2:=X.c 2 (by simp)
    have d3:=X.c 3 (by simp)
    have d4:=X.c 4 (by simp)
    have e0:=X.fz 0
    have e1:=X.fz 1
    have e2:=X.fz 2
    have e3:=X.fz 3
    have e4:=X.fz 4
    have sW:=((((sT.setCell (p:=⟨wb_,0,none⟩) y2 (.int .i64 ws)).setCell (p:=⟨wb_,1,none⟩) y2 (.int .i64 wk)).setCell (p:=⟨wb_,2,none⟩) y2 (.int .i64 wn)).setCell (p:=⟨wb_,3,none⟩) y2 (.slice aw wac.length cw)).setCell (p:=⟨wb_,4,none⟩) y2 (.bool wt)
    clear BTe BWe TTe AAe dT dW X HD
    refine held_go (i:=19) (L:=#[true,true,true,true,true,true,true,true,true,true,true,true,true,true,true,true,true,true,true,true,false,false]) (by kernel_rfl) rfl (by kernel_rfl) (by kernel_rfl) ?_
    intro K' hK
    go_simp
    refine hK _ _ ⟨sT,?_⟩
    clear hK
    refine held_go (i:=20) (L:=#[true,true,true,true,true,true,true,true,true,true,true,true,true,true,true,true,true,true,true,true,true,false]) (by kernel_rfl) rfl (by kernel_rfl) (by kernel_rfl) ?_
    intro K' hK
    go_simp
    refine hK _ _ ⟨sW,?_⟩
    clear hK
    refine held_go (i:=21) (L:=#[true,true,true,true,true,true,true,true,true,true,true,true,true,true,true,true,true,true,true,true,true,true]) (by kernel_rfl) rfl (by kernel_rfl) (by kernel_rfl) ?_
    intro K' hK
    go_simp
    refine hK _ _ ⟨sW,?_⟩
    clear hK
    refine wpAnyH_done (by kernel_rfl) ?_ _
    exact HQ.out _ tb_ wb_ ws wk wn wt wac aw cw au cu b tb' _ rfl rfl rfl rfl rfl rfl rfl rfl ⟨⟨y1,y2⟩,E.out.1,E.out.2.1,E.out.2.2.1,E.out.2.2.2.1,HUU.out,HWV.out,HAD.out,E.out.2.2.2.2⟩
 ·intro K' hK
  have BT:=hidE (blk_alloc wd [.slice none 0 0] 66)
  have hS1:=hS.alloc hS.size (.cells #[.slice none 0 0] 66)
  have HB0:=hidE (below_alloc wd (.cells #[.slice none 0 0] 66))
  go_simp
  refine hK _ _ ⟨hS1,?_⟩
  clear hK
  have ytb_ : Hid (w.heap.size ≤ wd.heap.size):=hS.size
  generalize hgtb_ : wd.heap.size = tb_ at *
  have hS1' : Hid (Below w.heap.size w (wd.alloc (.cells #[.slice none 0 0] 66))):=hS1
  generalize wd.alloc (.cells #[.slice none 0 0] 66) = w1 at *
  have hS1:=hS1'.out
  have z0 : tb_ < w1.heap.size:=BT.out.lt
  clear hS1'
  refine held_two (i:=10) (j:=18) (Li:=#[true,true,true,true,true,true,true,true,true,true,true,true,false,false,false,false,false,true,false,false,false,false]) (Lj:=#[true,true,true,true,true,true,true,true,true,true,false,true,false,false,false,false,false,true,true,false,false,false]) (by kernel_rfl) rfl rfl (by kernel_rfl) (by kernel_rfl) (by kernel_rfl) (by kernel_rfl) ?_ ?_
  ·intro K' hK
   go_simp
   refine (KO.out _ hS1).mono ?_
   rintro e w2 ⟨u9,rfl,ho9,hb⟩
   have hS2:=hS1.trans (hb.mono hS1.size)
   obtain ⟨ak,ck,rfl⟩:=owns_shapeE ho9
   have HK:=hidE (rowG_of_owns ho9)
   have HB1:=hidE hb
   have z1:=hb.size
   refine hK _ _ ⟨hS2,?_⟩
   clear hK ho9 hb
   refine held_two (i:=12) (j:=18) (Li:=#[true,true,true,true,true,true,true,true,true,true,true,true,true,false,false,false,false,true,false,false,false,false]) (Lj:=#[true,true,true,true,true,true,true,true,true,true,true,true,false,false,false,false,false,true,true,false,false,false]) (by kernel_rfl) rfl rfl (by kernel_rfl) (by kernel_rfl) (by kernel_rfl) (by kernel_rfl) ?_ ?_
   ·intro K' hK
    go_simp
    refine (AO.out _ _ hS2 HK.out).mono ?_
    rintro e w3 ⟨u,wp,b,tb',rfl,hT9,hA9,hu9,hw9,had9,hb⟩
    have hS3:=hS2.trans (hb.mono hS2.size)
    have HD:=hidE (apart_add HT0.out hS2.size hT9 hA9 hu9 hw9 had9)
    obtain ⟨au,cu,rfl⟩:=rowS_shape hT9.row
    obtain ⟨aw,cw,hwv⟩:=rowS_shape hA9
    obtain ⟨ws,wk,wn,wt,wac,wav⟩:=wp
    simp only at hwv
    subst hwv
    have HTT:=hidE hT9
    have HAA:=hidE hA9
    have HUU:=hidE (fromB_mono hu9 hS2.size)
    have HAD:=hidE (addW_mono had9 hS2.size)
    have HWV : Hid (FromB w.heap.size (.slice aw wac.length cw)):=hidE (fromB_mono hw9 hS2.size)
    have HB2:=hidE hb
    have z2:=hb.size
    unfold aggP
    refine hK _ _ ⟨hS3,?_⟩
    clear hK hT9 hA9 hu9 hw9 had9 hb
    refine held_take (i:=13) (v:=.tuple #[.agg #[.slice au tb'.length cu],.agg #[.int .i64 ws,.int .i64 wk,.int .i64 wn,.slice aw wac.length cw,.bool wt],.bool b]) (L:=#[true,true,true,true,true,true,true,true,true,true,true,true,true,true,false,false,false,true,false,false,false,false]) rfl (by kernel_rfl) (by kernel_rfl) (by kernel_rfl) (fun c a w h => HPN.out c a _ _ w h) (Or.inl ⟨by kernel_rfl,fun wq hq => by go_simp⟩) hS3 (by kernel_rfl) ?_
    refine held_take (i:=14) (v:=.agg #[.slice au tb'.length cu]) (L:=#[true,true,true,true,true,true,true,true,true,true,true,true,true,true,true,false,false,true,false,false,false,false]) rfl (by kernel_rfl) (by kernel_rfl) (by kernel_rfl) (fun c a w h => HPN.out c a _ _ w h) (Or.inl ⟨by kernel_rfl,fun wq hq => by go_simp⟩) hS3 (by kernel_rfl) ?_
    refine held_take (i:=15) (v:=.agg #[.int .i64 ws,.int .i64 wk,.int .i64 wn,.slice aw wac.length cw,.bool wt]) (L:=#[true,true,true,true,true,true,true,true,true,true,true,true,true,true,true,true,false,true,false,false,false,false]) rfl (by kernel_rfl) (by kernel_rfl) (by kernel_rfl) (fun c a w h => HPN.out c a _ _ w h) (Or.inl ⟨by kernel_rfl,fun wq hq => by go_simp⟩) hS3 (by kernel_rfl) ?_
    refine held_take (i:=16) (v:=.bool b) (L:=#[true,true,true,true,true,true,true,true,true,true,true,true,true,true,true,true,true,true,false,false,false,false]) rfl (by kernel_rfl) (by kernel_rfl) (by kernel_rfl) (fun c a w h => HPN.out c a _ _ w h) (Or.inl ⟨by kernel_rfl,fun wq hq => by go_simp⟩) hS3 (by kernel_rfl) ?_
    refine held_go (i:=18) (L:=#[true,true,true,true,true,true,true,true,true,true,true,true,true,true,true,true,true,true,true,false,false,false]) (by kernel_rfl) rfl (by kernel_rfl) (by kernel_rfl) ?_
    intro K' hK
    have BW:=hidE (blk_alloc w3 [.int .i64 0,.int .i64 0,.int .i64 0,.slice none 0 0,.bool false] 84)
    have hS4:=hS3.alloc hS3.size (.cells #[.int .i64 0,.int .i64 0,.int .i64 0,.slice none 0 0,.bool false] 84)
    have HB3:=hidE (below_alloc w3 (.cells #[.int .i64 0,.int .i64 0,.int .i64 0,.slice none 0 0,.bool false] 84))
    go_simp
    refine hK _ _ ⟨hS4,?_⟩
    clear hK
    have ywb_ : Hid (w.heap.size ≤ w3.heap.size):=hS3.size
    generalize hgwb_ : w3.heap.size = wb_ at *
    have hS4' : Hid (Below w.heap.size w (w3.alloc (.cells #[.int .i64 0,.int .i64 0,.int .i64 0,.slice none 0 0,.bool false] 84))):=hS4
    generalize w3.alloc (.cells #[.int .i64 0,.int .i64 0,.int .i64 0,.slice none 0 0,.bool false] 84) = w4 at *
    have hS4:=hS4'.out
    have z3 : wb_ < w4.heap.size:=BW.out.lt
    clear hS4'
    have BTe:=BT.out
    have BTe:=blk_bel BTe HB1.out
    have BTe:=blk_bel BTe HB2.out
    have BTe:=blk_bel BTe (by rw [hgwb_];exact HB3.out)
    have BWe:=BW.out
    have TTe:=HTT.out
    have TTe:=tblR_bel TTe (by rw [hgwb_];exact HB3.out)
    have AAe:=HAA.out
    have AAe:=accR_bel AAe (by rw [hgwb_];exact HB3.out)
    have y1:=ytb_.out
    have y2:=ywb_.out
    have hne : tb_ ≠ wb_:=by omega
    have dT:=HD.out tb_ (by omega)
    have dW:=HD.out wb_ (by omega)
    have E:=hidE (r1_end hS4 hne y1 y2 BTe BWe TTe AAe dT dW)
    have t0:=BTe.c 0 (by simp)
    have g0:=BTe.fz 0
    have b0:=BWe.c 0 (by simp)
    have b1:=BWe.c 1 (by simp)
    have b2:=BWe.c 2 (by simp)
    have b3:=BWe.c 3 (by simp)
    have b4:=BWe.c 4 (by simp)
    have g1:=BWe.fz 0
    have g2:=BWe.fz 1
    have g3:=BWe.fz 2
    have g4:=BWe.fz 3
    have g5:=BWe.fz 4
    have sT:=hS4.setCell (p:=⟨tb_,0,none⟩) y1 (.slice au tb'.length cu)
    have X:=blk_kept BWe (keptB_set (keptB_of_below (bad:=fun k => k = tb_) (Below.refl _ _)) (g:=tb_) rfl 0 (.slice au tb'.length cu)) (fun e => hne e.symm)
    have d0:=X.c 0 (by simp)
    have d1:=X.c 1 (by simp)
    have d2:=X.c 2 (by simp)
    have d3:=X.c 3 (by simp)
    have d4:=X.c 4 (by simp)
    have e0:=X.fz 0
    have e1:=X.fz 1
    have e2:=X.fz 2
    have e3:=X.fz 3
    have e4:=X.fz 4
    have sW:=((((sT.setCell (p:=⟨wb_,0,none⟩) y2 (.int .i64 ws)).setCell (p:=⟨wb_,1,none⟩) y2 (.int .i64 wk)).setCell (p:=⟨wb_,2,none⟩) y2 (.int .i64 wn)).setCell (p:=⟨wb_,3,none⟩) y2 (.slice aw wac.length cw)).setCell (p:=⟨wb_,4,none⟩) y2 (.bool wt)
    clear BTe BWe TTe AAe dT dW X HD
    refine held_go (i:=19) (L:=#[true,true,true,true,true,true,true,true,true,true,true,true,true,true,true,true,true,true,true,true,false,false]) (by kernel_rfl) rfl (by kernel_rfl) (by kernel_rfl) ?_
    intro K' hK
    go_simp
    refine hK _ _ ⟨sT,?_⟩
    clear hK
    refine held_go (i:=20) (L:=#[true,true,true,true,true,true,true,true,true,true,true,true,true,true,true,true,true,true,true,true,true,false]) (by kernel_rfl) rfl (by kernel_rfl) (by kernel_rfl) ?_
    intro K' hK
    go_simp
    refine hK _ _ ⟨sW,?_⟩
    clear hK
    refine held_go (i:=21) (L:=#[true,true,true,true,true,true,true,true,true,true,true,true,true,true,true,true,true,true,true,true,true,true]) (by kernel_rfl) rfl (by kernel_rfl) (by kernel_rfl) ?_
    intro K' hK
    go_simp
    refine hK _ _ ⟨sW,?_⟩
    clear hK
    refine wpAnyH_done (by kernel_rfl) ?_ _
    exact HQ.out _ tb_ wb_ ws wk wn wt wac aw cw au cu b tb' _ rfl rfl rfl rfl rfl rfl rfl rfl ⟨⟨y1,y2⟩,E.out.1,E.out.2.1,E.out.2.2.1,E.out.2.2.2.1,HUU.out,HWV.out,HAD.out,E.out.2.2.2.2⟩
   ·intro K' hK
    have BW:=hidE (blk_alloc w2 [.int .i64 0,.int .i64 0,.int .i64 0,.slice none 0 0,.bool false] 84)
    have hS3:=hS2.alloc hS2.size (.cells #[.int .i64 0,.int .i64 0,.int .i64 0,.slice none 0 0,.bool false] 84)
    have HB2:=hidE (below_alloc w2 (.cells #[.int .i64 0,.int .i64 0,.int .i64 0,.slice none 0 0,.bool false] 84))
    go_simp
    refine hK _ _ ⟨hS3,?_⟩
    clear hK
    have ywb_ : Hid (w.heap.size ≤ w2.heap.size):=hS2.size
    generalize hgwb_ : w2.heap.size = wb_ at *
    have hS3' : Hid (Below w.heap.size w (w2.alloc (.cells #[.int .i64 0,.int .i64 0,.int .i64 0,.slice none 0 0,.bool false] 84))):=hS3
    generalize w2.alloc (.cells #[.int .i64 0,.int .i64 0,.int .i64 0,.slice none 0 0,.bool false] 84) = w3 at *
    have hS3:=hS3'.out
    have z2 : wb_ < w3.heap.size:=BW.out.lt
    clear hS3'
    refine held_go (i:=12) (L:=#[true,true,true,true,true,true,true,true,true,true,true,true,true,false,false,false,false,true,true,false,false,false]) (by kernel_rfl) rfl (by kernel_rfl) (by kernel_rfl) ?_
    intro K' hK
    go_simp
    refine (AO.out _ _ hS3 (rowG_below HK.out (by rw [hgwb_];exact HB2.out))).mono ?_
    rintro e w4 ⟨u,wp,b,tb',rfl,hT9,hA9,hu9,hw9,had9,hb⟩
    have hS4:=hS3.trans (hb.mono hS3.size)
    have HD:=hidE (apart_add HT0.out hS3.size hT9 hA9 hu9 hw9 had9)
    obtain ⟨au,cu,rfl⟩:=rowS_shape hT9.row
    obtain ⟨aw,cw,hwv⟩:=rowS_shape hA9
    obtain ⟨ws,wk,wn,wt,wac,wav⟩:=wp
    simp only at hwv
    subst hwv
    have HTT:=hidE hT9
    have HAA:=hidE hA9
    have HUU:=hidE (fromB_mono hu9 hS3.size)
    have HAD:=hidE (addW_mono had9 hS3.size)
    have HWV : Hid (FromB w.heap.size (.slice aw wac.length cw)):=hidE (fromB_mono hw9 hS3.size)
    have HB3:=hidE hb
    have z3:=hb.size
    unfold aggP
    refine hK _ _ ⟨hS4,?_⟩
    clear hK hT9 hA9 hu9 hw9 had9 hb
    refine held_take (i:=13) (v:=.tuple #[.agg #[.slice au tb'.length cu],.agg #[.int .i64 ws,.int .i64 wk,.int .i64 wn,.slice aw wac.length cw,.bool wt],.bool b]) (L:=#[true,true,true,true,true,true,true,true,true,true,true,true,true,true,false,false,false,true,true,false,false,false]) rfl (by kernel_rfl) (by kernel_rfl) (by kernel_rfl) (fun c a w h => HPN.out c a _ _ w h) (Or.inl ⟨by kernel_rfl,fun wq hq => by go_simp⟩) hS4 (by kernel_rfl) ?_
    refine held_take (i:=14) (v:=.agg #[.slice au tb'.length cu]) (L:=#[true,true,true,true,true,true,true,true,true,true,true,true,true,true,true,false,false,true,true,false,false,false]) rfl (by kernel_rfl) (by kernel_rfl) (by kernel_rfl) (fun c a w h => HPN.out c a _ _ w h) (Or.inl ⟨by kernel_rfl,fun wq hq => by go_simp⟩) hS4 (by kernel_rfl) ?_
    refine held_take (i:=15) (v:=.agg #[.int .i64 ws,.int .i64 wk,.int .i64 wn,.slice aw wac.length cw,.bool wt]) (L:=#[true,true,true,true,true,true,true,true,true,true,true,true,true,true,true,true,false,true,true,false,false,false]) rfl (by kernel_rfl) (by kernel_rfl) (by kernel_rfl) (fun c a w h => HPN.out c a _ _ w h) (Or.inl ⟨by kernel_rfl,fun wq hq => by go_simp⟩) hS4 (by kernel_rfl) ?_
    refine held_take (i:=16) (v:=.bool b) (L:=#[true,true,true,true,true,true,true,true,true,true,true,true,true,true,true,true,true,true,true,false,false,false]) rfl (by kernel_rfl) (by kernel_rfl) (by kernel_rfl) (fun c a w h => HPN.out c a _ _ w h) (Or.inl ⟨by kernel_rfl,fun wq hq => by go_simp⟩) hS4 (by kernel_rfl) ?_
    have BTe:=BT.out
    have BTe:=blk_bel BTe HB1.out
    have BTe:=blk_bel BTe (by rw [hgwb_];exact HB2.out)
    have BTe:=blk_bel BTe HB3.out
    have BWe:=BW.out
    have BWe:=blk_bel BWe HB3.out
    have TTe:=HTT.out
    have AAe:=HAA.out
    have y1:=ytb_.out
    have y2:=ywb_.out
    have hne : tb_ ≠ wb_:=by omega
    have dT:=HD.out tb_ (by omega)
    have dW:=HD.out wb_ (by omega)
    have E:=hidE (r1_end hS4 hne y1 y2 BTe BWe TTe AAe dT dW)
    have t0:=BTe.c 0 (by simp)
    have g0:=BTe.fz 0
    have b0:=BWe.c 0 (by simp)
    have b1:=BWe.c 1 (by simp)
    have b2:=BWe.c 2 (by simp)
    have b3:=BWe.c 3 (by simp)
    have b4:=BWe.c 4 (by simp)
    have g1:=BWe.fz 0
    have g2:=BWe.fz 1
    have g3:=BWe.fz 2
    have g4:=BWe.fz 3
    have g5:=BWe.fz 4
    have sT:=hS4.setCell (p:=⟨tb_,0,none⟩) y1 (.slice au tb'.length cu)
    have X:=blk_kept BWe (keptB_set (keptB_of_below (bad:=fun k => k = tb_) (Below.refl _ _)) (g:=tb_) rfl 0 (.slice au tb'.length cu)) (fun e => hne e.symm)
    have d0:=X.c 0 (by simp)
    have d1:=X.c 1 (by simp)
    have d2:=X.c 2 (by simp)
    have d3:=X.c 3 (by simp)
    have d4:=X.c 4 (by simp)
    have e0:=X.fz 0
    have e1:=X.fz 1
    have e2:=X.fz 2
    have e3:=X.fz 3
    have e4:=X.fz 4
    have sW:=((((sT.setCell (p:=⟨wb_,0,none⟩) y2 (.int .i64 ws)).setCell (p:=⟨wb_,1,none⟩) y2 (.int .i64 wk)).setCell (p:=⟨wb_,2,none⟩) y2 (.int .i64 wn)).setCell (p:=⟨wb_,3,none⟩) y2 (.slice aw wac.length cw)).setCell (p:=⟨wb_,4,none⟩) y2 (.bool wt)
    clear BTe BWe TTe AAe dT dW X HD
    refine held_go (i:=19) (L:=#[true,true,true,true,true,true,true,true,true,true,true,true,true,true,true,true,true,true,true,true,false,false]) (by kernel_rfl) rfl (by kernel_rfl) (by kernel_rfl) ?_
    intro K' hK
    go_simp
    refine hK _ _ ⟨sT,?_⟩
    clear hK
    refine held_go (i:=20) (L:=#[true,true,true,true,true,true,true,true,true,true,true,true,true,true,true,true,true,true,true,true,true,false]) (by kernel_rfl) rfl (by kernel_rfl) (by kernel_rfl) ?_
    intro K' hK
    go_simp
    refine hK _ _ ⟨sW,?_⟩
    clear hK
    refine held_go (i:=21) (L:=#[true,true,true,true,true,true,true,true,true,true,true,true,true,true,true,true,true,true,true,true,true,true]) (by kernel_rfl) rfl (by kernel_rfl) (by kernel_rfl) ?_
    intro K' hK
    go_simp
    refine hK _ _ ⟨sW,?_⟩
    clear hK
    refine wpAnyH_done (by kernel_rfl) ?_ _
    exact HQ.out _ tb_ wb_ ws wk wn wt wac aw cw au cu b tb' _ rfl rfl rfl rfl rfl rfl rfl rfl ⟨⟨y1,y2⟩,E.out.1,E.out.2.1,E.out.2.2.1,E.out.2.2.2.1,HUU.out,HWV.out,HAD.out,E.out.2.2.2.2⟩
  ·intro K' hK
   have BW:=hidE (blk_alloc w1 [.int .i64 0,.int .i64 0,.int .i64 0,.slice none 0 0,.bool false] 84)
   have hS2:=hS1.alloc hS1.size (.cells #[.int .i64 0,.int .i64 0,.int .i64 0,.slice none 0 0,.bool false] 84)
   have HB1:=hidE (below_alloc w1 (.cells #[.int .i64 0,.int .i64 0,.int .i64 0,.slice none 0 0,.bool false] 84))
   go_simp
   refine hK _ _ ⟨hS2,?_⟩
   clear hK
   have ywb_ : Hid (w.heap.size ≤ w1.heap.size):=hS1.size
   generalize hgwb_ : w1.heap.size = wb_ at *
   have hS2' : Hid (Below w.heap.size w (w1.alloc (.cells #[.int .i64 0,.int .i64 0,.int .i64 0,.slice none 0 0,.bool false] 84))):=hS2
   generalize w1.alloc (.cells #[.int .i64 0,.int .i64 0,.int .i64 0,.slice none 0 0,.bool false] 84) = w2 at *
   have hS2:=hS2'.out
   have z1 : wb_ < w2.heap.size:=BW.out.lt
   clear hS2'
   refine held_go (i:=10) (L:=#[true,true,true,true,true,true,true,true,true,true,true,true,false,false,false,false,false,true,true,false,false,false]) (by kernel_rfl) rfl (by kernel_rfl) (by kernel_rfl) ?_
   intro K' hK
   go_simp
   refine (KO.out _ hS2).mono ?_
   rintro e w3 ⟨u9,rfl,ho9,hb⟩
   have hS3:=hS2.trans (hb.mono hS2.size)
   obtain ⟨ak,ck,rfl⟩:=owns_shapeE ho9
   have HK:=hidE (rowG_of_owns ho9)
   have HB2:=hidE hb
   have z2:=hb.size
   refine hK _ _ ⟨hS3,?_⟩
   clear hK ho9 hb
   refine held_go (i:=12) (L:=#[true,true,true,true,true,true,true,true,true,true,true,true,true,false,false,false,false,true,true,false,false,false]) (by kernel_rfl) rfl (by kernel_rfl) (by kernel_rfl) ?_
   intro K' hK
   go_simp
   refine (AO.out _ _ hS3 HK.out).mono ?_
   rintro e w4 ⟨u,wp,b,tb',rfl,hT9,hA9,hu9,hw9,had9,hb⟩
   have hS4:=hS3.trans (hb.mono hS3.size)
   have HD:=hidE (apart_add HT0.out hS3.size hT9 hA9 hu9 hw9 had9)
   obtain ⟨au,cu,rfl⟩:=rowS_shape hT9.row
   obtain ⟨aw,cw,hwv⟩:=rowS_shape hA9
   obtain ⟨ws,wk,wn,wt,wac,wav⟩:=wp
   simp only at hwv
   subst hwv
   have HTT:=hidE hT9
   have HAA:=hidE hA9
   have HUU:=hidE (fromB_mono hu9 hS3.size)
   have HAD:=hidE (addW_mono had9 hS3.size)
   have HWV : Hid (FromB w.heap.size (.slice aw wac.length cw)):=hidE (fromB_mono hw9 hS3.size)
   have HB3:=hidE hb
   have z3:=hb.size
   unfold aggP
   refine hK _ _ ⟨hS4,?_⟩
   clear hK hT9 hA9 hu9 hw9 had9 hb
   refine held_take (i:=13) (v:=.tuple #[.agg #[.slice au tb'.length cu],.agg #[.int .i64 ws,.int .i64 wk,.int .i64 wn,.slice aw wac.length cw,.bool wt],.bool b]) (L:=#[true,true,true,true,true,true,true,true,true,true,true,true,true,true,false,false,false,true,true,false,false,false]) rfl (by kernel_rfl) (by kernel_rfl) (by kernel_rfl) (fun c a w h => HPN.out c a _ _ w h) (Or.inl ⟨by kernel_rfl,fun wq hq => by go_simp⟩) hS4 (by kernel_rfl) ?_
   refine held_take (i:=14) (v:=.agg #[.slice au tb'.length cu]) (L:=#[true,true,true,true,true,true,true,true,true,true,true,true,true,true,true,false,false,true,true,false,false,false]) rfl (by kernel_rfl) (by kernel_rfl) (by kernel_rfl) (fun c a w h => HPN.out c a _ _ w h) (Or.inl ⟨by kernel_rfl,fun wq hq => by go_simp⟩) hS4 (by kernel_rfl) ?_
   refine held_take (i:=15) (v:=.agg #[.int .i64 ws,.int .i64 wk,.int .i64 wn,.slice aw wac.length cw,.bool wt]) (L:=#[true,true,true,true,true,true,true,true,true,true,true,true,true,true,true,true,false,true,true,false,false,false]) rfl (by kernel_rfl) (by kernel_rfl) (by kernel_rfl) (fun c a w h => HPN.out c a _ _ w h) (Or.inl ⟨by kernel_rfl,fun wq hq => by go_simp⟩) hS4 (by kernel_rfl) ?_
   refine held_take (i:=16) (v:=.bool b) (L:=#[true,true,true,true,true,true,true,true,true,true,true,true,true,true,true,true,true,true,true,false,false,false]) rfl (by kernel_rfl) (by kernel_rfl) (by kernel_rfl) (fun c a w h => HPN.out c a _ _ w h) (Or.inl ⟨by kernel_rfl,fun wq hq => by go_simp⟩) hS4 (by kernel_rfl) ?_
   have BTe:=BT.out
   have BTe:=blk_bel BTe (by rw [hgwb_];exact HB1.out)
   have BTe:=blk_bel BTe HB2.out
   have BTe:=blk_bel BTe HB3.out
   have BWe:=BW.out
   have BWe:=blk_bel BWe HB2.out
   have BWe:=blk_bel BWe HB3.out
   have TTe:=HTT.out
   have AAe:=HAA.out
   have y1:=ytb_.out
   have y2:=ywb_.out
   have hne : tb_ ≠ wb_:=by omega
   have dT:=HD.out tb_ (by omega)
   have dW:=HD.out wb_ (by omega)
   have E:=hidE (r1_end hS4 hne y1 y2 BTe BWe TTe AAe dT dW)
   have t0:=BTe.c 0 (by simp)
   have g0:=BTe.fz 0
   have b0:=BWe.c 0 (by simp)
   have b1:=BWe.c 1 (by simp)
   have b2:=BWe.c 2 (by simp)
   have b3:=BWe.c 3 (by simp)
   have b4:=BWe.c 4 (by simp)
   have g1:=BWe.fz 0
   have g2:=BWe.fz 1
   have g3:=BWe.fz 2
   have g4:=BWe.fz 3
   have g5:=BWe.fz 4
   have sT:=hS4.setCell (p:=⟨tb_,0,none⟩) y1 (.slice au tb'.length cu)
   have X:=blk_kept BWe (keptB_set (keptB_of_below (bad:=fun k => k = tb_) (Below.refl _ _)) (g:=tb_) rfl 0 (.slice au tb'.length cu)) (fun e => hne e.symm)
   have d0:=X.c 0 (by simp)
   have d1:=X.c 1 (by simp)
   have d2:=X.c 2 (by simp)
   have d3:=X.c 3 (by simp)
   have d4:=X.c 4 (by simp)
   have e0:=X.fz 0
   have e1:=X.fz 1
   have e2:=X.fz 2
   have e3:=X.fz 3
   have e4:=X.fz 4
   have sW:=((((sT.setCell (p:=⟨wb_,0,none⟩) y2 (.int .i64 ws)).setCell (p:=⟨wb_,1,none⟩) y2 (.int .i64 wk)).setCell (p:=⟨wb_,2,none⟩) y2 (.int .i64 wn)).setCell (p:=⟨wb_,3,none⟩) y2 (.slice aw wac.length cw)).setCell (p:=⟨wb_,4,none⟩) y2 (.bool wt)
   clear BTe BWe TTe AAe dT dW X HD
   refine held_go (i:=19) (L:=#[true,true,true,true,true,true,true,true,true,true,true,true,true,true,true,true,true,true,true,true,false,false]) (by kernel_rfl) rfl (by kernel_rfl) (by kernel_rfl) ?_
   intro K' hK
   go_simp
   refine hK _ _ ⟨sT,?_⟩
   clear hK
   refine held_go (i:=20) (L:=#[true,true,true,true,true,true,true,true,true,true,true,true,true,true,true,true,true,true,true,true,true,false]) (by kernel_rfl) rfl (by kernel_rfl) (by kernel_rfl) ?_
   intro K' hK
   go_simp
   refine hK _ _ ⟨sW,?_⟩
   clear hK
   refine held_go (i:=21) (L:=#[true,true,true,true,true,true,true,true,true,true,true,true,true,true,true,true,true,true,true,true,true,true]) (by kernel_rfl) rfl (by kernel_rfl) (by kernel_rfl) ?_
   intro K' hK
   go_simp
   refine hK _ _ ⟨sW,?_⟩
   clear hK
   refine wpAnyH_done (by kernel_rfl) ?_ _
   exact HQ.out _ tb_ wb_ ws wk wn wt wac aw cw au cu b tb' _ rfl rfl rfl rfl rfl rfl rfl rfl ⟨⟨y1,y2⟩,E.out.1,E.out.2.1,E.out.2.2.1,E.out.2.2.2.1,HUU.out,HWV.out,HAD.out,E.out.2.2.2.2⟩
 ·intro K' hK
  have BW:=hidE (blk_alloc wd [.int .i64 0,.int .i64 0,.int .i64 0,.slice none 0 0,.bool false] 84)
  have hS1:=hS.alloc hS.size (.cells #[.int .i64 0,.int .i64 0,.int .i64 0,.slice none 0 0,.bool false] 84)
  have HB0:=hidE (below_alloc wd (.cells #[.int .i64 0,.int .i64 0,.int .i64 0,.slice none 0 0,.bool false] 84))
  go_simp
  refine hK _ _ ⟨hS1,?_⟩
  clear hK
  have ywb_ : Hid (w.heap.size ≤ wd.heap.size):=hS.size
  generalize hgwb_ : wd.heap.size = wb_ at *
  have hS1' : Hid (Below w.heap.size w (wd.alloc (.cells #[.int .i64 0,.int .i64 0,.int .i64 0,.slice none 0 0,.bool false] 84))):=hS1
  generalize wd.alloc (.cells #[.int .i64 0,.int .i64 0,.int .i64 0,.slice none 0 0,.bool false] 84) = w1 at *
  have hS1:=hS1'.out
  have z0 : wb_ < w1.heap.size:=BW.out.lt
  clear hS1'
  refine held_two (i:=10) (j:=17) (Li:=#[true,true,true,true,true,true,true,true,true,true,true,true,false,false,false,false,false,false,true,false,false,false]) (Lj:=#[true,true,true,true,true,true,true,true,true,true,false,true,false,false,false,false,false,true,true,false,false,false]) (by kernel_rfl) rfl rfl (by kernel_rfl) (by kernel_rfl) (by kernel_rfl) (by kernel_rfl) ?_ ?_
  ·intro K' hK
   go_simp
   refine (KO.out _ hS1).mono ?_
   rintro e w2 ⟨u9,rfl,ho9,hb⟩
   have hS2:=hS1.trans (hb.mono hS1.size)
   obtain ⟨ak,ck,rfl⟩:=owns_shapeE ho9
   have HK:=hidE (rowG_of_owns ho9)
   have HB1:=hidE hb
   have z1:=hb.size
   refine hK _ _ ⟨hS2,?_⟩
   clear hK ho9 hb
   refine held_two (i:=12) (j:=17) (Li:=#[true,true,true,true,true,true,true,true,true,true,true,true,true,false,false,false,false,false,true,false,false,false]) (Lj:=#[true,true,true,true,true,true,true,true,true,true,true,true,false,false,false,false,false,true,true,false,false,false]) (by kernel_rfl) rfl rfl (by kernel_rfl) (by kernel_rfl) (by kernel_rfl) (by kernel_rfl) ?_ ?_
   ·intro K' hK
    go_simp
    refine (AO.out _ _ hS2 HK.out).mono ?_
    rintro e w3 ⟨u,wp,b,tb',rfl,hT9,hA9,hu9,hw9,had9,hb⟩
    have hS3:=hS2.trans (hb.mono hS2.size)
    have HD:=hidE (apart_add HT0.out hS2.size hT9 hA9 hu9 hw9 had9)
    obtain ⟨au,cu,rfl⟩:=rowS_shape hT9.row
    obtain ⟨aw,cw,hwv⟩:=rowS_shape hA9
    obtain ⟨ws,wk,wn,wt,wac,wav⟩:=wp
    simp only at hwv
    subst hwv
    have HTT:=hidE hT9
    have HAA:=hidE hA9
    have HUU:=hidE (fromB_mono hu9 hS2.size)
    have HAD:=hidE (addW_mono had9 hS2.size)
    have HWV : Hid (FromB w.heap.size (.slice aw wac.length cw)):=hidE (fromB_mono hw9 hS2.size)
    have HB2:=hidE hb
    have z2:=hb.size
    unfold aggP
    refine hK _ _ ⟨hS3,?_⟩
    clear hK hT9 hA9 hu9 hw9 had9 hb
    refine held_take (i:=13) (v:=.tuple #[.agg #[.slice au tb'.length cu],.agg #[.int .i64 ws,.int .i64 wk,.int .i64 wn,.slice aw wac.length cw,.bool wt],.bool b]) (L:=#[true,true,true,true,true,true,true,true,true,true,true,true,true,true,false,false,false,false,true,false,false,false]) rfl (by kernel_rfl) (by kernel_rfl) (by kernel_rfl) (fun c a w h => HPN.out c a _ _ w h) (Or.inl ⟨by kernel_rfl,fun wq hq => by go_simp⟩) hS3 (by kernel_rfl) ?_
    refine held_take (i:=14) (v:=.agg #[.slice au tb'.length cu]) (L:=#[true,true,true,true,true,true,true,true,true,true,true,true,true,true,true,false,false,false,true,false,false,false]) rfl (by kernel_rfl) (by kernel_rfl) (by kernel_rfl) (fun c a w h => HPN.out c a _ _ w h) (Or.inl ⟨by kernel_rfl,fun wq hq => by go_simp⟩) hS3 (by kernel_rfl) ?_
    refine held_take (i:=15) (v:=.agg #[.int .i64 ws,.int .i64 wk,.int .i64 wn,.slice aw wac.length cw,.bool wt]) (L:=#[true,true,true,true,true,true,true,true,true,true,true,true,true,true,true,true,false,false,true,false,false,false]) rfl (by kernel_rfl) (by kernel_rfl) (by kernel_rfl) (fun c a w h => HPN.out c a _ _ w h) (Or.inl ⟨by kernel_rfl,fun wq hq => by go_simp⟩) hS3 (by kernel_rfl) ?_
    refine held_take (i:=16) (v:=.bool b) (L:=#[true,true,true,true,true,true,true,true,true,true,true,true,true,true,true,true,true,false,true,false,false,false]) rfl (by kernel_rfl) (by kernel_rfl) (by kernel_rfl) (fun c a w h => HPN.out c a _ _ w h) (Or.inl ⟨by kernel_rfl,fun wq hq => by go_simp⟩) hS3 (by kernel_rfl) ?_
    refine held_go (i:=17) (L:=#[true,true,true,true,true,true,true,true,true,true,true,true,true,true,true,true,true,true,true,false,false,false]) (by kernel_rfl) rfl (by kernel_rfl) (by kernel_rfl) ?_
    intro K' hK
    have BT:=hidE (blk_alloc w3 [.slice none 0 0] 66)
    have hS4:=hS3.alloc hS3.size (.cells #[.slice none 0 0] 66)
    have HB3:=hidE (below_alloc w3 (.cells #[.slice none 0 0] 66))
    go_simp
    refine hK _ _ ⟨hS4,?_⟩
    clear hK
    have ytb_ : Hid (w.heap.size ≤ w3.heap.size):=hS3.size
    generalize hgtb_ : w3.heap.size = tb_ at *
    have hS4' : Hid (Below w.heap.size w (w3.alloc (.cells #[.slice none 0 0] 66))):=hS4
    generalize w3.alloc (.cells #[.slice none 0 0] 66) = w4 at *
    have hS4:=hS4'.out
    have z3 : tb_ < w4.heap.size:=BT.out.lt
    clear hS4'
    have BTe:=BT.out
    have BWe:=BW.out
    have BWe:=blk_bel BWe HB1.out
    have BWe:=blk_bel BWe HB2.out
    have BWe:=blk_bel BWe (by rw [hgtb_];exact HB3.out)
    have TTe:=HTT.out
    have TTe:=tblR_bel TTe (by rw [hgtb_];exact HB3.out)
    have AAe:=HAA.out
    have AAe:=accR_bel AAe (by rw [hgtb_];exact HB3.out)
    have y1:=ytb_.out
    have y2:=ywb_.out
    have hne : tb_ ≠ wb_:=by omega
    have dT:=HD.out tb_ (by omega)
    have dW:=HD.out wb_ (by omega)
    have E:=hidE (r1_end hS4 hne y1 y2 BTe BWe TTe AAe dT dW)
    have t0:=BTe.c 0 (by simp)
    have g0:=BTe.fz 0
    have b0:=BWe.c 0 (by simp)
    have b1:=BWe.c 1 (by simp)
    have b2:=BWe.c 2 (by simp)
    have b3:=BWe.c 3 (by simp)
    have b4:=BWe.c 4 (by simp)
    have g1:=BWe.fz 0
    have g2:=BWe.fz 1
    have g3:=BWe.fz 2
    have g4:=BWe.fz 3
    have g5:=BWe.fz 4
    have sT:=hS4.setCell (p:=⟨tb_,0,none⟩) y1 (.slice au tb'.length cu)
    have X:=blk_kept BWe (keptB_set (keptB_of_below (bad:=fun k => k = tb_) (Below.refl _ _)) (g:=tb_) rfl 0 (.slice au tb'.length cu)) (fun e => hne e.symm)
    have d0:=X.c 0 (by simp)
    have d1:=X.c 1 (by simp)
    have d2:=X.c 2 (by simp)
    have d3:=X.c 3 (by simp)
    have d4:=X.c 4 (by simp)
    have e0:=X.fz 0
    have e1:=X.fz 1
    have e2:=X.fz 2
    have e3:=X.fz 3
    have e4:=X.fz 4
    have sW:=((((sT.setCell (p:=⟨wb_,0,none⟩) y2 (.int .i64 ws)).setCell (p:=⟨wb_,1,none⟩) y2 (.int .i64 wk)).setCell (p:=⟨wb_,2,none⟩) y2 (.int .i64 wn)).setCell (p:=⟨wb_,3,none⟩) y2 (.slice aw wac.length cw)).setCell (p:=⟨wb_,4,none⟩) y2 (.bool wt)
    clear BTe BWe TTe AAe dT dW X HD
    refine held_go (i:=19) (L:=#[true,true,true,true,true,true,true,true,true,true,true,true,true,true,true,true,true,true,true,true,false,false]) (by kernel_rfl) rfl (by kernel_rfl) (by kernel_rfl) ?_
    intro K' hK
    go_simp
    refine hK _ _ ⟨sT,?_⟩
    clear hK
    refine held_go (i:=20) (L:=#[true,true,true,true,true,true,true,true,true,true,true,true,true,true,true,true,true,true,true,true,true,false]) (by kernel_rfl) rfl (by kernel_rfl) (by kernel_rfl) ?_
    intro K' hK
    go_simp
    refine hK _ _ ⟨sW,?_⟩
    clear hK
    refine held_go (i:=21) (L:=#[true,true,true,true,true,true,true,true,true,true,true,true,true,true,true,true,true,true,true,true,true,true]) (by kernel_rfl) rfl (by kernel_rfl) (by kernel_rfl) ?_
    intro K' hK
    go_simp
    refine hK _ _ ⟨sW,?_⟩
    clear hK
    refine wpAnyH_done (by kernel_rfl) ?_ _
    exact HQ.out _ tb_ wb_ ws wk wn wt wac aw cw au cu b tb' _ rfl rfl rfl rfl rfl rfl rfl rfl ⟨⟨y1,y2⟩,E.out.1,E.out.2.1,E.out.2.2.1,E.out.2.2.2.1,HUU.out,HWV.out,HAD.out,E.out.2.2.2.2⟩
   ·intro K' hK
    have BT:=hidE (blk_alloc w2 [.slice none 0 0] 66)
    have hS3:=hS2.alloc hS2.size (.cells #[.slice none 0 0] 66)
    have HB2:=hidE (below_alloc w2 (.cells #[.slice none 0 0] 66))
    go_simp
    refine hK _ _ ⟨hS3,?_⟩
    clear hK
    have ytb_ : Hid (w.heap.size ≤ w2.heap.size):=hS2.size
    generalize hgtb_ : w2.heap.size = tb_ at *
    have hS3' : Hid (Below w.heap.size w (w2.alloc (.cells #[.slice none 0 0] 66))):=hS3
    generalize w2.alloc (.cells #[.slice none 0 0] 66) = w3 at *
    have hS3:=hS3'.out
    have z2 : tb_ < w3.heap.size:=BT.out.lt
    clear hS3'
    refine held_go (i:=12) (L:=#[true,true,true,true,true,true,true,true,true,true,true,true,true,false,false,false,false,true,true,false,false,false]) (by kernel_rfl) rfl (by kernel_rfl) (by kernel_rfl) ?_
    intro K' hK
    go_simp
    refine (AO.out _ _ hS3 (rowG_below HK.out (by rw [hgtb_];exact HB2.out))).mono ?_
    rintro e w4 ⟨u,wp,b,tb',rfl,hT9,hA9,hu9,hw9,had9,hb⟩
    have hS4:=hS3.trans (hb.mono hS3.size)
    have HD:=hidE (apart_add HT0.out hS3.size hT9 hA9 hu9 hw9 had9)
    obtain ⟨au,cu,rfl⟩:=rowS_shape hT9.row
    obtain ⟨aw,cw,hwv⟩:=rowS_shape hA9
    obtain ⟨ws,wk,wn,wt,wac,wav⟩:=wp
    simp only at hwv
    subst hwv
    have HTT:=hidE hT9
    have HAA:=hidE hA9
    have HUU:=hidE (fromB_mono hu9 hS3.size)
    have HAD:=hidE (addW_mono had9 hS3.size)
    have HWV : Hid (FromB w.heap.size (.slice aw wac.length cw)):=hidE (fromB_mono hw9 hS3.size)
    have HB3:=hidE hb
    have z3:=hb.size
    unfold aggP
    refine hK _ _ ⟨hS4,?_⟩
    clear hK hT9 hA9 hu9 hw9 had9 hb
    refine held_take (i:=13) (v:=.tuple #[.agg #[.slice au tb'.length cu],.agg #[.int .i64 ws,.int .i64 wk,.int .i64 wn,.slice aw wac.length cw,.bool wt],.bool b]) (L:=#[true,true,true,true,true,true,true,true,true,true,true,true,true,true,false,false,false,true,true,false,false,false]) rfl (by kernel_rfl) (by kernel_rfl) (by kernel_rfl) (fun c a w h => HPN.out c a _ _ w h) (Or.inl ⟨by kernel_rfl,fun wq hq => by go_simp⟩) hS4 (by kernel_rfl) ?_
    refine held_take (i:=14) (v:=.agg #[.slice au tb'.length cu]) (L:=#[true,true,true,true,true,true,true,true,true,true,true,true,true,true,true,false,false,true,true,false,false,false]) rfl (by kernel_rfl) (by kernel_rfl) (by kernel_rfl) (fun c a w h => HPN.out c a _ _ w h) (Or.inl ⟨by kernel_rfl,fun wq hq => by go_simp⟩) hS4 (by kernel_rfl) ?_
    refine held_take (i:=15) (v:=.agg #[.int .i64 ws,.int .i64 wk,.int .i64 wn,.slice aw wac.length cw,.bool wt]) (L:=#[true,true,true,true,true,true,true,true,true,true,true,true,true,true,true,true,false,true,true,false,false,false]) rfl (by kernel_rfl) (by kernel_rfl) (by kernel_rfl) (fun c a w h => HPN.out c a _ _ w h) (Or.inl ⟨by kernel_rfl,fun wq hq => by go_simp⟩) hS4 (by kernel_rfl) ?_
    refine held_take (i:=16) (v:=.bool b) (L:=#[true,true,true,true,true,true,true,true,true,true,true,true,true,true,true,true,true,true,true,false,false,false]) rfl (by kernel_rfl) (by kernel_rfl) (by kernel_rfl) (fun c a w h => HPN.out c a _ _ w h) (Or.inl ⟨by kernel_rfl,fun wq hq => by go_simp⟩) hS4 (by kernel_rfl) ?_
    have BTe:=BT.out
    have BTe:=blk_bel BTe HB3.out
    have BWe:=BW.out
    have BWe:=blk_bel BWe HB1.out
    have BWe:=blk_bel BWe (by rw [hgtb_];exact HB2.out)
    have BWe:=blk_bel BWe HB3.out
    have TTe:=HTT.out
    have AAe:=HAA.out
    have y1:=ytb_.out
    have y2:=ywb_.out
    have hne : tb_ ≠ wb_:=by omega
    have dT:=HD.out tb_ (by omega)
    have dW:=HD.out wb_ (by omega)
    have E:=hidE (r1_end hS4 hne y1 y2 BTe BWe TTe AAe dT dW)
    have t0:=BTe.c 0 (by simp)
    have g0:=BTe.fz 0
    have b0:=BWe.c 0 (by simp)
    have b1:=BWe.c 1 (by simp)
    have b2:=BWe.c 2 (by simp)
    have b3:=BWe.c 3 (by simp)
    have b4:=BWe.c 4 (by simp)
    have g1:=BWe.fz 0
    have g2:=BWe.fz 1
    have g3:=BWe.fz 2
    have g4:=BWe.fz 3
    have g5:=BWe.fz 4
    have sT:=hS4.setCell (p:=⟨tb_,0,none⟩) y1 (.slice au tb'.length cu)
    have X:=blk_kept BWe (keptB_set (keptB_of_below (bad:=fun k => k = tb_) (Below.refl _ _)) (g:=tb_) rfl 0 (.slice au tb'.length cu)) (fun e => hne e.symm)
    have d0:=X.c 0 (by simp)
    have d1:=X.c 1 (by simp)
    have d2:=X.c 2 (by simp)
    have d3:=X.c 3 (by simp)
    have d4:=X.c 4 (by simp)
    have e0:=X.fz 0
    have e1:=X.fz 1
    have e2:=X.fz 2
    have e3:=X.fz 3
    have e4:=X.fz 4
    have sW:=((((sT.setCell (p:=⟨wb_,0,none⟩) y2 (.int .i64 ws)).setCell (p:=⟨wb_,1,none⟩) y2 (.int .i64 wk)).setCell (p:=⟨wb_,2,none⟩) y2 (.int .i64 wn)).setCell (p:=⟨wb_,3,none⟩) y2 (.slice aw wac.length cw)).setCell (p:=⟨wb_,4,none⟩) y2 (.bool wt)
    clear BTe BWe TTe AAe dT dW X HD
    refine held_go (i:=19) (L:=#[true,true,true,true,true,true,true,true,true,true,true,true,true,true,true,true,true,true,true,true,false,false]) (by kernel_rfl) rfl (by kernel_rfl) (by kernel_rfl) ?_
    intro K' hK
    go_simp
    refine hK _ _ ⟨sT,?_⟩
    clear hK
    refine held_go (i:=20) (L:=#[true,true,true,true,true,true,true,true,true,true,true,true,true,true,true,true,true,true,true,true,true,false]) (by kernel_rfl) rfl (by kernel_rfl) (by kernel_rfl) ?_
    intro K' hK
    go_simp
    refine hK _ _ ⟨sW,?_⟩
    clear hK
    refine held_go (i:=21) (L:=#[true,true,true,true,true,true,true,true,true,true,true,true,true,true,true,true,true,true,true,true,true,true]) (by kernel_rfl) rfl (by kernel_rfl) (by kernel_rfl) ?_
    intro K' hK
    go_simp
    refine hK _ _ ⟨sW,?_⟩
    clear hK
    refine wpAnyH_done (by kernel_rfl) ?_ _
    exact HQ.out _ tb_ wb_ ws wk wn wt wac aw cw au cu b tb' _ rfl rfl rfl rfl rfl rfl rfl rfl ⟨⟨y1,y2⟩,E.out.1,E.out.2.1,E.out.2.2.1,E.out.2.2.2.1,HUU.out,HWV.out,HAD.out,E.out.2.2.2.2⟩
  ·intro K' hK
   have BT:=hidE (blk_alloc w1 [.slice none 0 0] 66)
   have hS2:=hS1.alloc hS1.size (.cells #[.slice none 0 0] 66)
   have HB1:=hidE (below_alloc w1 (.cells #[.slice none 0 0] 66))
   go_simp
   refine hK _ _ ⟨hS2,?_⟩
   clear hK
   have ytb_ : Hid (w.heap.size ≤ w1.heap.size):=hS1.size
   generalize hgtb_ : w1.heap.size = tb_ at *
   have hS2' : Hid (Below w.heap.size w (w1.alloc (.cells #[.slice none 0 0] 66))):=hS2
   generalize w1.alloc (.cells #[.slice none 0 0] 66) = w2 at *
   have hS2:=hS2'.out
   have z1 : tb_ < w2.heap.size:=BT.out.lt
   clear hS2'
   refine held_go (i:=10) (L:=#[true,true,true,true,true,true,true,true,true,true,true,true,false,false,false,false,false,true,true,false,false,false]) (by kernel_rfl) rfl (by kernel_rfl) (by kernel_rfl) ?_
   intro K' hK
   go_simp
   refine (KO.out _ hS2).mono ?_
   rintro e w3 ⟨u9,rfl,ho9,hb⟩
   have hS3:=hS2.trans (hb.mono hS2.size)
   obtain ⟨ak,ck,rfl⟩:=owns_shapeE ho9
   have HK:=hidE (rowG_of_owns ho9)
   have HB2:=hidE hb
   have z2:=hb.size
   refine hK _ _ ⟨hS3,?_⟩
   clear hK ho9 hb
   refine held_go (i:=12) (L:=#[true,true,true,true,true,true,true,true,true,true,true,true,true,false,false,false,false,true,true,false,false,false]) (by kernel_rfl) rfl (by kernel_rfl) (by kernel_rfl) ?_
   intro K' hK
   go_simp
   refine (AO.out _ _ hS3 HK.out).mono ?_
   rintro e w4 ⟨u,wp,b,tb',rfl,hT9,hA9,hu9,hw9,had9,hb⟩
   have hS4:=hS3.trans (hb.mono hS3.size)
   have HD:=hidE (apart_add HT0.out hS3.size hT9 hA9 hu9 hw9 had9)
   obtain ⟨au,cu,rfl⟩:=rowS_shape hT9.row
   obtain ⟨aw,cw,hwv⟩:=rowS_shape hA9
   obtain ⟨ws,wk,wn,wt,wac,wav⟩:=wp
   simp only at hwv
   subst hwv
   have HTT:=hidE hT9
   have HAA:=hidE hA9
   have HUU:=hidE (fromB_mono hu9 hS3.size)
   have HAD:=hidE (addW_mono had9 hS3.size)
   have HWV : Hid (FromB w.heap.size (.slice aw wac.length cw)):=hidE (fromB_mono hw9 hS3.size)
   have HB3:=hidE hb
   have z3:=hb.size
   unfold aggP
   refine hK _ _ ⟨hS4,?_⟩
   clear hK hT9 hA9 hu9 hw9 had9 hb
   refine held_take (i:=13) (v:=.tuple #[.agg #[.slice au tb'.length cu],.agg #[.int .i64 ws,.int .i64 wk,.int .i64 wn,.slice aw wac.length cw,.bool wt],.bool b]) (L:=#[true,true,true,true,true,true,true,true,true,true,true,true,true,true,false,false,false,true,true,false,false,false]) rfl (by kernel_rfl) (by kernel_rfl) (by kernel_rfl) (fun c a w h => HPN.out c a _ _ w h) (Or.inl ⟨by kernel_rfl,fun wq hq => by go_simp⟩) hS4 (by kernel_rfl) ?_
   refine held_take (i:=14) (v:=.agg #[.slice au tb'.length cu]) (L:=#[true,true,true,true,true,true,true,true,true,true,true,true,true,true,true,false,false,true,true,false,false,false]) rfl (by kernel_rfl) (by kernel_rfl) (by kernel_rfl) (fun c a w h => HPN.out c a _ _ w h) (Or.inl ⟨by kernel_rfl,fun wq hq => by go_simp⟩) hS4 (by kernel_rfl) ?_
   refine held_take (i:=15) (v:=.agg #[.int .i64 ws,.int .i64 wk,.int .i64 wn,.slice aw wac.length cw,.bool wt]) (L:=#[true,true,true,true,true,true,true,true,true,true,true,true,true,true,true,true,false,true,true,false,false,false]) rfl (by kernel_rfl) (by kernel_rfl) (by kernel_rfl) (fun c a w h => HPN.out c a _ _ w h) (Or.inl ⟨by kernel_rfl,fun wq hq => by go_simp⟩) hS4 (by kernel_rfl) ?_
   refine held_take (i:=16) (v:=.bool b) (L:=#[true,true,true,true,true,true,true,true,true,true,true,true,true,true,true,true,true,true,true,false,false,false]) rfl (by kernel_rfl) (by kernel_rfl) (by kernel_rfl) (fun c a w h => HPN.out c a _ _ w h) (Or.inl ⟨by kernel_rfl,fun wq hq => by go_simp⟩) hS4 (by kernel_rfl) ?_
   have BTe:=BT.out
   have BTe:=blk_bel BTe HB2.out
   have BTe:=blk_bel BTe HB3.out
   have BWe:=BW.out
   have BWe:=blk_bel BWe (by rw [hgtb_];exact HB1.out)
   have BWe:=blk_bel BWe HB2.out
   have BWe:=blk_bel BWe HB3.out
   have TTe:=HTT.out
   have AAe:=HAA.out
   have y1:=ytb_.out
   have y2:=ywb_.out
   have hne : tb_ ≠ wb_:=by omega
   have dT:=HD.out tb_ (by omega)
   have dW:=HD.out wb_ (by omega)
   have E:=hidE (r1_end hS4 hne y1 y2 BTe BWe TTe AAe dT dW)
   have t0:=BTe.c 0 (by simp)
   have g0:=BTe.fz 0
   have b0:=BWe.c 0 (by simp)
   have b1:=BWe.c 1 (by simp)
   have b2:=BWe.c 2 (by simp)
   have b3:=BWe.c 3 (by simp)
   have b4:=BWe.c 4 (by simp)
   have g1:=BWe.fz 0
   have g2:=BWe.fz 1
   have g3:=BWe.fz 2
   have g4:=BWe.fz 3
   have g5:=BWe.fz 4
   have sT:=hS4.setCell (p:=⟨tb_,0,none⟩) y1 (.slice au tb'.length cu)
   have X:=blk_kept BWe (keptB_set (keptB_of_below (bad:=fun k => k = tb_) (Below.refl _ _)) (g:=tb_) rfl 0 (.slice au tb'.length cu)) (fun e => hne e.symm)
   have d0:=X.c 0 (by simp)
   have d1:=X.c 1 (by simp)
   have d2:=X.c 2 (by simp)
   have d3:=X.c 3 (by simp)
   have d4:=X.c 4 (by simp)
   have e0:=X.fz 0
   have e1:=X.fz 1
   have e2:=X.fz 2
   have e3:=X.fz 3
   have e4:=X.fz 4
   have sW:=((((sT.setCell (p:=⟨wb_,0,none⟩) y2 (.int .i64 ws)).setCell (p:=⟨wb_,1,none⟩) y2 (.int .i64 wk)).setCell (p:=⟨wb_,2,none⟩) y2 (.int .i64 wn)).setCell (p:=⟨wb_,3,none⟩) y2 (.slice aw wac.length cw)).setCell (p:=⟨wb_,4,none⟩) y2 (.bool wt)
   clear BTe BWe TTe AAe dT dW X HD
   refine held_go (i:=19) (L:=#[true,true,true,true,true,true,true,true,true,true,true,true,true,true,true,true,true,true,true,true,false,false]) (by kernel_rfl) rfl (by kernel_rfl) (by kernel_rfl) ?_
   intro K' hK
   go_simp
   refine hK _ _ ⟨sT,?_⟩
   clear hK
   refine held_go (i:=20) (L:=#[true,true,true,true,true,true,true,true,true,true,true,true,true,true,true,true,true,true,true,true,true,false]) (by kernel_rfl) rfl (by kernel_rfl) (by kernel_rfl) ?_
   intro K' hK
   go_simp
   refine hK _ _ ⟨sW,?_⟩
   clear hK
   refine held_go (i:=21) (L:=#[true,true,true,true,true,true,true,true,true,true,true,true,true,true,true,true,true,true,true,true,true,true]) (by kernel_rfl) rfl (by kernel_rfl) (by kernel_rfl) ?_
   intro K' hK
   go_simp
   refine hK _ _ ⟨sW,?_⟩
   clear hK
   refine wpAnyH_done (by kernel_rfl) ?_ _
   exact HQ.out _ tb_ wb_ ws wk wn wt wac aw cw au cu b tb' _ rfl rfl rfl rfl rfl rfl rfl rfl ⟨⟨y1,y2⟩,E.out.1,E.out.2.1,E.out.2.2.1,E.out.2.2.2.1,HUU.out,HWV.out,HAD.out,E.out.2.2.2.2⟩
end Go.Proofs.YtcgjflamgnjhcaaGreatDoor
