/- The law engine.add's drawn region of the panes that are told, over this seat's translation. Conditions: as named. -/
import Derived.Test.YtcgjflamgnjhcaaGreatDoorEnD
set_option linter.unusedVariables false
set_option linter.unusedSimpArgs false
set_option maxRecDepth 100000
set_option maxHeartbeats 8000000
namespace Go.Proofs.YtcgjflamgnjhcaaGreatDoor
open Go.ChangeShapes Go.WideShapes Go.ChangeAt Go.RowKit
theorem r5_end {w w9 : World} {ob_ nb_ n1 n2 : Nat} {o1 o2 : Value} {x1 x2 : List Value} {xs ys zs xt yt zt : Int} {z0 z1 z2 z3 y0' y1' y2' y3' : Value} (hb : Below w.heap.size w w9) (hne : ob_ ≠ nb_) (y1 : w.heap.size ≤ ob_) (y2 : w.heap.size ≤ nb_) (BT : BlkAt w9 ob_ [z0,z1,z2,z3]) (BW : BlkAt w9 nb_ [y0',y1',y2',y3'])
  (O1 : w9.ownsRow w.heap.size 41 2 o1 n1 x1) (O2 : w9.ownsRow w.heap.size 41 2 o2 n2 x2) (d1 : ∀ k,o1.ownBlock = some k → k ≠ ob_ ∧ k ≠ nb_) (d2 : ∀ k,o2.ownBlock = some k → k ≠ ob_ ∧ k ≠ nb_) :
  BlkAt ((((((((w9.setCell ⟨ob_,0,none⟩ (.int .i64 xs)).setCell ⟨ob_,1,none⟩ (.int .i64 ys)).setCell ⟨ob_,2,none⟩ (.int .i64 zs)).setCell ⟨ob_,3,none⟩ (o1)).setCell ⟨nb_,0,none⟩ (.int .i64 xt)).setCell ⟨nb_,1,none⟩ (.int .i64 yt)).setCell ⟨nb_,2,none⟩ (.int .i64 zt)).setCell ⟨nb_,3,none⟩ (o2)) ob_ [.int .i64 xs,.int .i64 ys,.int .i64 zs,o1] ∧ BlkAt ((((((((w9.setCell ⟨ob_,0,none⟩ (.int .i64 xs)).setCell ⟨ob_,1,none⟩ (.int .i64 ys)).setCell ⟨ob_,2,none⟩ (.int .i64 zs)).setCell ⟨ob_,3,none⟩ (o1)).setCell ⟨nb_,0,none⟩ (.int .i64 xt)).setCell ⟨nb_,1,none⟩ (.int .i64 yt)).setCell ⟨nb_,2,none⟩ (.int .i64 zt)).setCell ⟨nb_,3,none⟩ (o2)) nb_ [.int .i64 xt,.int .i64 yt,.int .i64 zt,o2] ∧ World.ownsRow ((((((((w9.setCell ⟨ob_,0,none⟩ (.int .i64 xs)).setCell ⟨ob_,1,none⟩ (.int .i64 ys)).setCell ⟨ob_,2,none⟩ (.int .i64 zs)).setCell ⟨ob_,3,none⟩ (o1)).setCell ⟨nb_,0,none⟩ (.int .i64 xt)).setCell ⟨nb_,1,none⟩ (.int .i64 yt)).setCell ⟨nb_,2,none⟩ (.int .i64 zt)).setCell ⟨nb_,3,none⟩ (o2)) w.heap.size 41 2 o1 n1 x1 ∧ World.ownsRow ((((((((w9.setCell ⟨ob_,0,none⟩ (.int .i64 xs)).setCell ⟨ob_,1,none⟩ (.int .i64 ys)).setCell ⟨ob_,2,none⟩ (.int .i64 zs)).setCell ⟨ob_,3,none⟩ (o1)).setCell ⟨nb_,0,none⟩ (.int .i64 xt)).setCell ⟨nb_,1,none⟩ (.int .i64 yt)).setCell ⟨nb_,2,none⟩ (.int .i64 zt)).setCell ⟨nb_,3,none⟩ (o2)) w.heap.size 41 2 o2 n2 x2 ∧ Below w.heap.size w ((((((((w9.setCell ⟨ob_,0,none⟩ (.int .i64 xs)).setCell ⟨ob_,1,none⟩ (.int .i64 ys)).setCell ⟨ob_,2,none⟩ (.int .i64 zs)).setCell ⟨ob_,3,none⟩ (o1)).setCell ⟨nb_,0,none⟩ (.int .i64 xt)).setCell ⟨nb_,1,none⟩ (.int .i64 yt)).setCell ⟨nb_,2,none⟩ (.int .i64 zt)).setCell ⟨nb_,3,none⟩ (o2)):=by
 have K:=(keptB_set (keptB_set (keptB_set (keptB_set (keptB_set (keptB_set (keptB_set (keptB_set (keptB_of_below (bad:=fun k => k = ob_ ∨ k = nb_) (Below.refl w9.heap.size w9)) (g:=ob_) (.inl rfl) 0 (.int .i64 xs)) (g:=ob_) (.inl rfl) 1 (.int .i64 ys)) (g:=ob_) (.inl rfl) 2 (.int .i64 zs)) (g:=ob_) (.inl rfl) 3 (o1)) (g:=nb_) (.inr rfl) 0 (.int .i64 xt)) (g:=nb_) (.inr rfl) 1 (.int .i64 yt)) (g:=nb_) (.inr rfl) 2 (.int .i64 zt)) (g:=nb_) (.inr rfl) 3 (o2))
 have BT1:=(blk_set (blk_set (blk_set (blk_set BT 0 (.int .i64 xs) (by simp)) 1 (.int .i64 ys) (by simp)) 2 (.int .i64 zs) (by simp)) 3 (o1) (by simp))
 have KT:=(keptB_set (keptB_set (keptB_set (keptB_set (keptB_of_below (bad:=fun k => k = nb_) (Below.refl _ ((((w9.setCell ⟨ob_,0,none⟩ (.int .i64 xs)).setCell ⟨ob_,1,none⟩ (.int .i64 ys)).setCell ⟨ob_,2,none⟩ (.int .i64 zs)).setCell ⟨ob_,3,none⟩ (o1)))) (g:=nb_) rfl 0 (.int .i64 xt)) (g:=nb_) rfl 1 (.int .i64 yt)) (g:=nb_) rfl 2 (.int .i64 zt)) (g:=nb_) rfl 3 (o2))
 have BW1:=blk_kept BW (keptB_set (keptB_set (keptB_set (keptB_set (keptB_of_below (bad:=fun k => k = ob_) (Below.refl w9.heap.size w9)) (g:=ob_) rfl 0 (.int .i64 xs)) (g:=ob_) rfl 1 (.int .i64 ys)) (g:=ob_) rfl 2 (.int .i64 zs)) (g:=ob_) rfl 3 (o1)) (fun e => hne e.symm)
 refine ⟨by simpa using blk_kept BT1 KT hne,by simpa using (blk_set (blk_set (blk_set (blk_set BW1 0 (.int .i64 xt) (by simp)) 1 (.int .i64 yt) (by simp)) 2 (.int .i64 zt) (by simp)) 3 (o2) (by simp)),own_kept O1 K (fun k hk e => ?_),own_kept O2 K (fun k hk e => ?_),hb.trans (keptB_below K hb.size (by rintro k (rfl | rfl) <;> assumption))⟩
 ·have:=d1 k hk
  rcases e with e | e <;> omega
 ·have:=d2 k hk
  rcases e with e | e <;> omega
theorem eadd_r5 (Q : Exit → Act → World → Prop) (C5 : Code) (h5 : rgn 5 (Tryz.f47.body.getD .skip) = some C5) (t : List Value) (eb tb_ wb_ j : Nat) (ws wk wn : Int) (wt : Bool) (wac : List Ac) (aw au : Option Addr) (cw cu : Nat) (tb' : List Pn) (pst pk pn : Int) (pt : Bool) (pac : List Ac) (pa : Option Addr) (pc : Nat) (w : World) (ht : t.length = 69) (k0 : t[0]? = some (.pointer (some ⟨eb,0,none⟩))) (k8 : t[8]? = some (.pointer (some ⟨tb_,0,none⟩))) (k9 : t[9]? = some (.pointer (some ⟨wb_,0,none⟩))) (k11 : t[11]? = some (.int .i64 (j : Int)))
  (BT : BlkAt w tb_ [Value.slice au tb'.length cu]) (BW : BlkAt w wb_ [Value.int .i64 ws,Value.int .i64 wk,Value.int .i64 wn,Value.slice aw wac.length cw,Value.bool wt]) (hT : TblR w (Value.slice au tb'.length cu) tb') (hA : AccR w ⟨ws,wk,wn,wt,wac,.slice aw wac.length cw⟩) (hj : j < tb'.length) (hl : tb'.length ≤ 1000) (hp : tb'[j] = ⟨pst,pk,pn,pt,pac,.slice pa pac.length pc⟩) (hw1 : wac.length ≤ 100) (hw2 : ∀ a ∈ wac,1 ≤ a.k ∧ a.k ≤ 5) (hp1 : pac.length ≤ 100) (hp2 : ∀ a ∈ pac,1 ≤ a.k ∧ a.k ≤ 5)
  (hpan : ∀ c (a : Act) o v w,Q (.panic c) (a.put o v) w → Q (.panic c) a w)
  (hQ : ∀ (t' : List Value) (ob_ nb_ : Nat) (a1 : Option Addr) (c1 : Nat) (a2 : Option Addr) (c2 : Nat) (w' : World),t'.length = 69 → t'[0]? = some (.pointer (some ⟨eb,0,none⟩)) → t'[8]? = some (.pointer (some ⟨tb_,0,none⟩)) → t'[9]? = some (.pointer (some ⟨wb_,0,none⟩)) → t'[11]? = some (.int .i64 (j : Int)) → t'[12]? = some (.pointer (some ⟨ob_,0,none⟩)) → t'[13]? = some (.pointer (some ⟨nb_,0,none⟩)) → (w.heap.size ≤ ob_ ∧ w.heap.size ≤ nb_) ∧ BlkAt w' ob_ [.int .i64 ws,.int .i64 wk,.int .i64 wn,.slice a1 wac.length c1] ∧ BlkAt w' nb_ [.int .i64 pst,.int .i64 pk,.int .i64 pn,.slice a2 pac.length c2] ∧ w'.ownsRow w.heap.size 41 2 (.slice a1 wac.length c1) wac.length (rowV (wac.map acV)) ∧ w'.ownsRow w.heap.size 41 2 (.slice a2 pac.length c2) pac.length (rowV (pac.map acV)) ∧ Below w.heap.size w w' → Q .normal { tmps:=t'.toArray,defers:=[] } w') :
  Code.wp Tryz.prog C5 Q { tmps:=t.toArray,defers:=[] } w:=by
 have HQ:=hidE hQ
 have HPN:=hidE hpan
 have hS : Below w.heap.size w ({ w with drawn:=w.drawn + 1 } : World):=(Below.refl _ _).drew
 have OO : Hid (∀ w',Below w.heap.size w w' → Calls Tryz.prog 92 #[.agg #[Value.int .i64 ws,Value.int .i64 wk,Value.int .i64 wn,Value.slice aw wac.length cw,Value.bool wt]] w' fun e w'' => ∃ u,e = .returned (.agg #[.int .i64 ws,.int .i64 wk,.int .i64 wn,u]) ∧ w''.ownsRow w'.heap.size 41 2 u wac.length (rowV (wac.map acV)) ∧ Below w'.heap.size w' w''):=fun w' hb => out_any ⟨ws,wk,wn,wt,wac,.slice aw wac.length cw⟩ w' hw1 (accR_below hA hb) hw2
 have NO : Hid (∀ w',Below w.heap.size w w' → Calls Tryz.prog 92 #[.agg #[Value.int .i64 pst,Value.int .i64 pk,Value.int .i64 pn,Value.slice pa pac.length pc,Value.bool pt]] w' fun e w'' => ∃ u,e = .returned (.agg #[.int .i64 pst,.int .i64 pk,.int .i64 pn,u]) ∧ w''.ownsRow w'.heap.size 41 2 u pac.length (rowV (pac.map acV)) ∧ Below w'.heap.size w' w''):=fun w' hb => out_any ⟨pst,pk,pn,pt,pac,.slice pa pac.length pc⟩ w' hp1 (accR_below (by have:=hT.acc tb'[j] (List.getElem_mem hj);rw [hp] at this;exact this) hb) hp2
 obtain ⟨pg,poff,hau,hcell,x1,x2,x3⟩:=rowOf_val cellsPn_len (rowG_of_S hT.row) j hj
 subst hau
 rw [hp] at hcell
 have HPC : Hid (∀ wq,Below w.heap.size w wq → ∀ q,q < 5 → wq.cell? ⟨pg,poff + j * 5 + q,none⟩ = (cellsPn ⟨pst,pk,pn,pt,pac,.slice pa pac.length pc⟩)[q]?):=fun wq hq q hq5 => (hq.cell (p:=⟨pg,poff + j * 5 + q,none⟩) x3).trans (by have:=hcell q hq5;rw [Nat.add_assoc];exact this)
 have BT0:=hidE BT
 have BW0:=hidE BW
 unfold maxLen at x2
 clear hQ hpan hT hA hp hw1 hw2 hp1 hp2 hcell BT BW
 obtain ⟨f,hf,hi⟩:=listed69 t ht
 have e0:=some_at (hi 0 (by decide)) k0
 have e8:=some_at (hi 8 (by decide)) k8
 have e9:=some_at (hi 9 (by decide)) k9
 have e11:=some_at (hi 11 (by decide)) k11
 rw [e0,e8,e9,e11] at hf
 clear hi ht k0 e0 k8 e8 k9 e9 k11 e11
 subst hf
 unfold Tryz.f47 at h5
 simp [rgn] at h5
 subst h5
 refine wp_region_held (S:=fun w' => Below w.heap.size w w') (by kernel_rfl) ?_
 generalize ({ w with drawn:=w.drawn + 1 } : World) = wd at *
 refine held_take (i:=0) (v:=.agg #[Value.int .i64 ws,Value.int .i64 wk,Value.int .i64 wn,Value.slice aw wac.length cw,Value.bool wt]) (L:=#[true,false,false,false,false,false,false,false,false,false,false,false]) rfl (by kernel_rfl) (by kernel_rfl) (by kernel_rfl) (fun c a w h => HPN.out c a _ _ w h) (Or.inl ⟨by kernel_rfl,fun wq hq => by have K:=blk_below BW0.out hq BW0.out.lt;have q0 : wq.cell? ⟨wb_,0,none⟩ = some (Value.int .i64 ws):=K.c 0 (by simp);have q1 : wq.cell? ⟨wb_,1,none⟩ = some (Value.int .i64 wk):=K.c 1 (by simp);have q2 : wq.cell? ⟨wb_,2,none⟩ = some (Value.int .i64 wn):=K.c 2 (by simp);have q3 : wq.cell? ⟨wb_,3,none⟩ = some (Value.slice aw wac.length cw):=K.c 3 (by simp);have q4 : wq.cell? ⟨wb_,4,none⟩ = some (Value.bool wt):=K.c 4 (by simp);clear K;go_simp⟩) hS (by kernel_rfl) ?_
 refine held_take (i:=2) (v:=.pointer (some ⟨tb_,0,none⟩)) (L:=#[true,false,true,false,false,false,false,false,false,false,false,false]) rfl (by kernel_rfl) (by kernel_rfl) (by kernel_rfl) (fun c a w h => HPN.out c a _ _ w h) (Or.inl ⟨by kernel_rfl,fun wq hq => by go_simp⟩) hS (by kernel_rfl) ?_
 refine held_take (i:=3) (v:=Value.slice (some ⟨pg,poff,none⟩) tb'.length cu) (L:=#[true,false,true,true,false,false,false,false,false,false,false,false]) rfl (by kernel_rfl) (by kernel_rfl) (by kernel_rfl) (fun c a w h => HPN.out c a _ _ w h) (Or.inl ⟨by kernel_rfl,fun wq hq => by have K:=blk_below BT0.out hq BT0.out.lt;have q0 : wq.cell? ⟨tb_,0,none⟩ = some (Value.slice (some ⟨pg,poff,none⟩) tb'.length cu):=K.c 0 (by simp);clear K;go_simp⟩) hS (by kernel_rfl) ?_
 refine held_take (i:=4) (v:=.int .i64 (j : Int)) (L:=#[true,false,true,true,true,false,false,false,false,false,false,false]) rfl (by kernel_rfl) (by kernel_rfl) (by kernel_rfl) (fun c a w h => HPN.out c a _ _ w h) (Or.inl ⟨by kernel_rfl,fun wq hq => by go_simp⟩) hS (by kernel_rfl) ?_
 refine held_take (i:=5) (v:=.pointer (some ⟨pg,poff + j * 5,none⟩)) (L:=#[true,false,true,true,true,true,false,false,false,false,false,false]) rfl (by kernel_rfl) (by kernel_rfl) (by kernel_rfl) (fun c a w h => HPN.out c a _ _ w h) (Or.inl ⟨by kernel_rfl,fun wq hq => by go_simp⟩) hS (by kernel_rfl) ?_
 refine held_take (i:=6) (v:=.agg #[Value.int .i64 pst,Value.int .i64 pk,Value.int .i64 pn,Value.slice pa pac.length pc,Value.bool pt]) (L:=#[true,false,true,true,true,true,true,false,false,false,false,false]) rfl (by kernel_rfl) (by kernel_rfl) (by kernel_rfl) (fun c a w h => HPN.out c a _ _ w h) (Or.inl ⟨by kernel_rfl,fun wq hq => by have q0 : wq.cell? ⟨pg,poff + j * 5,none⟩ = some (Value.int .i64 pst):=HPC.out wq hq 0 (by omega);have q1 : wq.cell? ⟨pg,poff + j * 5 + 1,none⟩ = some (Value.int .i64 pk):=HPC.out wq hq 1 (by omega);have q2 : wq.cell? ⟨pg,poff + j * 5 + 2,none⟩ = some (Value.int .i64 pn):=HPC.out wq hq 2 (by omega);have q3 : wq.cell? ⟨pg,poff + j * 5 + 3,none⟩ = some (Value.slice pa pac.length pc):=HPC.out wq hq 3 (by omega);have q4 : wq.cell? ⟨pg,poff + j * 5 + 4,none⟩ = some (Value.bool pt):=HPC.out wq hq 4 (by omega);go_simp⟩) hS (by kernel_rfl) ?_
 refine held_three (i:=1) (j:=8) (k:=9) (Li:=#[true,true,true,true,true,true,true,false,false,false,false,false]) (Lj:=#[true,false,true,true,true,true,true,false,true,false,false,false]) (Lk:=#[true,false,true,true,true,true,true,false,false,true,false,false]) (by kernel_rfl) rfl rfl rfl (by kernel_rfl) (by kernel_rfl) (by kernel_rfl) (by kernel_rfl) (by kernel_rfl) (by kernel_rfl) ?_ ?_ ?_
 ·intro K' hK
  go_simp
  refine (OO.out _ hS).mono ?_
  rintro e w1 ⟨u1,rfl,ho9,hb⟩
  have hS1:=hS.trans (hb.mono hS.size)
  have HQO:=hidE (own_at ho9)
  obtain ⟨a1,c1,rfl⟩:=owns_shapeE ho9
  have HOO:=hidE (owns_baseG ho9 hS.size)
  have HB0:=hidE hb
  have z0:=hb.size
  refine hK _ _ ⟨hS1,?_⟩
  clear hK ho9 hb
  refine held_three (i:=7) (j:=8) (k:=9) (Li:=#[true,true,true,true,true,true,true,true,false,false,false,false]) (Lj:=#[true,true,true,true,true,true,true,false,true,false,false,false]) (Lk:=#[true,true,true,true,true,true,true,false,false,true,false,false]) (by kernel_rfl) rfl rfl rfl (by kernel_rfl) (by kernel_rfl) (by kernel_rfl) (by kernel_rfl) (by kernel_rfl) (by kernel_rfl) ?_ ?_ ?_
  ·intro K' hK
   go_simp
   refine (NO.out _ hS1).mono ?_
   rintro e w2 ⟨u2,rfl,ho9,hb⟩
   have hS2:=hS1.trans (hb.mono hS1.size)
   have HQN:=hidE (own_at ho9)
   obtain ⟨a2,c2,rfl⟩:=owns_shapeE ho9
   have HON:=hidE (owns_baseG ho9 hS1.size)
   have HB1:=hidE hb
   have z1:=hb.size
   refine hK _ _ ⟨hS2,?_⟩
   clear hK ho9 hb
   refine held_two (i:=8) (j:=9) (Li:=#[true,true,true,true,true,true,true,true,true,false,false,false]) (Lj:=#[true,true,true,true,true,true,true,true,false,true,false,false]) (by kernel_rfl) rfl rfl (by kernel_rfl) (by kernel_rfl) (by kernel_rfl) (by kernel_rfl) ?_ ?_
   ·intro K' hK
    have BT:=hidE (blk_alloc w2 [.int .i64 0,.int .i64 0,.int .i64 0,.slice none 0 0] 78)
    have hS3:=hS2.alloc hS2.size (.cells #[.int .i64 0,.int .i64 0,.int .i64 0,.slice none 0 0] 78)
    have HB2:=hidE (below_alloc w2 (.cells #[.int .i64 0,.int .i64 0,.int .i64 0,.slice none 0 0] 78))
    go_simp
    refine hK _ _ ⟨hS3,?_⟩
    clear hK
    have yob_ : Hid (w.heap.size ≤ w2.heap.size):=hS2.size
    generalize hgob_ : w2.heap.size = ob_ at *
    have hS3' : Hid (Below w.heap.size w (w2.alloc (.cells #[.int .i64 0,.int .i64 0,.int .i64 0,.slice none 0 0] 78))):=hS3
    generalize w2.alloc (.cells #[.int .i64 0,.int .i64 0,.int .i64 0,.slice none 0 0] 78) = w3 at *
    have hS3:=hS3'.out
    have z2 : ob_ < w3.heap.size:=BT.out.lt
    clear hS3'
    refine held_go (i:=9) (L:=#[true,true,true,true,true,true,true,true,true,true,false,false]) (by kernel_rfl) rfl (by kernel_rfl) (by kernel_rfl) ?_
    intro K' hK
    have BW:=hidE (blk_alloc w3 [.int .i64 0,.int .i64 0,.int .i64 0,.slice none 0 0] 78)
    have hS4:=hS3.alloc hS3.size (.cells #[.int .i64 0,.int .i64 0,.int .i64 0,.slice none 0 0] 78)
    have HB3:=hidE (below_alloc w3 (.cells #[.int .i64 0,.int .i64 0,.int .i64 0,.slice none 0 0] 78))
    go_simp
    refine hK _ _ ⟨hS4,?_⟩
    clear hK
    have ynb_ : Hid (w.heap.size ≤ w3.heap.size):=hS3.size
    generalize hgnb_ : w3.heap.size = nb_ at *
    have hS4' : Hid (Below w.heap.size w (w3.alloc (.cells #[.int .i64 0,.int .i64 0,.int .i64 0,.slice none 0 0] 78))):=hS4
    generalize w3.alloc (.cells #[.int .i64 0,.int .i64 0,.int .i64 0,.slice none 0 0] 78) = w4 at *
    have hS4:=hS4'.out
    have z3 : nb_ < w4.heap.size:=BW.out.lt
    clear hS4'
    have BTe:=BT.out
    have BTe:=blk_bel BTe (by rw [hgnb_];exact HB3.out)
    have BWe:=BW.out
    have O1:=HOO.out
    have O1:=own_keep O1 HB1.out (Nat.le_refl _)
    have O1:=own_keep O1 (by rw [hgob_];exact HB2.out) (Nat.le_refl _)
    have O1:=own_keep O1 (by rw [hgnb_];exact HB3.out) (Nat.le_refl _)
    have O2:=HON.out
    have O2:=own_keep O2 (by rw [hgob_];exact HB2.out) (Nat.le_refl _)
    have O2:=own_keep O2 (by rw [hgnb_];exact HB3.out) (Nat.le_refl _)
    have y1:=yob_.out
    have y2:=ynb_.out
    have hne : ob_ ≠ nb_:=by omega
    have dO : ∀ k,(Value.slice a1 wac.length c1).ownBlock = some k → k ≠ ob_ ∧ k ≠ nb_:=fun k hk => by have:=HQO.out k hk;omega
    have dN : ∀ k,(Value.slice a2 pac.length c2).ownBlock = some k → k ≠ ob_ ∧ k ≠ nb_:=fun k hk => by have:=HQN.out k hk;omega
    have E:=hidE (r5_end (xs:=ws) (ys:=wk) (zs:=wn) (xt:=pst) (yt:=pk) (zt:=pn) hS4 hne y1 y2 BTe BWe O1 O2 dO dN)
    have t0:=BTe.c 0 (by simp)
    have t1:=BTe.c 1 (by simp)
    have t2:=BTe.c 2 (by simp)
    have t3:=BTe.c 3 (by simp)
    have g0:=BTe.fz 0
    have g1:=BTe.fz 1
    have g2:=BTe.fz 2
    have g3:=BTe.fz 3
    have sT:=((((hS4.setCell (p:=⟨ob_,0,none⟩) y1 (.int .i64 ws)).setCell (p:=⟨ob_,1,none⟩) y1 (.int .i64 wk)).setCell (p:=⟨ob_,2,none⟩) y1 (.int .i64 wn)).setCell (p:=⟨ob_,3,none⟩) y1 (.slice a1 wac.length c1))
    have X:=blk_kept BWe (keptB_set (keptB_set (keptB_set (keptB_set (keptB_of_below (bad:=fun k => k = ob_) (Below.refl _ _)) (g:=ob_) rfl 0 (.int .i64 ws)) (g:=ob_) rfl 1 (.int .i64 wk)) (g:=ob_) rfl 2 (.int .i64 wn)) (g:=ob_) rfl 3 (.slice a1 wac.length c1)) (fun e => hne e.symm)
    have d0:=X.c 0 (by simp)
    have d1:=X.c 1 (by simp)
    have d2:=X.c 2 (by simp)
    have d3:=X.c 3 (by simp)
    have e0:=X.fz 0
    have e1:=X.fz 1
    have e2:=X.fz 2
    have e3:=X.fz 3
    have sW:=((((sT.setCell (p:=⟨nb_,0,none⟩) y2 (.int .i64 pst)).setCell (p:=⟨nb_,1,none⟩) y2 (.int .i64 pk)).setCell (p:=⟨nb_,2,none⟩) y2 (.int .i64 pn)).setCell (p:=⟨nb_,3,none⟩) y2 (.slice a2 pac.length c2))
    clear BTe BWe O1 O2 dO dN X
    refine held_go (i:=10) (L:=#[true,true,true,true,true,true,true,true,true,true,true,false]) (by kernel_rfl) rfl (by kernel_rfl) (by kernel_rfl) ?_
    intro K' hK
    go_simp
    refine hK _ _ ⟨sT,?_⟩
    clear hK
    refine held_go (i:=11) (L:=#[true,true,true,true,true,true,true,true,true,true,true,true]) (by kernel_rfl) rfl (by kernel_rfl) (by kernel_rfl) ?_
    intro K' hK
    go_simp
    refine hK _ _ ⟨sW,?_⟩
    clear hK
    refine wpAnyH_done (by kernel_rfl) ?_ _
    exact HQ.out _ ob_ nb_ a1 c1 a2 c2 _ rfl rfl rfl rfl rfl rfl rfl ⟨⟨y1,y2⟩,E.out⟩
   ·intro K' hK
    have BW:=hidE (blk_alloc w2 [.int .i64 0,.int .i64 0,.int .i64 0,.slice none 0 0] 78)
    have hS3:=hS2.alloc hS2.size (.cells #[.int .i64 0,.int .i64 0,.int .i64 0,.slice none 0 0] 78)
    have HB2:=hidE (below_alloc w2 (.cells #[.int .i64 0,.int .i64 0,.int .i64 0,.slice none 0 0] 78))
    go_simp
    refine hK _ _ ⟨hS3,?_⟩
    clear hK
    have ynb_ : Hid (w.heap.size ≤ w2.heap.size):=hS2.size
    generalize hgnb_ : w2.heap.size = nb_ at *
    have hS3' : Hid (Below w.heap.size w (w2.alloc (.cells #[.int .i64 0,.int .i64 0,.int .i64 0,.slice none 0 0] 78))):=hS3
    generalize w2.alloc (.cells #[.int .i64 0,.int .i64 0,.int .i64 0,.slice none 0 0] 78) = w3 at *
    have hS3:=hS3'.out
    have z2 : nb_ < w3.heap.size:=BW.out.lt
    clear hS3'
    refine held_go (i:=8) (L:=#[true,true,true,true,true,true,true,true,true,true,false,false]) (by kernel_rfl) rfl (by kernel_rfl) (by kernel_rfl) ?_
    intro K' hK
    have BT:=hidE (blk_alloc w3 [.int .i64 0,.int .i64 0,.int .i64 0,.slice none 0 0] 78)
    have hS4:=hS3.alloc hS3.size (.cells #[.int .i64 0,.int .i64 0,.int .i64 0,.slice none 0 0] 78)
    have HB3:=hidE (below_alloc w3 (.cells #[.int .i64 0,.int .i64 0,.int .i64 0,.slice none 0 0] 78))
    go_simp
    refine hK _ _ ⟨hS4,?_⟩
    clear hK
    have yob_ : Hid (w.heap.size ≤ w3.heap.size):=hS3.size
    generalize hgob_ : w3.heap.size = ob_ at *
    have hS4' : Hid (Below w.heap.size w (w3.alloc (.cells #[.int .i64 0,.int .i64 0,.int .i64 0,.slice none 0 0] 78))):=hS4
    generalize w3.alloc (.cells #[.int .i64 0,.int .i64 0,.int .i64 0,.slice none 0 0] 78) = w4 at *
    have hS4:=hS4'.out
    have z3 : ob_ < w4.heap.size:=BT.out.lt
    clear hS4'
    have BTe:=BT.out
    have BWe:=BW.out
    have BWe:=blk_bel BWe (by rw [hgob_];exact HB3.out)
    have O1:=HOO.out
    have O1:=own_keep O1 HB1.out (Nat.le_refl _)
    have O1:=own_keep O1 (by rw [hgnb_];exact HB2.out) (Nat.le_refl _)
    have O1:=own_keep O1 (by rw [hgob_];exact HB3.out) (Nat.le_refl _)
    have O2:=HON.out
    have O2:=own_keep O2 (by rw [hgnb_];exact HB2.out) (Nat.le_refl _)
    have O2:=own_keep O2 (by rw [hgob_];exact HB3.out) (Nat.le_refl _)
    have y1:=yob_.out
    have y2:=ynb_.out
    have hne : ob_ ≠ nb_:=by omega
    have dO : ∀ k,(Value.slice a1 wac.length c1).ownBlock = some k → k ≠ ob_ ∧ k ≠ nb_:=fun k hk => by have:=HQO.out k hk;omega
    have dN : ∀ k,(Value.slice a2 pac.length c2).ownBlock = some k → k ≠ ob_ ∧ k ≠ nb_:=fun k hk => by have:=HQN.out k hk;omega
    have E:=hidE (r5_end (xs:=ws) (ys:=wk) (zs:=wn) (xt:=pst) (yt:=pk) (zt:=pn) hS4 hne y1 y2 BTe BWe O1 O2 dO dN)
    have t0:=BTe.c 0 (by simp)
    have t1:=BTe.c 1 (by simp)
    have t2:=BTe.c 2 (by simp)
    have t3:=BTe.c 3 (by simp)
    have g0:=BTe.fz 0
    have g1:=BTe.fz 1
    have g2:=BTe.fz 2
    have g3:=BTe.fz 3
    have sT:=((((hS4.setCell (p:=⟨ob_,0,none⟩) y1 (.int .i64 ws)).setCell (p:=⟨ob_,1,none⟩) y1 (.int .i64 wk)).setCell (p:=⟨ob_,2,none⟩) y1 (.int .i64 wn)).setCell (p:=⟨ob_,3,none⟩) y1 (.slice a1 wac.length c1))
    have X:=blk_kept BWe (keptB_set (keptB_set (keptB_set (keptB_set (keptB_of_below (bad:=fun k => k = ob_) (Below.refl _ _)) (g:=ob_) rfl 0 (.int .i64 ws)) (g:=ob_) rfl 1 (.int .i64 wk)) (g:=ob_) rfl 2 (.int .i64 wn)) (g:=ob_) rfl 3 (.slice a1 wac.length c1)) (fun e => hne e.symm)
    have d0:=X.c 0 (by simp)
    have d1:=X.c 1 (by simp)
    have d2:=X.c 2 (by simp)
    have d3:=X.c 3 (by simp)
    have e0:=X.fz 0
    have e1:=X.fz 1
    have e2:=X.fz 2
    have e3:=X.fz 3
    have sW:=((((sT.setCell (p:=⟨nb_,0,none⟩) y2 (.int .i64 pst)).setCell (p:=⟨nb_,1,none⟩) y2 (.int .i64 pk)).setCell (p:=⟨nb_,2,none⟩) y2 (.int .i64 pn)).setCell (p:=⟨nb_,3,none⟩) y2 (.slice a2 pac.length c2))
    clear BTe BWe O1 O2 dO dN X
    refine held_go (i:=10) (L:=#[true,true,true,true,true,true,true,true,true,true,true,false]) (by kernel_rfl) rfl (by kernel_rfl) (by kernel_rfl) ?_
    intro K' hK
    go_simp
    refine hK _ _ ⟨sT,?_⟩
    clear hK
    refine held_go (i:=11) (L:=#[true,true,true,true,true,true,true,true,true,true,true,true]) (by kernel_rfl) rfl (by kernel_rfl) (by kernel_rfl) ?_
    intro K' hK
    go_simp
    refine hK _ _ ⟨sW,?_⟩
    clear hK
    refine wpAnyH_done (by kernel_rfl) ?_ _
    exact HQ.out _ ob_ nb_ a1 c1 a2 c2 _ rfl rfl rfl rfl rfl rfl rfl ⟨⟨y1,y2⟩,E.out⟩
  ·intro K' hK
   have BT:=hidE (blk_alloc w1 [.int .i64 0,.int .i64 0,.int .i64 0,.slice none 0 0] 78)
   have hS2:=hS1.alloc hS1.size (.cells #[.int .i64 0,.int .i64 0,.int .i64 0,.slice none 0 0] 78)
   have HB1:=hidE (below_alloc w1 (.cells #[.int .i64 0,.int .i64 0,.int .i64 0,.slice none 0 0] 78))
   go_simp
   refine hK _ _ ⟨hS2,?_⟩
   clear hK
   have yob_ : Hid (w.heap.size ≤ w1.heap.size):=hS1.size
   generalize hgob_ : w1.heap.size = ob_ at *
   have hS2' : Hid (Below w.heap.size w (w1.alloc (.cells #[.int .i64 0,.int .i64 0,.int .i64 0,.slice none 0 0] 78))):=hS2
   generalize w1.alloc (.cells #[.int .i64 0,.int .i64 0,.int .i64 0,.slice none 0 0] 78) = w2 at *
   have hS2:=hS2'.out
   have z1 : ob_ < w2.heap.size:=BT.out.lt
   clear hS2'
   refine held_two (i:=7) (j:=9) (Li:=#[true,true,true,true,true,true,true,true,true,false,false,false]) (Lj:=#[true,true,true,true,true,true,true,false,true,true,false,false]) (by kernel_rfl) rfl rfl (by kernel_rfl) (by kernel_rfl) (by kernel_rfl) (by kernel_rfl) ?_ ?_
   ·intro K' hK
    go_simp
    refine (NO.out _ hS2).mono ?_
    rintro e w3 ⟨u2,rfl,ho9,hb⟩
    have hS3:=hS2.trans (hb.mono hS2.size)
    have HQN:=hidE (own_at ho9)
    obtain ⟨a2,c2,rfl⟩:=owns_shapeE ho9
    have HON:=hidE (owns_baseG ho9 hS2.size)
    have HB2:=hidE hb
    have z2:=hb.size
    refine hK _ _ ⟨hS3,?_⟩
    clear hK ho9 hb
    refine held_go (i:=9) (L:=#[true,true,true,true,true,true,true,true,true,true,false,false]) (by kernel_rfl) rfl (by kernel_rfl) (by kernel_rfl) ?_
    intro K' hK
    have BW:=hidE (blk_alloc w3 [.int .i64 0,.int .i64 0,.int .i64 0,.slice none 0 0] 78)
    have hS4:=hS3.alloc hS3.size (.cells #[.int .i64 0,.int .i64 0,.int .i64 0,.slice none 0 0] 78)
    have HB3:=hidE (below_alloc w3 (.cells #[.int .i64 0,.int .i64 0,.int .i64 0,.slice none 0 0] 78))
    go_simp
    refine hK _ _ ⟨hS4,?_⟩
    clear hK
    have ynb_ : Hid (w.heap.size ≤ w3.heap.size):=hS3.size
    generalize hgnb_ : w3.heap.size = nb_ at *
    have hS4' : Hid (Below w.heap.size w (w3.alloc (.cells #[.int .i64 0,.int .i64 0,.int .i64 0,.slice none 0 0] 78))):=hS4
    generalize w3.alloc (.cells #[.int .i64 0,.int .i64 0,.int .i64 0,.slice none 0 0] 78) = w4 at *
    have hS4:=hS4'.out
    have z3 : nb_ < w4.heap.size:=BW.out.lt
    clear hS4'
    have BTe:=BT.out
    have BTe:=blk_bel BTe HB2.out
    have BTe:=blk_bel BTe (by rw [hgnb_];exact HB3.out)
    have BWe:=BW.out
    have O1:=HOO.out
    have O1:=own_keep O1 (by rw [hgob_];exact HB1.out) (Nat.le_refl _)
    have O1:=own_keep O1 HB2.out (Nat.le_refl _)
    have O1:=own_keep O1 (by rw [hgnb_];exact HB3.out) (Nat.le_refl _)
    have O2:=HON.out
    have O2:=own_keep O2 (by rw [hgnb_];exact HB3.out) (Nat.le_refl _)
    have y1:=yob_.out
    have y2:=ynb_.out
    have hne : ob_ ≠ nb_:=by omega
    have dO : ∀ k,(Value.slice a1 wac.length c1).ownBlock = some k → k ≠ ob_ ∧ k ≠ nb_:=fun k hk => by have:=HQO.out k hk;omega
    have dN : ∀ k,(Value.slice a2 pac.length c2).ownBlock = some k → k ≠ ob_ ∧ k ≠ nb_:=fun k hk => by have:=HQN.out k hk;omega
    have E:=hidE (r5_end (xs:=ws) (ys:=wk) (zs:=wn) (xt:=pst) (yt:=pk) (zt:=pn) hS4 hne y1 y2 BTe BWe O1 O2 dO dN)
    have t0:=BTe.c 0 (by simp)
    have t1:=BTe.c 1 (by simp)
    have t2:=BTe.c 2 (by simp)
    have t3:=BTe.c 3 (by simp)
    have g0:=BTe.fz 0
    have g1:=BTe.fz 1
    have g2:=BTe.fz 2
    have g3:=BTe.fz 3
    have sT:=((((hS4.setCell (p:=⟨ob_,0,none⟩) y1 (.int .i64 ws)).setCell (p:=⟨ob_,1,none⟩) y1 (.int .i64 wk)).setCell (p:=⟨ob_,2,none⟩) y1 (.int .i64 wn)).setCell (p:=⟨ob_,3,none⟩) y1 (.slice a1 wac.length c1))
    have X:=blk_kept BWe (keptB_set (keptB_set (keptB_set (keptB_set (keptB_of_below (bad:=fun k => k = ob_) (Below.refl _ _)) (g:=ob_) rfl 0 (.int .i64 ws)) (g:=ob_) rfl 1 (.int .i64 wk)) (g:=ob_) rfl 2 (.int .i64 wn)) (g:=ob_) rfl 3 (.slice a1 wac.length c1)) (fun e => hne e.symm)
    have d0:=X.c 0 (by simp)
    have d1:=X.c 1 (by simp)
    have d2:=X.c 2 (by simp)
    have d3:=X.c 3 (by simp)
    have e0:=X.fz 0
    have e1:=X.fz 1
    have e2:=X.fz 2
    have e3:=X.fz 3
    have sW:=((((sT.setCell (p:=⟨nb_,0,none⟩) y2 (.int .i64 pst)).setCell (p:=⟨nb_,1,none⟩) y2 (.int .i64 pk)).setCell (p:=⟨nb_,2,none⟩) y2 (.int .i64 pn)).setCell (p:=⟨nb_,3,none⟩) y2 (.slice a2 pac.length c2))
    clear BTe BWe O1 O2 dO dN X
    refine held_go (i:=10) (L:=#[true,true,true,true,true,true,true,true,true,true,true,false]) (by kernel_rfl) rfl (by kernel_rfl) (by kernel_rfl) ?_
    intro K' hK
    go_simp
    refine hK _ _ ⟨sT,?_⟩
    clear hK
    refine held_go (i:=11) (L:=#[true,true,true,true,true,true,true,true,true,true,true,true]) (by kernel_rfl) rfl (by kernel_rfl) (by kernel_rfl) ?_
    intro K' hK
    go_simp
    refine hK _ _ ⟨sW,?_⟩
    clear hK
    refine wpAnyH_done (by kernel_rfl) ?_ _
    exact HQ.out _ ob_ nb_ a1 c1 a2 c2 _ rfl rfl rfl rfl rfl rfl rfl ⟨⟨y1,y2⟩,E.out⟩
   ·intro K' hK
    have BW:=hidE (blk_alloc w2 [.int .i64 0,.int .i64 0,.int .i64 0,.slice none 0 0] 78)
    have hS3:=hS2.alloc hS2.size (.cells #[.int .i64 0,.int .i64 0,.int .i64 0,.slice none 0 0] 78)
    have HB2:=hidE (below_alloc w2 (.cells #[.int .i64 0,.int .i64 0,.int .i64 0,.slice none 0 0] 78))
    go_simp
    refine hK _ _ ⟨hS3,?_⟩
    clear hK
    have ynb_ : Hid (w.heap.size ≤ w2.heap.size):=hS2.size
    generalize hgnb_ : w2.heap.size = nb_ at *
    have hS3' : Hid (Below w.heap.size w (w2.alloc (.cells #[.int .i64 0,.int .i64 0,.int .i64 0,.slice none 0 0] 78))):=hS3
    generalize w2.alloc (.cells #[.int .i64 0,.int .i64 0,.int .i64 0,.slice none 0 0] 78) = w3 at *
    have hS3:=hS3'.out
    have z2 : nb_ < w3.heap.size:=BW.out.lt
    clear hS3'
    refine held_go (i:=7) (L:=#[true,true,true,true,true,true,true,true,true,true,false,false]) (by kernel_rfl) rfl (by kernel_rfl) (by kernel_rfl) ?_
    intro K' hK
    go_simp
    refine (NO.out _ hS3).mono ?_
    rintro e w4 ⟨u2,rfl,ho9,hb⟩
    have hS4:=hS3.trans (hb.mono hS3.size)
    have HQN:=hidE (own_at ho9)
    obtain ⟨a2,c2,rfl⟩:=owns_shapeE ho9
    have HON:=hidE (owns_baseG ho9 hS3.size)
    have HB3:=hidE hb
    have z3:=hb.size
    refine hK _ _ ⟨hS4,?_⟩
    clear hK ho9 hb
    have BTe:=BT.out
    have BTe:=blk_bel BTe (by rw [hgnb_];exact HB2.out)
    have BTe:=blk_bel BTe HB3.out
    have BWe:=BW.out
    have BWe:=blk_bel BWe HB3.out
    have O1:=HOO.out
    have O1:=own_keep O1 (by rw [hgob_];exact HB1.out) (Nat.le_refl _)
    have O1:=own_keep O1 (by rw [hgnb_];exact HB2.out) (Nat.le_refl _)
    have O1:=own_keep O1 HB3.out (Nat.le_refl _)
    have O2:=HON.out
    have y1:=yob_.out
    have y2:=ynb_.out
    have hne : ob_ ≠ nb_:=by omega
    have dO : ∀ k,(Value.slice a1 wac.length c1).ownBlock = some k → k ≠ ob_ ∧ k ≠ nb_:=fun k hk => by have:=HQO.out k hk;omega
    have dN : ∀ k,(Value.slice a2 pac.length c2).ownBlock = some k → k ≠ ob_ ∧ k ≠ nb_:=fun k hk => by have:=HQN.out k hk;omega
    have E:=hidE (r5_end (xs:=ws) (ys:=wk) (zs:=wn) (xt:=pst) (yt:=pk) (zt:=pn) hS4 hne y1 y2 BTe BWe O1 O2 dO dN)
    have t0:=BTe.c 0 (by simp)
    have t1:=BTe.c 1 (by simp)
    have t2:=BTe.c 2 (by simp)
    have t3:=BTe.c 3 (by simp)
    have g0:=BTe.fz 0
    have g1:=BTe.fz 1
    have g2:=BTe.fz 2
    have g3:=BTe.fz 3
    have sT:=((((hS4.setCell (p:=⟨ob_,0,none⟩) y1 (.int .i64 ws)).setCell (p:=⟨ob_,1,none⟩) y1 (.int .i64 wk)).setCell (p:=⟨ob_,2,none⟩) y1 (.int .i64 wn)).setCell (p:=⟨ob_,3,none⟩) y1 (.slice a1 wac.length c1))
    have X:=blk_kept BWe (keptB_set (keptB_set (keptB_set (keptB_set (keptB_of_below (bad:=fun k => k = ob_) (Below.refl _ _)) (g:=ob_) rfl 0 (.int .i64 ws)) (g:=ob_) rfl 1 (.int .i64 wk)) (g:=ob_) rfl 2 (.int .i64 wn)) (g:=ob_) rfl 3 (.slice a1 wac.length c1)) (fun e => hne e.symm)
    have d0:=X.c 0 (by simp)
    have d1:=X.c 1 (by simp)
    have d2:=X.c 2 (by simp)
    have d3:=X.c 3 (by simp)
    have e0:=X.fz 0
    have e1:=X.fz 1
    have e2:=X.fz 2
    have e3:=X.fz 3
    have sW:=((((sT.setCell (p:=⟨nb_,0,none⟩) y2 (.int .i64 pst)).setCell (p:=⟨nb_,1,none⟩) y2 (.int .i64 pk)).setCell (p:=⟨nb_,2,none⟩) y2 (.int .i64 pn)).setCell (p:=⟨nb_,3,none⟩) y2 (.slice a2 pac.length c2))
    clear BTe BWe O1 O2 dO dN X
    refine held_go (i:=10) (L:=#[true,true,true,true,true,true,true,true,true,true,true,false]) (by kernel_rfl) rfl (by kernel_rfl) (by kernel_rfl) ?_
    intro K' hK
    go_simp
    refine hK _ _ ⟨sT,?_⟩
    clear hK
    refine held_go (i:=11) (L:=#[true,true,true,true,true,true,true,true,true,true,true,true]) (by kernel_rfl) rfl (by kernel_rfl) (by kernel_rfl) ?_
    intro K' hK
    go_simp
    refine hK _ _ ⟨sW,?_⟩
    clear hK
    refine wpAnyH_done (by kernel_rfl) ?_ _
    exact HQ.out _ ob_ nb_ a1 c1 a2 c2 _ rfl rfl rfl rfl rfl rfl rfl ⟨⟨y1,y2⟩,E.out⟩
  ·intro K' hK
   have BW:=hidE (blk_alloc w1 [.int .i64 0,.int .i64 0,.int .i64 0,.slice none 0 0] 78)
   have hS2:=hS1.alloc hS1.size (.cells #[.int .i64 0,.int .i64 0,.int .i64 0,.slice none 0 0] 78)
   have HB1:=hidE (below_alloc w1 (.cells #[.int .i64 0,.int .i64 0,.int .i64 0,.slice none 0 0] 78))
   go_simp
   refine hK _ _ ⟨hS2,?_⟩
   clear hK
   have ynb_ : Hid (w.heap.size ≤ w1.heap.size):=hS1.size
   generalize hgnb_ : w1.heap.size = nb_ at *
   have hS2' : Hid (Below w.heap.size w (w1.alloc (.cells #[.int .i64 0,.int .i64 0,.int .i64 0,.slice none 0 0] 78))):=hS2
   generalize w1.alloc (.cells #[.int .i64 0,.int .i64 0,.int .i64 0,.slice none 0 0] 78) = w2 at *
   have hS2:=hS2'.out
   have z1 : nb_ < w2.heap.size:=BW.out.lt
   clear hS2'
   refine held_two (i:=7) (j:=8) (Li:=#[true,true,true,true,true,true,true,true,false,true,false,false]) (Lj:=#[true,true,true,true,true,true,true,false,true,true,false,false]) (by kernel_rfl) rfl rfl (by kernel_rfl) (by kernel_rfl) (by kernel_rfl) (by kernel_rfl) ?_ ?_
   ·intro K' hK
    go_simp
    refine (NO.out _ hS2).mono ?_
    rintro e w3 ⟨u2,rfl,ho9,hb⟩
    have hS3:=hS2.trans (hb.mono hS2.size)
    have HQN:=hidE (own_at ho9)
    obtain ⟨a2,c2,rfl⟩:=owns_shapeE ho9
    have HON:=hidE (owns_baseG ho9 hS2.size)
    have HB2:=hidE hb
    have z2:=hb.size
    refine hK _ _ ⟨hS3,?_⟩
    clear hK ho9 hb
    refine held_go (i:=8) (L:=#[true,true,true,true,true,true,true,true,true,true,false,false]) (by kernel_rfl) rfl (by kernel_rfl) (by kernel_rfl) ?_
    intro K' hK
    have BT:=hidE (blk_alloc w3 [.int .i64 0,.int .i64 0,.int .i64 0,.slice none 0 0] 78)
    have hS4:=hS3.alloc hS3.size (.cells #[.int .i64 0,.int .i64 0,.int .i64 0,.slice none 0 0] 78)
    have HB3:=hidE (below_alloc w3 (.cells #[.int .i64 0,.int .i64 0,.int .i64 0,.slice none 0 0] 78))
    go_simp
    refine hK _ _ ⟨hS4,?_⟩
    clear hK
    have yob_ : Hid (w.heap.size ≤ w3.heap.size):=hS3.size
    generalize hgob_ : w3.heap.size = ob_ at *
    have hS4' : Hid (Below w.heap.size w (w3.alloc (.cells #[.int .i64 0,.int .i64 0,.int .i64 0,.slice none 0 0] 78))):=hS4
    generalize w3.alloc (.cells #[.int .i64 0,.int .i64 0,.int .i64 0,.slice none 0 0] 78) = w4 at *
    have hS4:=hS4'.out
    have z3 : ob_ < w4.heap.size:=BT.out.lt
    clear hS4'
    have BTe:=BT.out
    have BWe:=BW.out
    have BWe:=blk_bel BWe HB2.out
    have BWe:=blk_bel BWe (by rw [hgob_];exact HB3.out)
    have O1:=HOO.out
    have O1:=own_keep O1 (by rw [hgnb_];exact HB1.out) (Nat.le_refl _)
    have O1:=own_keep O1 HB2.out (Nat.le_refl _)
    have O1:=own_keep O1 (by rw [hgob_];exact HB3.out) (Nat.le_refl _)
    have O2:=HON.out
    have O2:=own_keep O2 (by rw [hgob_];exact HB3.out) (Nat.le_refl _)
    have y1:=yob_.out
    have y2:=ynb_.out
    have hne : ob_ ≠ nb_:=by omega
    have dO : ∀ k,(Value.slice a1 wac.length c1).ownBlock = some k → k ≠ ob_ ∧ k ≠ nb_:=fun k hk => by have:=HQO.out k hk;omega
    have dN : ∀ k,(Value.slice a2 pac.length c2).ownBlock = some k → k ≠ ob_ ∧ k ≠ nb_:=fun k hk => by have:=HQN.out k hk;omega
    have E:=hidE (r5_end (xs:=ws) (ys:=wk) (zs:=wn) (xt:=pst) (yt:=pk) (zt:=pn) hS4 hne y1 y2 BTe BWe O1 O2 dO dN)
    have t0:=BTe.c 0 (by simp)
    have t1:=BTe.c 1 (by simp)
    have t2:=BTe.c 2 (by simp)
    have t3:=BTe.c 3 (by simp)
    have g0:=BTe.fz 0
    have g1:=BTe.fz 1
    have g2:=BTe.fz 2
    have g3:=BTe.fz 3
    have sT:=((((hS4.setCell (p:=⟨ob_,0,none⟩) y1 (.int .i64 ws)).setCell (p:=⟨ob_,1,none⟩) y1 (.int .i64 wk)).setCell (p:=⟨ob_,2,none⟩) y1 (.int .i64 wn)).setCell (p:=⟨ob_,3,none⟩) y1 (.slice a1 wac.length c1))
    have X:=blk_kept BWe (keptB_set (keptB_set (keptB_set (keptB_set (keptB_of_below (bad:=fun k => k = ob_) (Below.refl _ _)) (g:=ob_) rfl 0 (.int .i64 ws)) (g:=ob_) rfl 1 (.int .i64 wk)) (g:=ob_) rfl 2 (.int .i64 wn)) (g:=ob_) rfl 3 (.slice a1 wac.length c1)) (fun e => hne e.symm)
    have d0:=X.c 0 (by simp)
    have d1:=X.c 1 (by simp)
    have d2:=X.c 2 (by simp)
    have d3:=X.c 3 (by simp)
    have e0:=X.fz 0
    have e1:=X.fz 1
    have e2:=X.fz 2
    have e3:=X.fz 3
    have sW:=((((sT.setCell (p:=⟨nb_,0,none⟩) y2 (.int .i64 pst)).setCell (p:=⟨nb_,1,none⟩) y2 (.int .i64 pk)).setCell (p:=⟨nb_,2,none⟩) y2 (.int .i64 pn)).setCell (p:=⟨nb_,3,none⟩) y2 (.slice a2 pac.length c2))
    clear BTe BWe O1 O2 dO dN X
    refine held_go (i:=10) (L:=#[true,true,true,true,true,true,true,true,true,true,true,false]) (by kernel_rfl) rfl (by kernel_rfl) (by kernel_rfl) ?_
    intro K' hK
    go_simp
    refine hK _ _ ⟨sT,?_⟩
    clear hK
    refine held_go (i:=11) (L:=#[true,true,true,true,true,true,true,true,true,true,true,true]) (by kernel_rfl) rfl (by kernel_rfl) (by kernel_rfl) ?_
    intro K' hK
    go_simp
    refine hK _ _ ⟨sW,?_⟩
    clear hK
    refine wpAnyH_done (by kernel_rfl) ?_ _
    exact HQ.out _ ob_ nb_ a1 c1 a2 c2 _ rfl rfl rfl rfl rfl rfl rfl ⟨⟨y1,y2⟩,E.out⟩
   ·intro K' hK
    have BT:=hidE (blk_alloc w2 [.int .i64 0,.int .i64 0,.int .i64 0,.slice none 0 0] 78)
    have hS3:=hS2.alloc hS2.size (.cells #[.int .i64 0,.int .i64 0,.int .i64 0,.slice none 0 0] 78)
    have HB2:=hidE (below_alloc w2 (.cells #[.int .i64 0,.int .i64 0,.int .i64 0,.slice none 0 0] 78))
    go_simp
    refine hK _ _ ⟨hS3,?_⟩
    clear hK
    have yob_ : Hid (w.heap.size ≤ w2.heap.size):=hS2.size
    generalize hgob_ : w2.heap.size = ob_ at *
    have hS3' : Hid (Below w.heap.size w (w2.alloc (.cells #[.int .i64 0,.int .i64 0,.int .i64 0,.slice none 0 0] 78))):=hS3
    generalize w2.alloc (.cells #[.int .i64 0,.int .i64 0,.int .i64 0,.slice none 0 0] 78) = w3 at *
    have hS3:=hS3'.out
    have z2 : ob_ < w3.heap.size:=BT.out.lt
    clear hS3'
    refine held_go (i:=7) (L:=#[true,true,true,true,true,true,true,true,true,true,false,false]) (by kernel_rfl) rfl (by kernel_rfl) (by kernel_rfl) ?_
    intro K' hK
    go_simp
    refine (NO.out _ hS3).mono ?_
    rintro e w4 ⟨u2,rfl,ho9,hb⟩
    have hS4:=hS3.trans (hb.mono hS3.size)
    have HQN:=hidE (own_at ho9)
    obtain ⟨a2,c2,rfl⟩:=owns_shapeE ho9
    have HON:=hidE (owns_baseG ho9 hS3.size)
    have HB3:=hidE hb
    have z3:=hb.size
    refine hK _ _ ⟨hS4,?_⟩
    clear hK ho9 hb
    have BTe:=BT.out
    have BTe:=blk_bel BTe HB3.out
    have BWe:=BW.out
    have BWe:=blk_bel BWe (by rw [hgob_];exact HB2.out)
    have BWe:=blk_bel BWe HB3.out
    have O1:=HOO.out
    have O1:=own_keep O1 (by rw [hgnb_];exact HB1.out) (Nat.le_refl _)
    have O1:=own_keep O1 (by rw [hgob_];exact HB2.out) (Nat.le_refl _)
    have O1:=own_keep O1 HB3.out (Nat.le_refl _)
    have O2:=HON.out
    have y1:=yob_.out
    have y2:=ynb_.out
    have hne : ob_ ≠ nb_:=by omega
    have dO : ∀ k,(Value.slice a1 wac.length c1).ownBlock = some k → k ≠ ob_ ∧ k ≠ nb_:=fun k hk => by have:=HQO.out k hk;omega
    have dN : ∀ k,(Value.slice a2 pac.length c2).ownBlock = some k → k ≠ ob_ ∧ k ≠ nb_:=fun k hk => by have:=HQN.out k hk;omega
    have E:=hidE (r5_end (xs:=ws) (ys:=wk) (zs:=wn) (xt:=pst) (yt:=pk) (zt:=pn) hS4 hne y1 y2 BTe BWe O1 O2 dO dN)
    have t0:=BTe.c 0 (by simp)
    have t1:=BTe.c 1 (by simp)
    have t2:=BTe.c 2 (by simp)
    have t3:=BTe.c 3 (by simp)
    have g0:=BTe.fz 0
    have g1:=BTe.fz 1
    have g2:=BTe.fz 2
    have g3:=BTe.fz 3
    have sT:=((((hS4.setCell (p:=⟨ob_,0,none⟩) y1 (.int .i64 ws)).setCell (p:=⟨ob_,1,none⟩) y1 (.int .i64 wk)).setCell (p:=⟨ob_,2,none⟩) y1 (.int .i64 wn)).setCell (p:=⟨ob_,3,none⟩) y1 (.slice a1 wac.length c1))
    have X:=blk_kept BWe (keptB_set (keptB_set (keptB_set (keptB_set (keptB_of_below (bad:=fun k => k = ob_) (Below.refl _ _)) (g:=ob_) rfl 0 (.int .i64 ws)) (g:=ob_) rfl 1 (.int .i64 wk)) (g:=ob_) rfl 2 (.int .i64 wn)) (g:=ob_) rfl 3 (.slice a1 wac.length c1)) (fun e => hne e.symm)
    have d0:=X.c 0 (by simp)
    have d1:=X.c 1 (by simp)
    have d2:=X.c 2 (by simp)
    have d3:=X.c 3 (by simp)
    have e0:=X.fz 0
    have e1:=X.fz 1
    have e2:=X.fz 2
    have e3:=X.fz 3
    have sW:=((((sT.setCell (p:=⟨nb_,0,none⟩) y2 (.int .i64 pst)).setCell (p:=⟨nb_,1,none⟩) y2 (.int .i64 pk)).setCell (p:=⟨nb_,2,none⟩) y2 (.int .i64 pn)).setCell (p:=⟨nb_,3,none⟩) y2 (.slice a2 pac.length c2))
    clear BTe BWe O1 O2 dO dN X
    refine held_go (i:=10) (L:=#[true,true,true,true,true,true,true,true,true,true,true,false]) (by kernel_rfl) rfl (by kernel_rfl) (by kernel_rfl) ?_
    intro K' hK
    go_simp
    refine hK _ _ ⟨sT,?_⟩
    clear hK
    refine held_go (i:=11) (L:=#[true,true,true,true,true,true,true,true,true,true,true,true]) (by kernel_rfl) rfl (by kernel_rfl) (by kernel_rfl) ?_
    intro K' hK
    go_simp
    refine hK _ _ ⟨sW,?_⟩
    clear hK
    refine wpAnyH_done (by kernel_rfl) ?_ _
    exact HQ.out _ ob_ nb_ a1 c1 a2 c2 _ rfl rfl rfl rfl rfl rfl rfl ⟨⟨y1,y2⟩,E.out⟩
 ·intro K' hK
  have BT:=hidE (blk_alloc wd [.int .i64 0,.int .i64 0,.int .i64 0,.slice none 0 0] 78)
  have hS1:=hS.alloc hS.size (.cells #[.int .i64 0,.int .i64 0,.int .i64 0,.slice none 0 0] 78)
  have HB0:=hidE (below_alloc wd (.cells #[.int .i64 0,.int .i64 0,.int .i64 0,.slice none 0 0] 78))
  go_simp
  refine hK _ _ ⟨hS1,?_⟩
  clear hK
  have yob_ : Hid (w.heap.size ≤ wd.heap.size):=hS.size
  generalize hgob_ : wd.heap.size = ob_ at *
  have hS1' : Hid (Below w.heap.size w (wd.alloc (.cells #[.int .i64 0,.int .i64 0,.int .i64 0,.slice none 0 0] 78))):=hS1
  generalize wd.alloc (.cells #[.int .i64 0,.int .i64 0,.int .i64 0,.slice none 0 0] 78) = w1 at *
  have hS1:=hS1'.out
  have z0 : ob_ < w1.heap.size:=BT.out.lt
  clear hS1'
  refine held_two (i:=1) (j:=9) (Li:=#[true,true,true,true,true,true,true,false,true,false,false,false]) (Lj:=#[true,false,true,true,true,true,true,false,true,true,false,false]) (by kernel_rfl) rfl rfl (by kernel_rfl) (by kernel_rfl) (by kernel_rfl) (by kernel_rfl) ?_ ?_
  ·intro K' hK
   go_simp
   refine (OO.out _ hS1).mono ?_
   rintro e w2 ⟨u1,rfl,ho9,hb⟩
   have hS2:=hS1.trans (hb.mono hS1.size)
   have HQO:=hidE (own_at ho9)
   obtain ⟨a1,c1,rfl⟩:=owns_shapeE ho9
   have HOO:=hidE (owns_baseG ho9 hS1.size)
   have HB1:=hidE hb
   have z1:=hb.size
   refine hK _ _ ⟨hS2,?_⟩
   clear hK ho9 hb
   refine held_two (i:=7) (j:=9) (Li:=#[true,true,true,true,true,true,true,true,true,false,false,false]) (Lj:=#[true,true,true,true,true,true,true,false,true,true,false,false]) (by kernel_rfl) rfl rfl (by kernel_rfl) (by kernel_rfl) (by kernel_rfl) (by kernel_rfl) ?_ ?_
   ·intro K' hK
    go_simp
    refine (NO.out _ hS2).mono ?_
    rintro e w3 ⟨u2,rfl,ho9,hb⟩
    have hS3:=hS2.trans (hb.mono hS2.size)
    have HQN:=hidE (own_at ho9)
    obtain ⟨a2,c2,rfl⟩:=owns_shapeE ho9
    have HON:=hidE (owns_baseG ho9 hS2.size)
    have HB2:=hidE hb
    have z2:=hb.size
    refine hK _ _ ⟨hS3,?_⟩
    clear hK ho9 hb
    refine held_go (i:=9) (L:=#[true,true,true,true,true,true,true,true,true,true,false,false]) (by kernel_rfl) rfl (by kernel_rfl) (by kernel_rfl) ?_
    intro K' hK
    have BW:=hidE (blk_alloc w3 [.int .i64 0,.int .i64 0,.int .i64 0,.slice none 0 0] 78)
    have hS4:=hS3.alloc hS3.size (.cells #[.int .i64 0,.int .i64 0,.int .i64 0,.slice none 0 0] 78)
    have HB3:=hidE (below_alloc w3 (.cells #[.int .i64 0,.int .i64 0,.int .i64 0,.slice none 0 0] 78))
    go_simp
    refine hK _ _ ⟨hS4,?_⟩
    clear hK
    have ynb_ : Hid (w.heap.size ≤ w3.heap.size):=hS3.size
    generalize hgnb_ : w3.heap.size = nb_ at *
    have hS4' : Hid (Below w.heap.size w (w3.alloc (.cells #[.int .i64 0,.int .i64 0,.int .i64 0,.slice none 0 0] 78))):=hS4
    generalize w3.alloc (.cells #[.int .i64 0,.int .i64 0,.int .i64 0,.slice none 0 0] 78) = w4 at *
    have hS4:=hS4'.out
    have z3 : nb_ < w4.heap.size:=BW.out.lt
    clear hS4'
    have BTe:=BT.out
    have BTe:=blk_bel BTe HB1.out
    have BTe:=blk_bel BTe HB2.out
    have BTe:=blk_bel BTe (by rw [hgnb_];exact HB3.out)
    have BWe:=BW.out
    have O1:=HOO.out
    have O1:=own_keep O1 HB2.out (Nat.le_refl _)
    have O1:=own_keep O1 (by rw [hgnb_];exact HB3.out) (Nat.le_refl _)
    have O2:=HON.out
    have O2:=own_keep O2 (by rw [hgnb_];exact HB3.out) (Nat.le_refl _)
    have y1:=yob_.out
    have y2:=ynb_.out
    have hne : ob_ ≠ nb_:=by omega
    have dO : ∀ k,(Value.slice a1 wac.length c1).ownBlock = some k → k ≠ ob_ ∧ k ≠ nb_:=fun k hk => by have:=HQO.out k hk;omega
    have dN : ∀ k,(Value.slice a2 pac.length c2).ownBlock = some k → k ≠ ob_ ∧ k ≠ nb_:=fun k hk => by have:=HQN.out k hk;omega
    have E:=hidE (r5_end (xs:=ws) (ys:=wk) (zs:=wn) (xt:=pst) (yt:=pk) (zt:=pn) hS4 hne y1 y2 BTe BWe O1 O2 dO dN)
    have t0:=BTe.c 0 (by simp)
    have t1:=BTe.c 1 (by simp)
    have t2:=BTe.c 2 (by simp)
    have t3:=BTe.c 3 (by simp)
    have g0:=BTe.fz 0
    have g1:=BTe.fz 1
    have g2:=BTe.fz 2
    have g3:=BTe.fz 3
    have sT:=((((hS4.setCell (p:=⟨ob_,0,none⟩) y1 (.int .i64 ws)).setCell (p:=⟨ob_,1,none⟩) y1 (.int .i64 wk)).setCell (p:=⟨ob_,2,none⟩) y1 (.int .i64 wn)).setCell (p:=⟨ob_,3,none⟩) y1 (.slice a1 wac.length c1))
    have X:=blk_kept BWe (keptB_set (keptB_set (keptB_set (keptB_set (keptB_of_below (bad:=fun k => k = ob_) (Below.refl _ _)) (g:=ob_) rfl 0 (.int .i64 ws)) (g:=ob_) rfl 1 (.int .i64 wk)) (g:=ob_) rfl 2 (.int .i64 wn)) (g:=ob_) rfl 3 (.slice a1 wac.length c1)) (fun e => hne e.symm)
    have d0:=X.c 0 (by simp)
    have d1:=X.c 1 (by simp)
    have d2:=X.c 2 (by simp)
    have d3:=X.c 3 (by simp)
    have e0:=X.fz 0
    have e1:=X.fz 1
    have e2:=X.fz 2
    have e3:=X.fz 3
    have sW:=((((sT.setCell (p:=⟨nb_,0,none⟩) y2 (.int .i64 pst)).setCell (p:=⟨nb_,1,none⟩) y2 (.int .i64 pk)).setCell (p:=⟨nb_,2,none⟩) y2 (.int .i64 pn)).setCell (p:=⟨nb_,3,none⟩) y2 (.slice a2 pac.length c2))
    clear BTe BWe O1 O2 dO dN X
    refine held_go (i:=10) (L:=#[true,true,true,true,true,true,true,true,true,true,true,false]) (by kernel_rfl) rfl (by kernel_rfl) (by kernel_rfl) ?_
    intro K' hK
    go_simp
    refine hK _ _ ⟨sT,?_⟩
    clear hK
    refine held_go (i:=11) (L:=#[true,true,true,true,true,true,true,true,true,true,true,true]) (by kernel_rfl) rfl (by kernel_rfl) (by kernel_rfl) ?_
    intro K' hK
    go_simp
    refine hK _ _ ⟨sW,?_⟩
    clear hK
    refine wpAnyH_done (by kernel_rfl) ?_ _
    exact HQ.out _ ob_ nb_ a1 c1 a2 c2 _ rfl rfl rfl rfl rfl rfl rfl ⟨⟨y1,y2⟩,E.out⟩
   ·intro K' hK
    have BW:=hidE (blk_alloc w2 [.int .i64 0,.int .i64 0,.int .i64 0,.slice none 0 0] 78)
    have hS3:=hS2.alloc hS2.size (.cells #[.int .i64 0,.int .i64 0,.int .i64 0,.slice none 0 0] 78)
    have HB2:=hidE (below_alloc w2 (.cells #[.int .i64 0,.int .i64 0,.int .i64 0,.slice none 0 0] 78))
    go_simp
    refine hK _ _ ⟨hS3,?_⟩
    clear hK
    have ynb_ : Hid (w.heap.size ≤ w2.heap.size):=hS2.size
    generalize hgnb_ : w2.heap.size = nb_ at *
    have hS3' : Hid (Below w.heap.size w (w2.alloc (.cells #[.int .i64 0,.int .i64 0,.int .i64 0,.slice none 0 0] 78))):=hS3
    generalize w2.alloc (.cells #[.int .i64 0,.int .i64 0,.int .i64 0,.slice none 0 0] 78) = w3 at *
    have hS3:=hS3'.out
    have z2 : nb_ < w3.heap.size:=BW.out.lt
    clear hS3'
    refine held_go (i:=7) (L:=#[true,true,true,true,true,true,true,true,true,true,false,false]) (by kernel_rfl) rfl (by kernel_rfl) (by kernel_rfl) ?_
    intro K' hK
    go_simp
    refine (NO.out _ hS3).mono ?_
    rintro e w4 ⟨u2,rfl,ho9,hb⟩
    have hS4:=hS3.trans (hb.mono hS3.size)
    have HQN:=hidE (own_at ho9)
    obtain ⟨a2,c2,rfl⟩:=owns_shapeE ho9
    have HON:=hidE (owns_baseG ho9 hS3.size)
    have HB3:=hidE hb
    have z3:=hb.size
    refine hK _ _ ⟨hS4,?_⟩
    clear hK ho9 hb
    have BTe:=BT.out
    have BTe:=blk_bel BTe HB1.out
    have BTe:=blk_bel BTe (by rw [hgnb_];exact HB2.out)
    have BTe:=blk_bel BTe HB3.out
    have BWe:=BW.out
    have BWe:=blk_bel BWe HB3.out
    have O1:=HOO.out
    have O1:=own_keep O1 (by rw [hgnb_];exact HB2.out) (Nat.le_refl _)
    have O1:=own_keep O1 HB3.out (Nat.le_refl _)
    have O2:=HON.out
    have y1:=yob_.out
    have y2:=ynb_.out
    have hne : ob_ ≠ nb_:=by omega
    have dO : ∀ k,(Value.slice a1 wac.length c1).ownBlock = some k → k ≠ ob_ ∧ k ≠ nb_:=fun k hk => by have:=HQO.out k hk;omega
    have dN : ∀ k,(Value.slice a2 pac.length c2).ownBlock = some k → k ≠ ob_ ∧ k ≠ nb_:=fun k hk => by have:=HQN.out k hk;omega
    have E:=hidE (r5_end (xs:=ws) (ys:=wk) (zs:=wn) (xt:=pst) (yt:=pk) (zt:=pn) hS4 hne y1 y2 BTe BWe O1 O2 dO dN)
    have t0:=BTe.c 0 (by simp)
    have t1:=BTe.c 1 (by simp)
    have t2:=BTe.c 2 (by simp)
    have t3:=BTe.c 3 (by simp)
    have g0:=BTe.fz 0
    have g1:=BTe.fz 1
    have g2:=BTe.fz 2
    have g3:=BTe.fz 3
    have sT:=((((hS4.setCell (p:=⟨ob_,0,none⟩) y1 (.int .i64 ws)).setCell (p:=⟨ob_,1,none⟩) y1 (.int .i64 wk)).setCell (p:=⟨ob_,2,none⟩) y1 (.int .i64 wn)).setCell (p:=⟨ob_,3,none⟩) y1 (.slice a1 wac.length c1))
    have X:=blk_kept BWe (keptB_set (keptB_set (keptB_set (keptB_set (keptB_of_below (bad:=fun k => k = ob_) (Below.refl _ _)) (g:=ob_) rfl 0 (.int .i64 ws)) (g:=ob_) rfl 1 (.int .i64 wk)) (g:=ob_) rfl 2 (.int .i64 wn)) (g:=ob_) rfl 3 (.slice a1 wac.length c1)) (fun e => hne e.symm)
    have d0:=X.c 0 (by simp)
    have d1:=X.c 1 (by simp)
    have d2:=X.c 2 (by simp)
    have d3:=X.c 3 (by simp)
    have e0:=X.fz 0
    have e1:=X.fz 1
    have e2:=X.fz 2
    have e3:=X.fz 3
    have sW:=((((sT.setCell (p:=⟨nb_,0,none⟩) y2 (.int .i64 pst)).setCell (p:=⟨nb_,1,none⟩) y2 (.int .i64 pk)).setCell (p:=⟨nb_,2,none⟩) y2 (.int .i64 pn)).setCell (p:=⟨nb_,3,none⟩) y2 (.slice a2 pac.length c2))
    clear BTe BWe O1 O2 dO dN X
    refine held_go (i:=10) (L:=#[true,true,true,true,true,true,true,true,true,true,true,false]) (by kernel_rfl) rfl (by kernel_rfl) (by kernel_rfl) ?_
    intro K' hK
    go_simp
    refine hK _ _ ⟨sT,?_⟩
    clear hK
    refine held_go (i:=11) (L:=#[true,true,true,true,true,true,true,true,true,true,true,true]) (by kernel_rfl) rfl (by kernel_rfl) (by kernel_rfl) ?_
    intro K' hK
    go_simp
    refine hK _ _ ⟨sW,?_⟩
    clear hK
    refine wpAnyH_done (by kernel_rfl) ?_ _
    exact HQ.out _ ob_ nb_ a1 c1 a2 c2 _ rfl rfl rfl rfl rfl rfl rfl ⟨⟨y1,y2⟩,E.out⟩
  ·intro K' hK
   have BW:=hidE (blk_alloc w1 [.int .i64 0,.int .i64 0,.int .i64 0,.slice none 0 0] 78)
   have hS2:=hS1.alloc hS1.size (.cells #[.int .i64 0,.int .i64 0,.int .i64 0,.slice none 0 0] 78)
   have HB1:=hidE (below_alloc w1 (.cells #[.int .i64 0,.int .i64 0,.int .i64 0,.slice none 0 0] 78))
   go_simp
   refine hK _ _ ⟨hS2,?_⟩
   clear hK
   have ynb_ : Hid (w.heap.size ≤ w1.heap.size):=hS1.size
   generalize hgnb_ : w1.heap.size = nb_ at *
   have hS2' : Hid (Below w.heap.size w (w1.alloc (.cells #[.int .i64 0,.int .i64 0,.int .i64 0,.slice none 0 0] 78))):=hS2
   generalize w1.alloc (.cells #[.int .i64 0,.int .i64 0,.int .i64 0,.slice none 0 0] 78) = w2 at *
   have hS2:=hS2'.out
   have z1 : nb_ < w2.heap.size:=BW.out.lt
   clear hS2'
   refine held_go (i:=1) (L:=#[true,true,true,true,true,true,true,false,true,true,false,false]) (by kernel_rfl) rfl (by kernel_rfl) (by kernel_rfl) ?_
   intro K' hK
   go_simp
   refine (OO.out _ hS2).mono ?_
   rintro e w3 ⟨u1,rfl,ho9,hb⟩
   have hS3:=hS2.trans (hb.mono hS2.size)
   have HQO:=hidE (own_at ho9)
   obtain ⟨a1,c1,rfl⟩:=owns_shapeE ho9
   have HOO:=hidE (owns_baseG ho9 hS2.size)
   have HB2:=hidE hb
   have z2:=hb.size
   refine hK _ _ ⟨hS3,?_⟩
   clear hK ho9 hb
   refine held_go (i:=7) (L:=#[true,true,true,true,true,true,true,true,true,true,false,false]) (by kernel_rfl) rfl (by kernel_rfl) (by kernel_rfl) ?_
   intro K' hK
   go_simp
   refine (NO.out _ hS3).mono ?_
   rintro e w4 ⟨u2,rfl,ho9,hb⟩
   have hS4:=hS3.trans (hb.mono hS3.size)
   have HQN:=hidE (own_at ho9)
   obtain ⟨a2,c2,rfl⟩:=owns_shapeE ho9
   have HON:=hidE (owns_baseG ho9 hS3.size)
   have HB3:=hidE hb
   have z3:=hb.size
   refine hK _ _ ⟨hS4,?_⟩
   clear hK ho9 hb
   have BTe:=BT.out
   have BTe:=blk_bel BTe (by rw [hgnb_];exact HB1.out)
   have BTe:=blk_bel BTe HB2.out
   have BTe:=blk_bel BTe HB3.out
   have BWe:=BW.out
   have BWe:=blk_bel BWe HB2.out
   have BWe:=blk_bel BWe HB3.out
   have O1:=HOO.out
   have O1:=own_keep O1 HB3.out (Nat.le_refl _)
   have O2:=HON.out
   have y1:=yob_.out
   have y2:=ynb_.out
   have hne : ob_ ≠ nb_:=by omega
   have dO : ∀ k,(Value.slice a1 wac.length c1).ownBlock = some k → k ≠ ob_ ∧ k ≠ nb_:=fun k hk => by have:=HQO.out k hk;omega
   have dN : ∀ k,(Value.slice a2 pac.length c2).ownBlock = some k → k ≠ ob_ ∧ k ≠ nb_:=fun k hk => by have:=HQN.out k hk;omega
   have E:=hidE (r5_end (xs:=ws) (ys:=wk) (zs:=wn) (xt:=pst) (yt:=pk) (zt:=pn) hS4 hne y1 y2 BTe BWe O1 O2 dO dN)
   have t0:=BTe.c 0 (by simp)
   have t1:=BTe.c 1 (by simp)
   have t2:=BTe.c 2 (by simp)
   have t3:=BTe.c 3 (by simp)
   have g0:=BTe.fz 0
   have g1:=BTe.fz 1
   have g2:=BTe.fz 2
   have g3:=BTe.fz 3
   have sT:=((((hS4.setCell (p:=⟨ob_,0,none⟩) y1 (.int .i64 ws)).setCell (p:=⟨ob_,1,none⟩) y1 (.int .i64 wk)).setCell (p:=⟨ob_,2,none⟩) y1 (.int .i64 wn)).setCell (p:=⟨ob_,3,none⟩) y1 (.slice a1 wac.length c1))
   have X:=blk_kept BWe (keptB_set (keptB_set (keptB_set (keptB_set (keptB_of_below (bad:=fun k => k = ob_) (Below.refl _ _)) (g:=ob_) rfl 0 (.int .i64 ws)) (g:=ob_) rfl 1 (.int .i64 wk)) (g:=ob_) rfl 2 (.int .i64 wn)) (g:=ob_) rfl 3 (.slice a1 wac.length c1)) (fun e => hne e.symm)
   have d0:=X.c 0 (by simp)
   have d1:=X.c 1 (by simp)
   have d2:=X.c 2 (by simp)
   have d3:=X.c 3 (by simp)
   have e0:=X.fz 0
   have e1:=X.fz 1
   have e2:=X.fz 2
   have e3:=X.fz 3
   have sW:=((((sT.setCell (p:=⟨nb_,0,none⟩) y2 (.int .i64 pst)).setCell (p:=⟨nb_,1,none⟩) y2 (.int .i64 pk)).setCell (p:=⟨nb_,2,none⟩) y2 (.int .i64 pn)).setCell (p:=⟨nb_,3,none⟩) y2 (.slice a2 pac.length c2))
   clear BTe BWe O1 O2 dO dN X
   refine held_go (i:=10) (L:=#[true,true,true,true,true,true,true,true,true,true,true,false]) (by kernel_rfl) rfl (by kernel_rfl) (by kernel_rfl) ?_
   intro K' hK
   go_simp
   refine hK _ _ ⟨sT,?_⟩
   clear hK
   refine held_go (i:=11) (L:=#[true,true,true,true,true,true,true,true,true,true,true,true]) (by kernel_rfl) rfl (by kernel_rfl) (by kernel_rfl) ?_
   intro K' hK
   go_simp
   refine hK _ _ ⟨sW,?_⟩
   clear hK
   refine wpAnyH_done (by kernel_rfl) ?_ _
   exact HQ.out _ ob_ nb_ a1 c1 a2 c2 _ rfl rfl rfl rfl rfl rfl rfl ⟨⟨y1,y2⟩,E.out⟩
 ·intro K' hK
  have BW:=hidE (blk_alloc wd [.int .i64 0,.int .i64 0,.int .i64 0,.slice none 0 0] 78)
  have hS1:=hS.alloc hS.size (.cells #[.int .i64 0,.int .i64 0,.int .i64 0,.slice none 0 0] 78)
  have HB0:=hidE (below_alloc wd (.cells #[.int .i64 0,.int .i64 0,.int .i64 0,.slice none 0 0] 78))
  go_simp
  refine hK _ _ ⟨hS1,?_⟩
  clear hK
  have ynb_ : Hid (w.heap.size ≤ wd.heap.size):=hS.size
  generalize hgnb_ : wd.heap.size = nb_ at *
  have hS1' : Hid (Below w.heap.size w (wd.alloc (.cells #[.int .i64 0,.int .i64 0,.int .i64 0,.slice none 0 0] 78))):=hS1
  generalize wd.alloc (.cells #[.int .i64 0,.int .i64 0,.int .i64 0,.slice none 0 0] 78) = w1 at *
  have hS1:=hS1'.out
  have z0 : nb_ < w1.heap.size:=BW.out.lt
  clear hS1'
  refine held_two (i:=1) (j:=8) (Li:=#[true,true,true,true,true,true,true,false,false,true,false,false]) (Lj:=#[true,false,true,true,true,true,true,false,true,true,false,false]) (by kernel_rfl) rfl rfl (by kernel_rfl) (by kernel_rfl) (by kernel_rfl) (by kernel_rfl) ?_ ?_
  ·intro K' hK
   go_simp
   refine (OO.out _ hS1).mono ?_
   rintro e w2 ⟨u1,rfl,ho9,hb⟩
   have hS2:=hS1.trans (hb.mono hS1.size)
   have HQO:=hidE (own_at ho9)
   obtain ⟨a1,c1,rfl⟩:=owns_shapeE ho9
   have HOO:=hidE (owns_baseG ho9 hS1.size)
   have HB1:=hidE hb
   have z1:=hb.size
   refine hK _ _ ⟨hS2,?_⟩
   clear hK ho9 hb
   refine held_two (i:=7) (j:=8) (Li:=#[true,true,true,true,true,true,true,true,false,true,false,false]) (Lj:=#[true,true,true,true,true,true,true,false,true,true,false,false]) (by kernel_rfl) rfl rfl (by kernel_rfl) (by kernel_rfl) (by kernel_rfl) (by kernel_rfl) ?_ ?_
   ·intro K' hK
    go_simp
    refine (NO.out _ hS2).mono ?_
    rintro e w3 ⟨u2,rfl,ho9,hb⟩
    have hS3:=hS2.trans (hb.mono hS2.size)
    have HQN:=hidE (own_at ho9)
    obtain ⟨a2,c2,rfl⟩:=owns_shapeE ho9
    have HON:=hidE (owns_baseG ho9 hS2.size)
    have HB2:=hidE hb
    have z2:=hb.size
    refine hK _ _ ⟨hS3,?_⟩
    clear hK ho9 hb
    refine held_go (i:=8) (L:=#[true,true,true,true,true,true,true,true,true,true,false,false]) (by kernel_rfl) rfl (by kernel_rfl) (by kernel_rfl) ?_
    intro K' hK
    have BT:=hidE (blk_alloc w3 [.int .i64 0,.int .i64 0,.int .i64 0,.slice none 0 0] 78)
    have hS4:=hS3.alloc hS3.size (.cells #[.int .i64 0,.int .i64 0,.int .i64 0,.slice none 0 0] 78)
    have HB3:=hidE (below_alloc w3 (.cells #[.int .i64 0,.int .i64 0,.int .i64 0,.slice none 0 0] 78))
    go_simp
    refine hK _ _ ⟨hS4,?_⟩
    clear hK
    have yob_ : Hid (w.heap.size ≤ w3.heap.size):=hS3.size
    generalize hgob_ : w3.heap.size = ob_ at *
    have hS4' : Hid (Below w.heap.size w (w3.alloc (.cells #[.int .i64 0,.int .i64 0,.int .i64 0,.slice none 0 0] 78))):=hS4
    generalize w3.alloc (.cells #[.int .i64 0,.int .i64 0,.int .i64 0,.slice none 0 0] 78) = w4 at *
    have hS4:=hS4'.out
    have z3 : ob_ < w4.heap.size:=BT.out.lt
    clear hS4'
    have BTe:=BT.out
    have BWe:=BW.out
    have BWe:=blk_bel BWe HB1.out
    have BWe:=blk_bel BWe HB2.out
    have BWe:=blk_bel BWe (by rw [hgob_];exact HB3.out)
    have O1:=HOO.out
    have O1:=own_keep O1 HB2.out (Nat.le_refl _)
    have O1:=own_keep O1 (by rw [hgob_];exact HB3.out) (Nat.le_refl _)
    have O2:=HON.out
    have O2:=own_keep O2 (by rw [hgob_];exact HB3.out) (Nat.le_refl _)
    have y1:=yob_.out
    have y2:=ynb_.out
    have hne : ob_ ≠ nb_:=by omega
    have dO : ∀ k,(Value.slice a1 wac.length c1).ownBlock = some k → k ≠ ob_ ∧ k ≠ nb_:=fun k hk => by have:=HQO.out k hk;omega
    have dN : ∀ k,(Value.slice a2 pac.length c2).ownBlock = some k → k ≠ ob_ ∧ k ≠ nb_:=fun k hk => by have:=HQN.out k hk;omega
    have E:=hidE (r5_end (xs:=ws) (ys:=wk) (zs:=wn) (xt:=pst) (yt:=pk) (zt:=pn) hS4 hne y1 y2 BTe BWe O1 O2 dO dN)
    have t0:=BTe.c 0 (by simp)
    have t1:=BTe.c 1 (by simp)
    have t2:=BTe.c 2 (by simp)
    have t3:=BTe.c 3 (by simp)
    have g0:=BTe.fz 0
    have g1:=BTe.fz 1
    have g2:=BTe.fz 2
    have g3:=BTe.fz 3
    have sT:=((((hS4.setCell (p:=⟨ob_,0,none⟩) y1 (.int .i64 ws)).setCell (p:=⟨ob_,1,none⟩) y1 (.int .i64 wk)).setCell (p:=⟨ob_,2,none⟩) y1 (.int .i64 wn)).setCell (p:=⟨ob_,3,none⟩) y1 (.slice a1 wac.length c1))
    have X:=blk_kept BWe (keptB_set (keptB_set (keptB_set (keptB_set (keptB_of_below (bad:=fun k => k = ob_) (Below.refl _ _)) (g:=ob_) rfl 0 (.int .i64 ws)) (g:=ob_) rfl 1 (.int .i64 wk)) (g:=ob_) rfl 2 (.int .i64 wn)) (g:=ob_) rfl 3 (.slice a1 wac.length c1)) (fun e => hne e.symm)
    have d0:=X.c 0 (by simp)
    have d1:=X.c 1 (by simp)
    have d2:=X.c 2 (by simp)
    have d3:=X.c 3 (by simp)
    have e0:=X.fz 0
    have e1:=X.fz 1
    have e2:=X.fz 2
    have e3:=X.fz 3
    have sW:=((((sT.setCell (p:=⟨nb_,0,none⟩) y2 (.int .i64 pst)).setCell (p:=⟨nb_,1,none⟩) y2 (.int .i64 pk)).setCell (p:=⟨nb_,2,none⟩) y2 (.int .i64 pn)).setCell (p:=⟨nb_,3,none⟩) y2 (.slice a2 pac.length c2))
    clear BTe BWe O1 O2 dO dN X
    refine held_go (i:=10) (L:=#[true,true,true,true,true,true,true,true,true,true,true,false]) (by kernel_rfl) rfl (by kernel_rfl) (by kernel_rfl) ?_
    intro K' hK
    go_simp
    refine hK _ _ ⟨sT,?_⟩
    clear hK
    refine held_go (i:=11) (L:=#[true,true,true,true,true,true,true,true,true,true,true,true]) (by kernel_rfl) rfl (by kernel_rfl) (by kernel_rfl) ?_
    intro K' hK
    go_simp
    refine hK _ _ ⟨sW,?_⟩
    clear hK
    refine wpAnyH_done (by kernel_rfl) ?_ _
    exact HQ.out _ ob_ nb_ a1 c1 a2 c2 _ rfl rfl rfl rfl rfl rfl rfl ⟨⟨y1,y2⟩,E.out⟩
   ·intro K' hK
    have BT:=hidE (blk_alloc w2 [.int .i64 0,.int .i64 0,.int .i64 0,.slice none 0 0] 78)
    have hS3:=hS2.alloc hS2.size (.cells #[.int .i64 0,.int .i64 0,.int .i64 0,.slice none 0 0] 78)
    have HB2:=hidE (below_alloc w2 (.cells #[.int .i64 0,.int .i64 0,.int .i64 0,.slice none 0 0] 78))
    go_simp
    refine hK _ _ ⟨hS3,?_⟩
    clear hK
    have yob_ : Hid (w.heap.size ≤ w2.heap.size):=hS2.size
    generalize hgob_ : w2.heap.size = ob_ at *
    have hS3' : Hid (Below w.heap.size w (w2.alloc (.cells #[.int .i64 0,.int .i64 0,.int .i64 0,.slice none 0 0] 78))):=hS3
    generalize w2.alloc (.cells #[.int .i64 0,.int .i64 0,.int .i64 0,.slice none 0 0] 78) = w3 at *
    have hS3:=hS3'.out
    have z2 : ob_ < w3.heap.size:=BT.out.lt
    clear hS3'
    refine held_go (i:=7) (L:=#[true,true,true,true,true,true,true,true,true,true,false,false]) (by kernel_rfl) rfl (by kernel_rfl) (by kernel_rfl) ?_
    intro K' hK
    go_simp
    refine (NO.out _ hS3).mono ?_
    rintro e w4 ⟨u2,rfl,ho9,hb⟩
    have hS4:=hS3.trans (hb.mono hS3.size)
    have HQN:=hidE (own_at ho9)
    obtain ⟨a2,c2,rfl⟩:=owns_shapeE ho9
    have HON:=hidE (owns_baseG ho9 hS3.size)
    have HB3:=hidE hb
    have z3:=hb.size
    refine hK _ _ ⟨hS4,?_⟩
    clear hK ho9 hb
    have BTe:=BT.out
    have BTe:=blk_bel BTe HB3.out
    have BWe:=BW.out
    have BWe:=blk_bel BWe HB1.out
    have BWe:=blk_bel BWe (by rw [hgob_];exact HB2.out)
    have BWe:=blk_bel BWe HB3.out
    have O1:=HOO.out
    have O1:=own_keep O1 (by rw [hgob_];exact HB2.out) (Nat.le_refl _)
    have O1:=own_keep O1 HB3.out (Nat.le_refl _)
    have O2:=HON.out
    have y1:=yob_.out
    have y2:=ynb_.out
    have hne : ob_ ≠ nb_:=by omega
    have dO : ∀ k,(Value.slice a1 wac.length c1).ownBlock = some k → k ≠ ob_ ∧ k ≠ nb_:=fun k hk => by have:=HQO.out k hk;omega
    have dN : ∀ k,(Value.slice a2 pac.length c2).ownBlock = some k → k ≠ ob_ ∧ k ≠ nb_:=fun k hk => by have:=HQN.out k hk;omega
    have E:=hidE (r5_end (xs:=ws) (ys:=wk) (zs:=wn) (xt:=pst) (yt:=pk) (zt:=pn) hS4 hne y1 y2 BTe BWe O1 O2 dO dN)
    have t0:=BTe.c 0 (by simp)
    have t1:=BTe.c 1 (by simp)
    have t2:=BTe.c 2 (by simp)
    have t3:=BTe.c 3 (by simp)
    have g0:=BTe.fz 0
    have g1:=BTe.fz 1
    have g2:=BTe.fz 2
    have g3:=BTe.fz 3
    have sT:=((((hS4.setCell (p:=⟨ob_,0,none⟩) y1 (.int .i64 ws)).setCell (p:=⟨ob_,1,none⟩) y1 (.int .i64 wk)).setCell (p:=⟨ob_,2,none⟩) y1 (.int .i64 wn)).setCell (p:=⟨ob_,3,none⟩) y1 (.slice a1 wac.length c1))
    have X:=blk_kept BWe (keptB_set (keptB_set (keptB_set (keptB_set (keptB_of_below (bad:=fun k => k = ob_) (Below.refl _ _)) (g:=ob_) rfl 0 (.int .i64 ws)) (g:=ob_) rfl 1 (.int .i64 wk)) (g:=ob_) rfl 2 (.int .i64 wn)) (g:=ob_) rfl 3 (.slice a1 wac.length c1)) (fun e => hne e.symm)
    have d0:=X.c 0 (by simp)
    have d1:=X.c 1 (by simp)
    have d2:=X.c 2 (by simp)
    have d3:=X.c 3 (by simp)
    have e0:=X.fz 0
    have e1:=X.fz 1
    have e2:=X.fz 2
    have e3:=X.fz 3
    have sW:=((((sT.setCell (p:=⟨nb_,0,none⟩) y2 (.int .i64 pst)).setCell (p:=⟨nb_,1,none⟩) y2 (.int .i64 pk)).setCell (p:=⟨nb_,2,none⟩) y2 (.int .i64 pn)).setCell (p:=⟨nb_,3,none⟩) y2 (.slice a2 pac.length c2))
    clear BTe BWe O1 O2 dO dN X
    refine held_go (i:=10) (L:=#[true,true,true,true,true,true,true,true,true,true,true,false]) (by kernel_rfl) rfl (by kernel_rfl) (by kernel_rfl) ?_
    intro K' hK
    go_simp
    refine hK _ _ ⟨sT,?_⟩
    clear hK
    refine held_go (i:=11) (L:=#[true,true,true,true,true,true,true,true,true,true,true,true]) (by kernel_rfl) rfl (by kernel_rfl) (by kernel_rfl) ?_
    intro K' hK
    go_simp
    refine hK _ _ ⟨sW,?_⟩
    clear hK
    refine wpAnyH_done (by kernel_rfl) ?_ _
    exact HQ.out _ ob_ nb_ a1 c1 a2 c2 _ rfl rfl rfl rfl rfl rfl rfl ⟨⟨y1,y2⟩,E.out⟩
  ·intro K' hK
   have BT:=hidE (blk_alloc w1 [.int .i64 0,.int .i64 0,.int .i64 0,.slice none 0 0] 78)
   have hS2:=hS1.alloc hS1.size (.cells #[.int .i64 0,.int .i64 0,.int .i64 0,.slice none 0 0] 78)
   have HB1:=hidE (below_alloc w1 (.cells #[.int .i64 0,.int .i64 0,.int .i64 0,.slice none 0 0] 78))
   go_simp
   refine hK _ _ ⟨hS2,?_⟩
   clear hK
   have yob_ : Hid (w.heap.size ≤ w1.heap.size):=hS1.size
   generalize hgob_ : w1.heap.size = ob_ at *
   have hS2' : Hid (Below w.heap.size w (w1.alloc (.cells #[.int .i64 0,.int .i64 0,.int .i64 0,.slice none 0 0] 78))):=hS2
   generalize w1.alloc (.cells #[.int .i64 0,.int .i64 0,.int .i64 0,.slice none 0 0] 78) = w2 at *
   have hS2:=hS2'.out
   have z1 : ob_ < w2.heap.size:=BT.out.lt
   clear hS2'
   refine held_go (i:=1) (L:=#[true,true,true,true,true,true,true,false,true,true,false,false]) (by kernel_rfl) rfl (by kernel_rfl) (by kernel_rfl) ?_
   intro K' hK
   go_simp
   refine (OO.out _ hS2).mono ?_
   rintro e w3 ⟨u1,rfl,ho9,hb⟩
   have hS3:=hS2.trans (hb.mono hS2.size)
   have HQO:=hidE (own_at ho9)
   obtain ⟨a1,c1,rfl⟩:=owns_shapeE ho9
   have HOO:=hidE (owns_baseG ho9 hS2.size)
   have HB2:=hidE hb
   have z2:=hb.size
   refine hK _ _ ⟨hS3,?_⟩
   clear hK ho9 hb
   refine held_go (i:=7) (L:=#[true,true,true,true,true,true,true,true,true,true,false,false]) (by kernel_rfl) rfl (by kernel_rfl) (by kernel_rfl) ?_
   intro K' hK
   go_simp
   refine (NO.out _ hS3).mono ?_
   rintro e w4 ⟨u2,rfl,ho9,hb⟩
   have hS4:=hS3.trans (hb.mono hS3.size)
   have HQN:=hidE (own_at ho9)
   obtain ⟨a2,c2,rfl⟩:=owns_shapeE ho9
   have HON:=hidE (owns_baseG ho9 hS3.size)
   have HB3:=hidE hb
   have z3:=hb.size
   refine hK _ _ ⟨hS4,?_⟩
   clear hK ho9 hb
   have BTe:=BT.out
   have BTe:=blk_bel BTe HB2.out
   have BTe:=blk_bel BTe HB3.out
   have BWe:=BW.out
   have BWe:=blk_bel BWe (by rw [hgob_];exact HB1.out)
   have BWe:=blk_bel BWe HB2.out
   have BWe:=blk_bel BWe HB3.out
   have O1:=HOO.out
   have O1:=own_keep O1 HB3.out (Nat.le_refl _)
   have O2:=HON.out
   have y1:=yob_.out
   have y2:=ynb_.out
   have hne : ob_ ≠ nb_:=by omega
   have dO : ∀ k,(Value.slice a1 wac.length c1).ownBlock = some k → k ≠ ob_ ∧ k ≠ nb_:=fun k hk => by have:=HQO.out k hk;omega
   have dN : ∀ k,(Value.slice a2 pac.length c2).ownBlock = some k → k ≠ ob_ ∧ k ≠ nb_:=fun k hk => by have:=HQN.out k hk;omega
   have E:=hidE (r5_end (xs:=ws) (ys:=wk) (zs:=wn) (xt:=pst) (yt:=pk) (zt:=pn) hS4 hne y1 y2 BTe BWe O1 O2 dO dN)
   have t0:=BTe.c 0 (by simp)
   have t1:=BTe.c 1 (by simp)
   have t2:=BTe.c 2 (by simp)
   have t3:=BTe.c 3 (by simp)
   have g0:=BTe.fz 0
   have g1:=BTe.fz 1
   have g2:=BTe.fz 2
   have g3:=BTe.fz 3
   have sT:=((((hS4.setCell (p:=⟨ob_,0,none⟩) y1 (.int .i64 ws)).setCell (p:=⟨ob_,1,none⟩) y1 (.int .i64 wk)).setCell (p:=⟨ob_,2,none⟩) y1 (.int .i64 wn)).setCell (p:=⟨ob_,3,none⟩) y1 (.slice a1 wac.length c1))
   have X:=blk_kept BWe (keptB_set (keptB_set (keptB_set (keptB_set (keptB_of_below (bad:=fun k => k = ob_) (Below.refl _ _)) (g:=ob_) rfl 0 (.int .i64 ws)) (g:=ob_) rfl 1 (.int .i64 wk)) (g:=ob_) rfl 2 (.int .i64 wn)) (g:=ob_) rfl 3 (.slice a1 wac.length c1)) (fun e => hne e.symm)
   have d0:=X.c 0 (by simp)
   have d1:=X.c 1 (by simp)
   have d2:=X.c 2 (by simp)
   have d3:=X.c 3 (by simp)
   have e0:=X.fz 0
   have e1:=X.fz 1
   have e2:=X.fz 2
   have e3:=X.fz 3
   have sW:=((((sT.setCell (p:=⟨nb_,0,none⟩) y2 (.int .i64 pst)).setCell (p:=⟨nb_,1,none⟩) y2 (.int .i64 pk)).setCell (p:=⟨nb_,2,none⟩) y2 (.int .i64 pn)).setCell (p:=⟨nb_,3,none⟩) y2 (.slice a2 pac.length c2))
   clear BTe BWe O1 O2 dO dN X
   refine held_go (i:=10) (L:=#[true,true,true,true,true,true,true,true,true,true,true,false]) (by kernel_rfl) rfl (by kernel_rfl) (by kernel_rfl) ?_
   intro K' hK
   go_simp
   refine hK _ _ ⟨sT,?_⟩
   clear hK
   refine held_go (i:=11) (L:=#[true,true,true,true,true,true,true,true,true,true,true,true]) (by kernel_rfl) rfl (by kernel_rfl) (by kernel_rfl) ?_
   intro K' hK
   go_simp
   refine hK _ _ ⟨sW,?_⟩
   clear hK
   refine wpAnyH_done (by kernel_rfl) ?_ _
   exact HQ.out _ ob_ nb_ a1 c1 a2 c2 _ rfl rfl rfl rfl rfl rfl rfl ⟨⟨y1,y2⟩,E.out⟩
end Go.Proofs.YtcgjflamgnjhcaaGreatDoor
