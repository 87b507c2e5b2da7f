/- Several texts in one, each with its own head. What is proved: what the parts say. Conditions: theirs. -/
import Derived.Test.YtcgjflamgnjhcaaGreatDoorEnKJ
import Derived.Test.YtcgjflamgnjhcaaGreatDoorEnGJ
import Derived.Test.YtcgjflamgnjhcaaGreatDoorBtBJ
set_option linter.unusedVariables false
set_option linter.unusedSimpArgs false
set_option maxRecDepth 100000
set_option maxHeartbeats 8000000
namespace Go.Proofs.YtcgjflamgnjhcaaGreatDoor
open Go.ChangeShapes Go.WideShapes Go.ChangeAt Go.RowKit
theorem etell_r4 (Q : Exit → Act → World → Prop) (C4 : Code) (h4 : rgn 4 (Tryz.f49.body.getD .skip) = some C4) (t : List Value) {x1 x2 x3 x4 x5 x6 x8 x9 x10 x11 x12 x13 x14 x15 x16 x17 x18 x19 x20 x21 x22 x23 x24 x25 x26 x27 x40 x41 x42 x43 x44 x45 x46 x47 x48 x49 x50 x51 x52 x53 x54 x55 x56 x57 : Value} (eb pb_ B n : Nat) (rdv ckv tv ltv e5 e6 e7 e8 e9 e10 e11 : Value) (rva a9 : Option Addr) (rvc c9 : Nat) (st kk nn : Int) (told : Bool) (ac : List Ac) (xs : List Value) (w : World) (ht : t.length = 58) (k0 : t[0]? = some (.pointer (some ⟨eb,0,none⟩))) (k1 : t[1]? = some (x1)) (k2 : t[2]? = some (x2)) (k3 : t[3]? = some (x3)) (k4 : t[4]? = some (x4)) (k5 : t[5]? = some (x5)) (k6 : t[6]? = some (x6)) (k7 : t[7]? = some (.pointer (some ⟨pb_,0,none⟩))) (k8 : t[8]? = some (x8)) (k9 : t[9]? = some (x9)) (k10 : t[10]? = some (x10)) (k11 : t[11]? = some (x11)) (k12 : t[12]? = some (x12)) (k13 : t[13]? = some (x13)) (k14 : t[14]? = some (x14)) (k15 : t[15]? = some (x15)) (k16 : t[16]? = some (x16)) (k17 : t[17]? = some (x17)) (k18 : t[18]? = some (x18)) (k19 : t[19]? = some (x19)) (k20 : t[20]? = some (x20)) (k21 : t[21]? = some (x21)) (k22 : t[22]? = some (x22)) (k23 : t[23]? = some (x23)) (k24 : t[24]? = some (x24)) (k25 : t[25]? = some (x25)) (k26 : t[26]? = some (x26)) (k27 : t[27]? = some (x27)) (k40 : t[40]? = some (x40)) (k41 : t[41]? = some (x41)) (k42 : t[42]? = some (x42)) (k43 : t[43]? = some (x43)) (k44 : t[44]? = some (x44)) (k45 : t[45]? = some (x45)) (k46 : t[46]? = some (x46)) (k47 : t[47]? = some (x47)) (k48 : t[48]? = some (x48)) (k49 : t[49]? = some (x49)) (k50 : t[50]? = some (x50)) (k51 : t[51]? = some (x51)) (k52 : t[52]? = some (x52)) (k53 : t[53]? = some (x53)) (k54 : t[54]? = some (x54)) (k55 : t[55]? = some (x55)) (k56 : t[56]? = some (x56)) (k57 : t[57]? = some (x57))
  (BE : BlkAt w eb [rdv,ckv,tv,ltv,Value.slice rva n rvc,e5,e6,e7,e8,e9,e10,e11]) (BP : BlkAt w pb_ [Value.int .i64 st,Value.int .i64 kk,Value.int .i64 nn,Value.slice a9 ac.length c9,Value.bool told]) (HA : RowS w (.slice a9 ac.length c9) 4 ac.length (rowOf cellsA ac)) (hac : ac.length ≤ 100 ∧ ∀ a ∈ ac,1 ≤ a.k ∧ a.k ≤ 5) (OW : w.ownsRow B 80 5 (Value.slice rva n rvc) n xs) (hn : n ≤ 1000000) (hB : B ≤ w.heap.size) (n1 : (Value.slice rva n rvc).ownBlock ≠ some eb) (n2 : (Value.slice rva n rvc).ownBlock ≠ some pb_)
  (hpan : ∀ c (a : Act) o v w,Q (.panic c) (a.put o v) w → Q (.panic c) a w)
  (hQ : ∀ (t' : List Value) (va : Option Addr) (vc : Nat) (ov : Option Addr) (oc : Nat) (w5 : World) (w' : World),t'.length = 58 → t'[0]? = some (.pointer (some ⟨eb,0,none⟩)) → t'[1]? = some (x1) → t'[2]? = some (x2) → t'[3]? = some (x3) → t'[4]? = some (x4) → t'[5]? = some (x5) → t'[6]? = some (x6) → t'[7]? = some (.pointer (some ⟨pb_,0,none⟩)) → t'[8]? = some (x8) → t'[9]? = some (x9) → t'[10]? = some (x10) → t'[11]? = some (x11) → t'[12]? = some (x12) → t'[13]? = some (x13) → t'[14]? = some (x14) → t'[15]? = some (x15) → t'[16]? = some (x16) → t'[17]? = some (x17) → t'[18]? = some (x18) → t'[19]? = some (x19) → t'[20]? = some (x20) → t'[21]? = some (x21) → t'[22]? = some (x22) → t'[23]? = some (x23) → t'[24]? = some (x24) → t'[25]? = some (x25) → t'[26]? = some (x26) → t'[27]? = some (x27) → t'[40]? = some (x40) → t'[41]? = some (x41) → t'[42]? = some (x42) → t'[43]? = some (x43) → t'[44]? = some (x44) → t'[45]? = some (x45) → t'[46]? = some (x46) → t'[47]? = some (x47) → t'[48]? = some (x48) → t'[49]? = some (x49) → t'[50]? = some (x50) → t'[51]? = some (x51) → t'[52]? = some (x52) → t'[53]? = some (x53) → t'[54]? = some (x54) → t'[55]? = some (x55) → t'[56]? = some (x56) → t'[57]? = some (x57) → Below w.heap.size w w5 ∧ w5.ownsRow w.heap.size 41 2 (.slice ov ac.length oc) ac.length (rowV (ac.map acV)) ∧ BlkAt w' eb [rdv,ckv,tv,ltv,Value.slice va (n + 1) vc,e5,e6,e7,e8,e9,e10,e11] ∧ w'.ownsRow B 80 5 (.slice va (n + 1) vc) (n + 1) (xs ++ [.bool false,Value.int .i64 st,Value.int .i64 kk,Value.int .i64 nn,Value.slice ov ac.length oc]) ∧ ((Value.slice va (n + 1) vc).ownBlock = (Value.slice rva n rvc).ownBlock ∨ ∃ k,(Value.slice va (n + 1) vc).ownBlock = some k ∧ w5.heap.size ≤ k) ∧ KeptB w5 w' (fun k => k = eb ∨ (Value.slice rva n rvc).ownBlock = some k) → Q .normal { tmps:=t'.toArray,defers:=[] } w') :
  Code.wp Tryz.prog C4 Q { tmps:=t.toArray,defers:=[] } w:=by
 have HQ:=hidE hQ
 have HPN:=hidE hpan
 obtain ⟨i0,hi,hz0,hz1,hz2⟩:=info_parts infoRw9
 have hd : Below w.heap.size w ({ w with drawn:=w.drawn + 1 } : World):=(Below.refl _ _).drew
 have hS : KeptB w ({ w with drawn:=w.drawn + 1 } : World) (fun k => (Value.slice rva n rvc).ownBlock = some k):=keptB_of_below hd
 have BEx : Hid (¬ (Value.slice rva n rvc).ownBlock = some eb):=n1
 have BPx : Hid (¬ (Value.slice rva n rvc).ownBlock = some pb_):=n2
 have OT:=hidE (fun w' (hb : Below w.heap.size w w') => out_any ⟨st,kk,nn,told,ac,.slice a9 ac.length c9⟩ w' hac.1 (rowS_below HA hb) hac.2)
 unfold aggP at OT
 have BE:=hidE BE
 have BP:=hidE BP
 have OW:=hidE OW
 clear hQ hpan n1 n2 HA hac
 obtain ⟨f,hf,hi⟩:=listed58 t ht
 have e0:=some_at (hi 0 (by decide)) k0
 have e1:=some_at (hi 1 (by decide)) k1
 have e2:=some_at (hi 2 (by decide)) k2
 have e3:=some_at (hi 3 (by decide)) k3
 have e4:=some_at (hi 4 (by decide)) k4
 have e5:=some_at (hi 5 (by decide)) k5
 have e6:=some_at (hi 6 (by decide)) k6
 have e7:=some_at (hi 7 (by decide)) k7
 have e8:=some_at (hi 8 (by decide)) k8
 have e9:=some_at (hi 9 (by decide)) k9
 have e10:=some_at (hi 10 (by decide)) k10
 have e11:=some_at (hi 11 (by decide)) k11
 have e12:=some_at (hi 12 (by decide)) k12
 have e13:=some_at (hi 13 (by decide)) k13
 have e14:=some_at (hi 14 (by decide)) k14
 have e15:=some_at (hi 15 (by decide)) k15
 have e16:=some_at (hi 16 (by decide)) k16
 have e17:=some_at (hi 17 (by decide)) k17
 have e18:=some_at (hi 18 (by decide)) k18
 have e19:=some_at (hi 19 (by decide)) k19
 have e20:=some_at (hi 20 (by decide)) k20
 have e21:=some_at (hi 21 (by decide)) k21
 have e22:=some_at (hi 22 (by decide)) k22
 have e23:=some_at (hi 23 (by decide)) k23
 have e24:=some_at (hi 24 (by decide)) k24
 have e25:=some_at (hi 25 (by decide)) k25
 have e26:=some_at (hi 26 (by decide)) k26
 have e27:=some_at (hi 27 (by decide)) k27
 have e40:=some_at (hi 40 (by decide)) k40
 have e41:=some_at (hi 41 (by decide)) k41
 have e42:=some_at (hi 42 (by decide)) k42
 have e43:=some_at (hi 43 (by decide)) k43
 have e44:=some_at (hi 44 (by decide)) k44
 have e45:=some_at (hi 45 (by decide)) k45
 have e46:=some_at (hi 46 (by decide)) k46
 have e47:=some_at (hi 47 (by decide)) k47
 have e48:=some_at (hi 48 (by decide)) k48
 have e49:=some_at (hi 49 (by decide)) k49
 have e50:=some_at (hi 50 (by decide)) k50
 have e51:=some_at (hi 51 (by decide)) k51
 have e52:=some_at (hi 52 (by decide)) k52
 have e53:=some_at (hi 53 (by decide)) k53
 have e54:=some_at (hi 54 (by decide)) k54
 have e55:=some_at (hi 55 (by decide)) k55
 have e56:=some_at (hi 56 (by decide)) k56
 have e57:=some_at (hi 57 (by decide)) k57
 rw [e0,e1,e2,e3,e4,e5,e6,e7,e8,e9,e10,e11,e12,e13,e14,e15,e16,e17,e18,e19,e20,e21,e22,e23,e24,e25,e26,e27,e40,e41,e42,e43,e44,e45,e46,e47,e48,e49,e50,e51,e52,e53,e54,e55,e56,e57] at hf
 clear hi ht k0 e0 k1 e1 k2 e2 k3 e3 k4 e4 k5 e5 k6 e6 k7 e7 k8 e8 k9 e9 k10 e10 k11 e11 k12 e12 k13 e13 k14 e14 k15 e15 k16 e16 k17 e17 k18 e18 k19 e19 k20 e20 k21 e21 k22 e22 k23 e23 k24 e24 k25 e25 k26 e26 k27 e27 k40 e40 k41 e41 k42 e42 k43 e43 k44 e44 k45 e45 k46 e46 k47 e47 k48 e48 k49 e49 k50 e50 k51 e51 k52 e52 k53 e53 k54 e54 k55 e55 k56 e56 k57 e57
 subst hf
 unfold Tryz.f49 at h4
 simp [rgn] at h4
 subst h4
 refine wp_region_last (fun w' => KeptB w w' (fun k => (Value.slice rva n rvc).ownBlock = some k)) 12 (by kernel_rfl) ?_
 generalize ({ w with drawn:=w.drawn + 1 } : World) = wd at *
 refine last_take (i:=0) (v:=.pointer (some ⟨eb,0,none⟩)) (L:=#[true,false,false,false,false,false,false,false,false,false,false,false,false]) [10,11,12] rfl (by kernel_rfl) (by kernel_rfl) (by kernel_rfl) (by kernel_rfl) (by kernel_rfl) (fun c a w h => HPN.out c a _ _ w h) (Or.inl ⟨by kernel_rfl,fun wq hq => by go_simp⟩) hS (by kernel_rfl) ?_
 refine last_take (i:=1) (v:=.pointer (some ⟨eb,0,none⟩)) (L:=#[true,true,false,false,false,false,false,false,false,false,false,false,false]) [2,3,4,9,12] rfl (by kernel_rfl) (by kernel_rfl) (by kernel_rfl) (by kernel_rfl) (by kernel_rfl) (fun c a w h => HPN.out c a _ _ w h) (Or.inl ⟨by kernel_rfl,fun wq hq => by go_simp⟩) hS (by kernel_rfl) ?_
 refine last_take (i:=2) (v:=.pointer (some ⟨eb,0,none⟩)) (L:=#[true,true,true,false,false,false,false,false,false,false,false,false,false]) [3,4,9,12] rfl (by kernel_rfl) (by kernel_rfl) (by kernel_rfl) (by kernel_rfl) (by kernel_rfl) (fun c a w h => HPN.out c a _ _ w h) (Or.inl ⟨by kernel_rfl,fun wq hq => by go_simp⟩) hS (by kernel_rfl) ?_
 refine last_take (i:=3) (v:=.pointer (some ⟨eb,4,none⟩)) (L:=#[true,true,true,true,false,false,false,false,false,false,false,false,false]) [4,9,12] rfl (by kernel_rfl) (by kernel_rfl) (by kernel_rfl) (by kernel_rfl) (by kernel_rfl) (fun c a w h => HPN.out c a _ _ w h) (Or.inl ⟨by kernel_rfl,fun wq hq => by go_simp⟩) hS (by kernel_rfl) ?_
 refine last_take (i:=4) (v:=Value.slice rva n rvc) (L:=#[true,true,true,true,true,false,false,false,false,false,false,false,false]) [9,12] rfl (by kernel_rfl) (by kernel_rfl) (by kernel_rfl) (by kernel_rfl) (by kernel_rfl) (fun c a w h => HPN.out c a _ _ w h) (Or.inl ⟨by kernel_rfl,fun wq hq => by have K:=blk_kept BE.out hq BEx.out;have q4 : wq.cell? ⟨eb,4,none⟩ = some (Value.slice rva n rvc):=K.c 4 (by simp);clear K;go_simp⟩) hS (by kernel_rfl) ?_
 refine last_take (i:=5) (v:=.agg #[Value.int .i64 st,Value.int .i64 kk,Value.int .i64 nn,Value.slice a9 ac.length c9,Value.bool told]) (L:=#[true,true,true,true,true,true,false,false,false,false,false,false,false]) [6,7,8,9,12] rfl (by kernel_rfl) (by kernel_rfl) (by kernel_rfl) (by kernel_rfl) (by kernel_rfl) (fun c a w h => HPN.out c a _ _ w h) (Or.inl ⟨by kernel_rfl,fun wq hq => by have K:=blk_kept BP.out hq BPx.out;have q0 : wq.cell? ⟨pb_,0,none⟩ = some (Value.int .i64 st):=K.c 0 (by simp);have q1 : wq.cell? ⟨pb_,1,none⟩ = some (Value.int .i64 kk):=K.c 1 (by simp);have q2 : wq.cell? ⟨pb_,2,none⟩ = some (Value.int .i64 nn):=K.c 2 (by simp);have q3 : wq.cell? ⟨pb_,3,none⟩ = some (Value.slice a9 ac.length c9):=K.c 3 (by simp);have q4 : wq.cell? ⟨pb_,4,none⟩ = some (Value.bool told):=K.c 4 (by simp);clear K;go_simp⟩) hS (by kernel_rfl) ?_
 refine last_go (i:=6) (L:=#[true,true,true,true,true,true,true,false,false,false,false,false,false]) (by kernel_rfl) rfl (by kernel_rfl) (by kernel_rfl) ?_
 intro K' hK
 go_simp
 refine (OT.out _ hd).mono ?_
 rintro e w1 ⟨u,rfl,hou,hb⟩
 have hd1:=hd.trans (hb.mono hd.size)
 have hS1 : KeptB w w1 (fun k => (Value.slice rva n rvc).ownBlock = some k):=keptB_of_below hd1
 obtain ⟨ov,oc,rfl⟩:=owns_shapeE hou
 have HOU:=hidE (owns_baseG (base':=w.heap.size) hou hd.size)
 refine hK _ _ ⟨fun _ => hS1,?_⟩
 clear hK hou hb
 refine last_take (i:=7) (v:=.agg #[.bool false,Value.int .i64 st,Value.int .i64 kk,Value.int .i64 nn,Value.slice ov ac.length oc]) (L:=#[true,true,true,true,true,true,true,true,false,false,false,false,false]) [8,9,12] rfl (by kernel_rfl) (by kernel_rfl) (by kernel_rfl) (by kernel_rfl) (by kernel_rfl) (fun c a w h => HPN.out c a _ _ w h) (Or.inl ⟨by kernel_rfl,fun wq hq => by go_simp⟩) hS1 (by kernel_rfl) ?_
 refine last_go (i:=8) (L:=#[true,true,true,true,true,true,true,true,true,false,false,false,false]) (by kernel_rfl) rfl (by kernel_rfl) (by kernel_rfl) ?_
 intro K' hK
 refine op_build_one 67 80 (.tmp 35) rfl [.bool false,Value.int .i64 st,Value.int .i64 kk,Value.int .i64 nn,Value.slice ov ac.length oc] 5 (by kernel_rfl) i0 _ Tryz.underlying67 hi hz0 hz1 rfl (by decide) (by decide) ?_
 have hS2:=keptB_trans hS1 (keptB_of_below (bad:=fun k => (Value.slice rva n rvc).ownBlock = some k) (below_alloc w1 (.cells ([.bool false,Value.int .i64 st,Value.int .i64 kk,Value.int .i64 nn,Value.slice ov ac.length oc] : List Value).toArray 80)))
 have hT2:=keptB_of_below (bad:=fun k => (Value.slice rva n rvc).ownBlock = some k) (below_alloc w1 (.cells ([.bool false,Value.int .i64 st,Value.int .i64 kk,Value.int .i64 nn,Value.slice ov ac.length oc] : List Value).toArray 80))
 have BZ:=hidE (blk_alloc w1 [.bool false,Value.int .i64 st,Value.int .i64 kk,Value.int .i64 nn,Value.slice ov ac.length oc] 80)
 have OW1:=hidE ((own_keep OW.out hd1 (Nat.le_refl _)).alloc (.cells ([.bool false,Value.int .i64 st,Value.int .i64 kk,Value.int .i64 nn,Value.slice ov ac.length oc] : List Value).toArray 80))
 have hzd:=hd1.size
 refine hK _ _ ⟨fun _ => hS2,?_⟩
 clear hK
 refine last_go (i:=9) (L:=#[true,true,true,true,true,true,true,true,true,true,false,false,false]) (by kernel_rfl) rfl (by kernel_rfl) (by kernel_rfl) ?_
 intro K' hK
 refine op_append_own (.tmp 32) (.tmp 36) 67 rfl B 80 i0 _ 5 56 Tryz.underlying67 hi hz0 hz1 hz2 (by kernel_rfl) (by decide) (Value.slice rva n rvc) n xs (by kernel_rfl) OW1.out ⟨w1.heap.size,0,none⟩ 1 1 [.bool false,Value.int .i64 st,Value.int .i64 kk,Value.int .i64 nn,Value.slice ov ac.length oc] (by kernel_rfl) rfl (fun j u hu => by rw [add_at,Nat.zero_add];exact (BZ.out.c j (List.getElem?_eq_some_iff.1 hu).1).trans hu) (by simp [Value.oneCell']) (by show _ ≤ 2 ^ 63 - 1;omega) (by omega) (by simp;omega) ?_
 intro v' w5 ho hg hob
 obtain ⟨va,vc,rfl⟩:=owns_shapeE ho
 have hS5:=keptB_grown hS2 hg (fun k hk _ => hk)
 have hT5:=keptB_grown hT2 hg (fun k hk _ => hk)
 have HO:=hidE ho
 have HB9:=hidE hob
 refine hK _ _ ⟨fun _ => hS5,?_⟩
 clear hK ho hg hob
 refine last_take (i:=10) (v:=.pointer (some ⟨eb,0,none⟩)) (L:=#[true,true,true,true,true,true,true,true,true,true,true,false,false]) [11,12] rfl (by kernel_rfl) (by kernel_rfl) (by kernel_rfl) (by kernel_rfl) (by kernel_rfl) (fun c a w h => HPN.out c a _ _ w h) (Or.inl ⟨by kernel_rfl,fun wq hq => by go_simp⟩) hS5 (by kernel_rfl) ?_
 refine last_take (i:=11) (v:=.pointer (some ⟨eb,4,none⟩)) (L:=#[true,true,true,true,true,true,true,true,true,true,true,true,false]) [12] rfl (by kernel_rfl) (by kernel_rfl) (by kernel_rfl) (by kernel_rfl) (by kernel_rfl) (fun c a w h => HPN.out c a _ _ w h) (Or.inl ⟨by kernel_rfl,fun wq hq => by go_simp⟩) hS5 (by kernel_rfl) ?_
 refine last_go (i:=12) (L:=#[true,true,true,true,true,true,true,true,true,true,true,true,true]) (by kernel_rfl) rfl (by kernel_rfl) (by kernel_rfl) ?_
 intro K' hK
 have BE5:=hidE (blk_kept BE.out hS5 BEx.out)
 have q4 : w5.cell? ⟨eb,4,none⟩ = some (Value.slice rva n rvc):=BE5.out.c 4 (by simp)
 have f4:=BE5.out.fz 4
 have l4:=BE5.out.lt
 go_simp
 refine hK _ _ ⟨fun h => absurd rfl h,?_⟩
 clear hK
 refine last_done (by kernel_rfl) ?_ _
 have BE6:=blk_set BE5.out 4 (.slice va (n + 1) vc) (by simp)
 have hobx : (Value.slice va (n + 1) vc).ownBlock = (Value.slice rva n rvc).ownBlock ∨ ∃ k,(Value.slice va (n + 1) vc).ownBlock = some k ∧ w1.heap.size ≤ k:=by
  rcases HB9.out with e | e
  ·exact .inl e
  ·exact .inr ⟨_,e,by simp⟩
 have hne9 : ∀ k,(Value.slice va (n + 1) vc).ownBlock = some k → k ≠ eb:=fun k hk e => by
  subst e
  rcases hobx with e | ⟨k2,e,hk2⟩
  ·exact BEx.out (by rw [← e];exact hk)
  ·rw [e] at hk
   cases hk
   have:=BE.out.lt
   omega
 exact HQ.out _ va vc ov oc w1 _ rfl rfl rfl rfl rfl rfl rfl rfl rfl rfl rfl rfl rfl rfl rfl rfl rfl rfl rfl rfl rfl rfl rfl rfl rfl rfl rfl rfl rfl rfl rfl rfl rfl rfl rfl rfl rfl rfl rfl rfl rfl rfl rfl rfl rfl rfl rfl ⟨hd1,HOU.out,by simpa using BE6,own_kept HO.out (keptB_set (keptB_of_below (bad:=fun k => k = eb) (Below.refl _ _)) (g:=eb) rfl 4 (.slice va (n + 1) vc)) (fun k hk e => hne9 k hk e),hobx,keptB_set (keptB_mono hT5 (fun k e => .inr e)) (g:=eb) (.inl rfl) 4 (.slice va (n + 1) vc)⟩
def rowC (p : Pn) : Rw:=⟨false,outP p⟩
theorem told_rows {q : Qy} {upto : Int} {tb TT : List Pn} (h : TT.map keyC = (tb.filter (isDue q.size upto)).map keyC) : TT.map rowC = tellRows q upto tb:=by
 have e : ∀ l : List Pn,l.map rowC = (l.map keyC).map (fun x => (⟨false,(x.1,x.2.1,x.2.2.1,x.2.2.2.map acV)⟩ : Rw)):=fun l => by
  rw [List.map_map]
  rfl
 unfold tellRows
 rw [e,h,← e]
 rfl
theorem enM_drop {w0 w w' : World} {eb B : Nat} {q : Qy} {rdv ckv ltv va vw vb : Value} {tb tb' : List Pn} {rs : List (Rw × Value)} {tv rv tv' : Value} (h : EnM w0 eb B q rdv ckv ltv va vw vb tb rs tv rv w) (K : KeptB w w' (fun k => k = eb))
  (hbe : BlkAt w' eb [rdv,ckv,tv',ltv,rv,va,vw,vb,.int .i64 q.size,.int .i64 q.slide,.int .i64 q.delay,.int .i64 q.late]) (hT : TblR w' tv' tb') (hf : FromB w.heap.size tv') (ha : ∀ p ∈ tb',∃ p0 ∈ tb,p0.av = p.av) : EnM w0 eb B q rdv ckv ltv va vw vb tb' rs tv' rv w':=by
 have hlt:=h.be.lt
 refine ⟨hbe,hT,⟨fun k hk e => ?_,fun p hp => ?_⟩,own_kept h.ro K (fun k hk e => h.re (by rw [← e];exact hk)),fun r hr => ⟨rowS_kept (h.rn r hr).1 K (fun k hk e => (h.rn r hr).2 k (.inl e) hk),(h.rn r hr).2⟩,h.re,Nat.le_trans h.bb K.b0.size,keptB_more h.old K (fun k _ e => .inl e),⟨fromB_mono hf h.bb,fun p hp => ?_⟩,h.fr⟩
 ·have h9:=hf k e
  rcases hk with hk | hk
  ·omega
  ·have:=(own_at h.ro k hk).2;omega
 ·obtain ⟨p0,h0,e⟩:=ha p hp
  rw [← e]
  exact h.ta.2 p0 h0
 ·obtain ⟨p0,h0,e⟩:=ha p hp
  rw [← e]
  exact h.fa.2 p0 h0
theorem tellP_av (size u : Int) (p : Pn) : (tellP size u p).av = p.av:=by unfold tellP;split <;> rfl
theorem etell_any (w0 : World) (eb B : Nat) (q : Qy) (rdv ckv ltv va vw vb : Value) (tb : List Pn) (rs : List (Rw × Value)) (tv rv : Value) (upto : Int) (W : World) (hM : EnM w0 eb B q rdv ckv ltv va vw vb tb rs tv rv W) (h1 : w0.heap.size ≤ B)
  (hl : tb.length ≤ 500) (hst : ∀ p ∈ tb,-100000 ≤ p.st ∧ p.st ≤ 100000) (hac : ∀ p ∈ tb,p.ac.length ≤ 100 ∧ ∀ a ∈ p.ac,1 ≤ a.k ∧ a.k ≤ 5) (hr : rs.length ≤ 900000) (h3 : 1 ≤ q.size ∧ q.size ≤ 1000) (h4 : 0 ≤ q.late ∧ q.late ≤ 1000) :
  Calls Tryz.prog 49 #[.pointer (some ⟨eb,0,none⟩),.int .i64 upto] W (fun e w' => e = .returned (.tuple #[]) ∧ ∃ ns tv' rv',EnM w0 eb B q rdv ckv ltv va vw vb (tellTb q upto tb) (rs ++ ns) tv' rv' w' ∧ ns.map Prod.fst = tellRows q upto tb ∧ (rv'.ownBlock = rv.ownBlock ∨ ∃ k,rv'.ownBlock = some k ∧ W.heap.size ≤ k) ∧ KeptB W w' (fun k => k = eb ∨ rv.ownBlock = some k)):=by
 obtain ⟨tva,tvc,rfl⟩:=rowS_shape hM.tt.row
 have HM:=hidE hM
 have HST:=hidE hst
 have HAC:=hidE hac
 have hebw : eb < W.heap.size:=hM.be.lt
 have HRL:=hidE (own_at hM.ro)
 have HTA:=hidE hM.ta
 clear hM hst hac
 go_enter Tryz.func49,Tryz.ntmps49
 go_wp2_with fail
 have PNH:=hidE (@pan_body Tryz.prog Tryz.f49 (fun e w' => e = .returned (.tuple #[]) ∧ ∃ ns tv' rv',EnM w0 eb B q rdv ckv ltv va vw vb (tellTb q upto tb) (rs ++ ns) tv' rv' w' ∧ ns.map Prod.fst = tellRows q upto tb ∧ (rv'.ownBlock = rv.ownBlock ∨ ∃ k,rv'.ownBlock = some k ∧ W.heap.size ≤ k) ∧ KeptB W w' (fun k => k = eb ∨ rv.ownBlock = some k)))
 refine etell_r0 _ _ (by kernel_rfl) _ eb rdv ckv ltv rv va vw vb tva tvc tb q upto _ rfl rfl rfl HM.out.be HM.out.tt hl HST.out h3.1 (by omega) (fun p hp => (HAC.out p hp).1) (by first | exact pan_then PNH.out | exact PNH.out) ?_
 rintro t' tb_ au cu av cv TT w2 ht j0 j1 j4 j5 ⟨hge,BT,TU,TV,hk,hb2,FU,FV,FA⟩
 obtain ⟨f,hf,hi⟩:=listed58 t' ht
 have e0:=some_at (hi 0 (by decide)) j0
 have e1:=some_at (hi 1 (by decide)) j1
 have e4:=some_at (hi 4 (by decide)) j4
 have e5:=some_at (hi 5 (by decide)) j5
 rw [e0,e1,e4,e5] at hf
 clear hi ht j0 e0 j1 e1 j4 e4 j5 e5
 subst hf
 refine then_normal ?_
 have hTTl : TT.length ≤ 500:=by
  have e:=congrArg List.length hk
  rw [List.length_map,List.length_map] at e
  have:=List.length_filter_le (isDue q.size upto) tb
  omega
 have HACT : Hid (∀ p ∈ TT,p.ac.length ≤ 100 ∧ ∀ a ∈ p.ac,1 ≤ a.k ∧ a.k ≤ 5):=fun p hp => by
  have h9 : keyC p ∈ (tb.filter (isDue q.size upto)).map keyC:=by rw [← hk];exact List.mem_map_of_mem hp
  obtain ⟨p0,h0,e⟩:=List.mem_map.1 h9
  have e2 : p0.ac = p.ac:=congrArg (fun x => x.2.2.2) e
  rw [← e2]
  exact HAC.out p0 (List.mem_filter.1 h0).1
 have HROWS:=hidE (told_rows hk)
 have HB2:=hidE hb2
 have hsz2:=hb2.size
 have M2:=hidE (enM_below HM.out hb2)
 have HBT:=hidE BT
 have HTU:=hidE TU
 have HTV:=hidE TV
 have HFU:=hidE FU
 have HFV:=hidE FV
 have HFA:=hidE FA
 have NB : Hid (∀ k,W.heap.size ≤ k → ¬ (k = eb ∨ rv.ownBlock = some k)):=fun k hk9 e => by
  rcases e with e | e
  ·omega
  ·have:=(HRL.out k e).2;omega
 clear hk hb2 BT TU TV FU FV FA
 go_wp2_with fail
 go_loopw [24] (fun i wr => ∃ (m : Nat) (ns : List (Rw × Value)) (rv1 : Value),m ≤ TT.length ∧ i = .int .i64 m ∧ Hid (ns.map Prod.fst = (TT.take m).map rowC) ∧ Hid (EnM w0 eb B q rdv ckv ltv va vw vb tb (rs ++ ns) (.slice tva tb.length tvc) rv1 wr) ∧ Hid (KeptB w2 wr (fun k => k = eb ∨ rv.ownBlock = some k)) ∧ Hid (rv1.ownBlock = rv.ownBlock ∨ ∃ k,rv1.ownBlock = some k ∧ w2.heap.size ≤ k)) (fun i _ => TT.length - (intOf i).toNat)
 case atStart => exact ⟨0,[],rv,Nat.zero_le _,rfl,rfl,by show EnM _ _ _ _ _ _ _ _ _ _ _ _ _ _ _;rw [List.append_nil];exact M2.out,keptB_of_below (Below.refl _ _),.inl rfl⟩
 case round =>
  clear M2
  obtain ⟨m,ns,rv1,hm,rfl,HNS,HMr,HK,HRV⟩:=hrel
  have hnl : ns.length = m:=by
   have e:=congrArg List.length HNS.out
   simp only [List.length_map,List.length_take] at e
   omega
  obtain ⟨rva,rvc,rfl⟩:=owns_shapeE HMr.out.ro
  by_cases hlt : m < TT.length
  ·have TVr:=tblR_kept9 HTV.out HK.out (fun k hk => NB.out k (HFV.out k hk)) (fun p hp k hk => NB.out k (HFA.out p hp k hk))
   obtain ⟨g,off,hao,hcell,q1,q2,lg⟩:=rowOf_val cellsPn_len (rowG_of_S TVr.row) m hlt
   subst hao
   have hpac:=TVr.acc TT[m] (List.getElem_mem hlt)
   have hkm:=HACT.out TT[m] (List.getElem_mem hlt)
   have HPM : Hid ((TT.take (m + 1)).map rowC = (TT.take m).map rowC ++ [rowC TT[m]]):=by
    show _ = _
    rw [take_one TT m hlt,List.map_append]
    rfl
   generalize TT[m] = p at *
   obtain ⟨st,kk,nn,told,ac,pv⟩:=p
   obtain ⟨a9,c9,hav⟩:=rowS_shape hpac
   simp only at hav hkm
   subst hav
   have y0 : wr.cell? ⟨g,off + m * 5,none⟩ = some (.int .i64 st):=hcell 0 (by omega)
   have y1 : wr.cell? ⟨g,off + m * 5 + 1,none⟩ = some (.int .i64 kk):=hcell 1 (by omega)
   have y2 : wr.cell? ⟨g,off + m * 5 + 2,none⟩ = some (.int .i64 nn):=hcell 2 (by omega)
   have y3 : wr.cell? ⟨g,off + m * 5 + 3,none⟩ = some (.slice a9 ac.length c9):=hcell 3 (by omega)
   have y4 : wr.cell? ⟨g,off + m * 5 + 4,none⟩ = some (.bool told):=hcell 4 (by omega)
   have bx:=below_alloc wr (.cells #[.int .i64 st,.int .i64 kk,.int .i64 nn,.slice a9 ac.length c9,.bool told] 84)
   have BX:=hidE (blk_alloc wr [.int .i64 st,.int .i64 kk,.int .i64 nn,.slice a9 ac.length c9,.bool told] 84)
   have MX:=hidE (enM_below HMr.out bx)
   have HA:=hidE (rowS_below (show RowS wr (.slice a9 ac.length c9) 4 ac.length (rowOf cellsA ac) from hpac) bx)
   have HBX:=hidE bx
   have HKM:=hidE hkm
   have hrl:=HMr.out.be.lt
   have HRO:=hidE (own_at HMr.out.ro)
   unfold maxLen at q2
   clear TVr hcell hpac bx hkm
   go_wp2_with fail
   clear y0 y1 y2 y3 y4
   refine etell_r4 _ _ (by kernel_rfl) _ eb wr.heap.size B (rs ++ ns).length rdv ckv (.slice tva tb.length tvc) ltv va vw vb (.int .i64 q.size) (.int .i64 q.slide) (.int .i64 q.delay) (.int .i64 q.late) rva a9 rvc c9 st kk nn told ac (rowOf cellsRw (rs ++ ns)) _ rfl rfl rfl rfl rfl rfl rfl rfl rfl rfl rfl rfl rfl rfl rfl rfl rfl rfl rfl rfl rfl rfl rfl rfl rfl rfl rfl rfl rfl rfl rfl rfl rfl rfl rfl rfl rfl rfl rfl rfl rfl rfl rfl rfl rfl rfl rfl  MX.out.be BX.out HA.out HKM.out MX.out.ro (by rw [List.length_append];omega) MX.out.bb MX.out.re (fun e => by have:=(HRO.out _ e).2;omega) (by first | exact pan_then PNH.out | exact PNH.out | exact fun c a o v w h => h) ?_
   rintro t4 va_ vc_ ov oc w5 w6 ht4 l0 l1 l2 l3 l4 l5 l6 l7 l8 l9 l10 l11 l12 l13 l14 l15 l16 l17 l18 l19 l20 l21 l22 l23 l24 l25 l26 l27 l40 l41 l42 l43 l44 l45 l46 l47 l48 l49 l50 l51 l52 l53 l54 l55 l56 l57 ⟨hd5,OV,BE6,OW6,RV6,K6⟩
   obtain ⟨f4,hf,hi⟩:=listed58 t4 ht4
   have e0:=some_at (hi 0 (by decide)) l0
   have e1:=some_at (hi 1 (by decide)) l1
   have e2:=some_at (hi 2 (by decide)) l2
   have e3:=some_at (hi 3 (by decide)) l3
   have e4:=some_at (hi 4 (by decide)) l4
   have e5:=some_at (hi 5 (by decide)) l5
   have e6:=some_at (hi 6 (by decide)) l6
   have e7:=some_at (hi 7 (by decide)) l7
   have e8:=some_at (hi 8 (by decide)) l8
   have e9:=some_at (hi 9 (by decide)) l9
   have e10:=some_at (hi 10 (by decide)) l10
   have e11:=some_at (hi 11 (by decide)) l11
   have e12:=some_at (hi 12 (by decide)) l12
   have e13:=some_at (hi 13 (by decide)) l13
   have e14:=some_at (hi 14 (by decide)) l14
   have e15:=some_at (hi 15 (by decide)) l15
   have e16:=some_at (hi 16 (by decide)) l16
   have e17:=some_at (hi 17 (by decide)) l17
   have e18:=some_at (hi 18 (by decide)) l18
   have e19:=some_at (hi 19 (by decide)) l19
   have e20:=some_at (hi 20 (by decide)) l20
   have e21:=some_at (hi 21 (by decide)) l21
   have e22:=some_at (hi 22 (by decide)) l22
   have e23:=some_at (hi 23 (by decide)) l23
   have e24:=some_at (hi 24 (by decide)) l24
   have e25:=some_at (hi 25 (by decide)) l25
   have e26:=some_at (hi 26 (by decide)) l26
   have e27:=some_at (hi 27 (by decide)) l27
   have e40:=some_at (hi 40 (by decide)) l40
   have e41:=some_at (hi 41 (by decide)) l41
   have e42:=some_at (hi 42 (by decide)) l42
   have e43:=some_at (hi 43 (by decide)) l43
   have e44:=some_at (hi 44 (by decide)) l44
   have e45:=some_at (hi 45 (by decide)) l45
   have e46:=some_at (hi 46 (by decide)) l46
   have e47:=some_at (hi 47 (by decide)) l47
   have e48:=some_at (hi 48 (by decide)) l48
   have e49:=some_at (hi 49 (by decide)) l49
   have e50:=some_at (hi 50 (by decide)) l50
   have e51:=some_at (hi 51 (by decide)) l51
   have e52:=some_at (hi 52 (by decide)) l52
   have e53:=some_at (hi 53 (by decide)) l53
   have e54:=some_at (hi 54 (by decide)) l54
   have e55:=some_at (hi 55 (by decide)) l55
   have e56:=some_at (hi 56 (by decide)) l56
   have e57:=some_at (hi 57 (by decide)) l57
   rw [e0,e1,e2,e3,e4,e5,e6,e7,e8,e9,e10,e11,e12,e13,e14,e15,e16,e17,e18,e19,e20,e21,e22,e23,e24,e25,e26,e27,e40,e41,e42,e43,e44,e45,e46,e47,e48,e49,e50,e51,e52,e53,e54,e55,e56,e57] at hf
   clear hi ht4 l0 e0 l1 e1 l2 e2 l3 e3 l4 e4 l5 e5 l6 e6 l7 e7 l8 e8 l9 e9 l10 e10 l11 e11 l12 e12 l13 e13 l14 e14 l15 e15 l16 e16 l17 e17 l18 e18 l19 e19 l20 e20 l21 e21 l22 e22 l23 e23 l24 e24 l25 e25 l26 e26 l27 e27 l40 e40 l41 e41 l42 e42 l43 e43 l44 e44 l45 e45 l46 e46 l47 e47 l48 e48 l49 e49 l50 e50 l51 e51 l52 e52 l53 e53 l54 e54 l55 e55 l56 e56 l57 e57
   subst hf
   have M5:=enM_below MX.out hd5
   have hwbs : (wr.alloc (.cells #[.int .i64 st,.int .i64 kk,.int .i64 nn,.slice a9 ac.length c9,.bool told] 84)).heap.size = wr.heap.size + 1:=by simp
   have hge2 : w2.heap.size ≤ wr.heap.size:=HK.out.b0.size
   have AP : Apt eb (.slice rva (rs ++ ns).length rvc) (.slice ov ac.length oc):=fun k hk9 e => by
    have h9:=(own_at OV k e).1
    rcases hk9 with hk9 | hk9
    ·omega
    ·have:=(HRO.out k hk9).2;omega
   have M6:=enM_rows (ns:=[(⟨false,(st,kk,nn,ac.map acV)⟩,.slice ov ac.length oc)]) M5 h1 K6 BE6 (by rw [rowOf_app,show (rs ++ ns ++ [((⟨false,(st,kk,nn,ac.map acV)⟩ : Rw),(.slice ov ac.length oc : Value))]).length = (rs ++ ns).length + 1 from List.length_append];exact OW6) RV6 (fun r hr9 => by
     rw [List.mem_singleton.1 hr9]
     exact ⟨by simp only [List.length_map];exact rowS_of_owns OV,AP⟩) (fun r hr9 => by
     rw [List.mem_singleton.1 hr9]
     exact fun k e => by have h9:=(own_at OV k e).1;have:=HMr.out.bb;omega)
   rw [List.append_assoc] at M6
   have HM6:=hidE M6
   have KX:=keptB_trans (keptB_of_below (bad:=fun k => k = eb ∨ (Value.slice rva (rs ++ ns).length rvc).ownBlock = some k) (HBX.out.trans (hd5.mono HBX.out.size))) K6
   have HK6:=hidE (keptE HK.out KX HRV.out)
   have HRV6:=hidE (rbE (z:=0) HRV.out RV6 (Nat.le_trans hge2 (Nat.le_trans HBX.out.size hd5.size)))
   have HNS6 : Hid ((ns ++ [((⟨false,(st,kk,nn,ac.map acV)⟩ : Rw),(.slice ov ac.length oc : Value))]).map Prod.fst = (TT.take (m + 1)).map rowC):=by
    show _ = _
    rw [HPM.out,List.map_append,HNS.out]
    rfl
   clear M5 M6 KX hd5 OV BE6 OW6 RV6 K6 AP MX BX HA HMr HK HNS HPM HRV
   first | refine then_normal ?_ | skip
   go_wp2_with fail
   go_roundw
   case rel => exact ⟨m + 1,_,_,by omega,by go_num,HNS6,HM6,HK6,HRV6⟩
   case measure => simp [intOf];omega
  ·have hml : m = TT.length:=by omega
   subst hml
   have hnse : ns.map Prod.fst = tellRows q upto tb:=by rw [HNS.out,List.take_length,HROWS.out]
   have BTr:=blk_kept HBT.out HK.out (NB.out tb_ hge)
   have TUr:=tblR_kept9 HTU.out HK.out (fun k hk => NB.out k (HFU.out k hk)) (fun p hp k hk e => by
    obtain ⟨p0,h0,rfl⟩:=List.mem_map.1 hp
    rw [tellP_av] at hk
    exact HTA.out.2 p0 h0 k e hk)
   have hlm : (tb.map (tellP q.size upto)).length = tb.length:=List.length_map ..
   rw [← hlm] at BTr TUr
   have HBTr:=hidE BTr
   have HTUr:=hidE TUr
   have HAP : Hid (∀ p ∈ tb.map (tellP q.size upto),p.av.ownBlock ≠ some eb):=fun p hp => by
    obtain ⟨p0,h0,rfl⟩:=List.mem_map.1 hp
    rw [tellP_av]
    exact HTA.out.2 p0 h0 eb (.inl rfl)
   have HST2 : Hid (∀ p ∈ tb.map (tellP q.size upto),-100000 ≤ p.st ∧ p.st ≤ 100000):=fun p hp => by
    obtain ⟨p0,h0,rfl⟩:=List.mem_map.1 hp
    rw [(tellP_key q.size upto p0).2.2.1]
    exact HST.out p0 h0
   have HNSE:=hidE hnse
   clear BTr TUr hnse HNS HBT HTU HTV
   go_wp2_with fail
   first | refine then_normal ?_ | skip
   refine etell_r6 _ _ (by kernel_rfl) _ eb tb_ rdv ckv (.slice tva tb.length tvc) ltv (.slice rva (rs ++ ns).length rvc) va vw vb au cu (tb.map (tellP q.size upto)) q upto _ rfl rfl rfl rfl HMr.out.be HBTr.out HTUr.out HAP.out (by rw [hlm];exact hl) HST2.out (by omega) (by omega) (by first | exact pan_then PNH.out | exact PNH.out) ?_
   rintro t6 ud cd w7 ht6 i0 i1 i4 ⟨BE7,TT7,FU7,K7⟩
   obtain ⟨f6,hf6,-⟩:=listed58 t6 ht6
   subst hf6
   have M7:=enM_drop HMr.out K7 BE7 TT7 FU7 (fun p hp => by
    obtain ⟨p0,h0,e⟩:=List.mem_map.1 (List.mem_filter.1 hp).1
    exact ⟨p0,h0,by rw [← e,tellP_av]⟩)
   have FIN : KeptB W w7 (fun k => k = eb ∨ rv.ownBlock = some k):=keptB_trans (keptB_of_below HB2.out) (keptB_trans HK.out (keptB_mono K7 (fun k e => .inl e)))
   have FRV : (Value.slice rva (rs ++ ns).length rvc).ownBlock = rv.ownBlock ∨ ∃ k,(Value.slice rva (rs ++ ns).length rvc).ownBlock = some k ∧ W.heap.size ≤ k:=by
    rcases HRV.out with e | ⟨k,e,h9⟩
    ·exact .inl e
    ·exact .inr ⟨k,e,by omega⟩
   first | exact bodyPost_end (results_none rfl _ _ _) rfl ⟨rfl,ns,_,_,M7,HNSE.out,FRV,FIN⟩ | (refine then_normal ?_;exact bodyPost_end (results_none rfl _ _ _) rfl ⟨rfl,ns,_,_,M7,HNSE.out,FRV,FIN⟩) | (go_wp2_with fail;exact bodyPost_end (results_none rfl _ _ _) rfl ⟨rfl,ns,_,_,M7,HNSE.out,FRV,FIN⟩)
theorem addW_at {B : Nat} {ks : List Int} {tb tb' : List Pn} {c : Ct} {wp : Pn} (h : AddW B ks tb c tb' wp) (ht : wp.told = true) (hR : Rise tb) : (wp.st = c.st ∧ wp.k = c.key.1 ∧ wp.n = c.key.2) ∧ (∃ p ∈ tb',p.st = wp.st ∧ p.k = wp.k ∧ p.n = wp.n) ∧ ∀ (i : Nat) (hi : i < tb'.length),(tb'[i].st = wp.st ∧ tb'[i].k = wp.k ∧ tb'[i].n = wp.n) → tb'[i].ac = addL wp.ac c.vs:=by
 rcases h with ⟨j,hj,av,h1,rfl,-,h4,h5,h6⟩ | ⟨-,-,-,h4⟩
 ·refine ⟨h4,⟨_,List.mem_set hj _,h4.1.symm,h4.2.1.symm,h4.2.2.symm⟩,fun i hi hk => ?_⟩
  rw [List.length_set] at hi
  by_cases e : j = i
  ·subst e
   rw [List.getElem_set_self,h6]
  ·rw [List.getElem_set_ne e] at hk
   exact absurd (rise_key hR (List.getElem?_eq_getElem hj) (List.getElem?_eq_getElem hi) ⟨h1.1.trans (h4.1.symm.trans hk.1.symm),h1.2.1.trans (h4.2.1.symm.trans hk.2.1.symm),h1.2.2.trans (h4.2.2.symm.trans hk.2.2.symm)⟩) e
 ·rw [ht] at h4;cases h4
theorem addW_acc {B : Nat} {ks : List Int} {tb tb' : List Pn} {c : Ct} {wp : Pn} (h : AddW B ks tb c tb' wp) (ht : wp.told = true) (hO : TbOk ks tb) : wp.ac.length = ks.length ∧ ∀ a ∈ wp.ac,1 ≤ a.k ∧ a.k ≤ 5:=by
 rcases h with ⟨j,hj,av,-,-,-,-,-,h6⟩ | ⟨-,-,-,h4⟩
 ·obtain ⟨a1,a2⟩:=hO.acc tb[j] (List.getElem_mem hj)
  rw [h6]
  exact ⟨a1,fun a ha => ⟨(a2 a ha).1,(a2 a ha).2.1⟩⟩
 ·rw [ht] at h4;cases h4
theorem addL_acc {ac : List Ac} {vs : List V2} (hl : vs.length = ac.length) (h : ∀ a ∈ ac,1 ≤ a.k ∧ a.k ≤ 5) : (addL ac vs).length = ac.length ∧ ∀ a ∈ addL ac vs,1 ≤ a.k ∧ a.k ≤ 5:=by
 refine ⟨by simp [addL,hl],fun a ha => ?_⟩
 obtain ⟨b,hb,v,-,rfl⟩:=addL_mem ha
 exact h b hb
theorem addW_len {B : Nat} {ks : List Int} {tb tb' : List Pn} {c : Ct} {wp : Pn} (h : AddW B ks tb c tb' wp) : tb'.length ≤ tb.length + 1:=by
 rcases h with ⟨j,hj,av,-,rfl,-⟩ | ⟨-,⟨i,av,hi,rfl,-⟩,-⟩
 ·simp
 ·simp
  omega
end Go.Proofs.YtcgjflamgnjhcaaGreatDoor
