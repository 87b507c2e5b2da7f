/- The contract of the document's NewDisk, over this seat's translation. Conditions: as named. -/
import Derived.Test.YtjiopjdbifcfkacRef4
namespace Go.Proofs.Ytjiopjdbifcfkac
open Go.ChangeShapes Go.WideShapes Go.ChangeAt Go.RowKit
set_option linter.unusedVariables false
set_option linter.unusedSimpArgs false

theorem refD_app0 {w w5 : World} {B gr : Nat} {kl nl : List ByteArray} {tl : List Tn} {fuse : Int} {down : Bool} {kv nv tv v' : Value} {x : ByteArray} (h : RefD w B gr kl nl tl fuse down kv nv tv) (hk : KeptB w w5 (fun k => kv.ownBlock = some k))
    (ho : w5.ownsRow B 9 1 v' (kl.length + 1) (kl.map Value.string ++ [.string x])) (hob : v'.ownBlock = kv.ownBlock ∨ ∃ k, v'.ownBlock = some k ∧ w.heap.size ≤ k) :
    BlkAt w5 gr [kv, nv, tv, .int .i64 fuse, .bool down] ∧ RefD (w5.setCell ⟨gr, 0, none⟩ v') B gr (kl ++ [x]) nl tl fuse down v' nv tv := by
  have bd5 := blk_kept h.bd hk (fun e => (h.s1 gr e).2.2 rfl)
  have ks : KeptB w5 (w5.setCell ⟨gr, 0, none⟩ v') (fun k => k = gr) := keptB_set (keptB_of_below (bad := fun k => k = gr) (Below.refl w5.heap.size w5)) rfl 0 _
  have hlt9 := h.bd.lt
  have nw : ∀ k, v'.ownBlock = some k → nv.ownBlock ≠ some k ∧ tv.ownBlock ≠ some k := fun k hk => by
    rcases hob with e | ⟨k2, e, hlt⟩
    · rw [e] at hk
      exact ⟨(h.s1 k hk).1, (h.s1 k hk).2.1⟩
    · rw [e] at hk
      have e3 := Option.some.inj hk
      exact ⟨fun e4 => by have := (own_at h.nr k e4).2; omega, fun e4 => by have := (own_at h.tr k e4).2; omega⟩
  have nwgr : ∀ k, v'.ownBlock = some k → k ≠ gr := fun k hk => by
    rcases hob with e | ⟨k2, e, hlt⟩
    · rw [e] at hk
      exact (h.s1 k hk).2.2
    · rw [e] at hk
      have e3 := Option.some.inj hk
      omega
  exact ⟨bd5, ⟨by simpa using blk_set bd5 0 v' (by simp), by simpa using own_kept ho ks (fun k hk => nwgr k hk), own_kept (own_kept h.nr hk (fun k hk e => (h.s1 k e).1 hk)) ks (fun k hk => (h.s2 k hk).2), own_kept (own_kept h.tr hk (fun k hk e => (h.s1 k e).2.1 hk)) ks (fun k hk => h.s3 k hk), fun k hk => ⟨fun e => (nw k hk).1 e, fun e => (nw k hk).2 e, nwgr k hk⟩, h.s2, h.s3, h.b1⟩⟩
theorem refD_app1 {w w5 : World} {B gr : Nat} {kl nl : List ByteArray} {tl : List Tn} {fuse : Int} {down : Bool} {kv nv tv v' : Value} {x : ByteArray} (h : RefD w B gr kl nl tl fuse down kv nv tv) (hk : KeptB w w5 (fun k => nv.ownBlock = some k))
    (ho : w5.ownsRow B 9 1 v' (nl.length + 1) (nl.map Value.string ++ [.string x])) (hob : v'.ownBlock = nv.ownBlock ∨ ∃ k, v'.ownBlock = some k ∧ w.heap.size ≤ k) :
    BlkAt w5 gr [kv, nv, tv, .int .i64 fuse, .bool down] ∧ RefD (w5.setCell ⟨gr, 1, none⟩ v') B gr kl (nl ++ [x]) tl fuse down kv v' tv := by
  have bd5 := blk_kept h.bd hk (fun e => (h.s2 gr e).2 rfl)
  have ks : KeptB w5 (w5.setCell ⟨gr, 1, none⟩ v') (fun k => k = gr) := keptB_set (keptB_of_below (bad := fun k => k = gr) (Below.refl w5.heap.size w5)) rfl 1 _
  have hlt9 := h.bd.lt
  have nw : ∀ k, v'.ownBlock = some k → kv.ownBlock ≠ some k ∧ tv.ownBlock ≠ some k := fun k hk => by
    rcases hob with e | ⟨k2, e, hlt⟩
    · rw [e] at hk
      exact ⟨fun e4 => (h.s1 k e4).1 hk, (h.s2 k hk).1⟩
    · rw [e] at hk
      have e3 := Option.some.inj hk
      exact ⟨fun e4 => by have := (own_at h.kr k e4).2; omega, fun e4 => by have := (own_at h.tr k e4).2; omega⟩
  have nwgr : ∀ k, v'.ownBlock = some k → k ≠ gr := fun k hk => by
    rcases hob with e | ⟨k2, e, hlt⟩
    · rw [e] at hk
      exact (h.s2 k hk).2
    · rw [e] at hk
      have e3 := Option.some.inj hk
      omega
  exact ⟨bd5, ⟨by simpa using blk_set bd5 1 v' (by simp), own_kept (own_kept h.kr hk (fun k hk e => (h.s1 k hk).1 e)) ks (fun k hk => (h.s1 k hk).2.2), by simpa using own_kept ho ks (fun k hk => nwgr k hk), own_kept (own_kept h.tr hk (fun k hk e => (h.s2 k e).1 hk)) ks (fun k hk => h.s3 k hk), fun k hk => ⟨fun e => (nw k e).1 hk, (h.s1 k hk).2.1, (h.s1 k hk).2.2⟩, fun k hk => ⟨(nw k hk).2, nwgr k hk⟩, h.s3, h.b1⟩⟩
set_option maxRecDepth 100000 in
set_option maxHeartbeats 2000000 in
theorem rnew_in (n : Nat) (w : World) (h1 : 1 ≤ n) (h2 : n ≤ 160) :
    Calls Try.prog 8 #[.int .i64 (n : Int)] w fun e w' => ∃ gr kv nv, e = .returned (.tuple #[.pointer (some ⟨gr, 0, none⟩), .int .i64 0]) ∧ Below w.heap.size w w' ∧ w.heap.size ≤ gr ∧ RefD w' w.heap.size gr (List.replicate n (noughtT 256)) (List.replicate n (noughtT 256)) [] (-1) false kv nv (.slice none 0 0) := by
  obtain ⟨i0, hi, hz0, hz1, hz2⟩ := info_parts infoSt
  have d1 : decide ((n : Int) < 1) = false := by simp; omega
  have d2 : decide (160 < (n : Int)) = false := by simp; omega
  have BA := hidE (below_alloc w (.cells #[.slice none 0 0, .slice none 0 0, .slice none 0 0, .int .i64 (-1), .bool false] 49))
  have R0 : Hid (RefD (w.alloc (.cells #[.slice none 0 0, .slice none 0 0, .slice none 0 0, .int .i64 (-1), .bool false] 49)) w.heap.size w.heap.size [] [] [] (-1) false (.slice none 0 0) (.slice none 0 0) (.slice none 0 0)) :=
    ⟨blk_alloc w [.slice none 0 0, .slice none 0 0, .slice none 0 0, .int .i64 (-1), .bool false] 49, World.ownsRow_nil _ _ _ _, World.ownsRow_nil _ _ _ _, World.ownsRow_nil _ _ _ _, fun k hk => by simp [Value.ownBlock] at hk, fun k hk => by simp [Value.ownBlock] at hk, fun k hk => by simp [Value.ownBlock] at hk, Nat.le_refl _⟩
  go_enter Try.func8, Try.ntmps8
  go_wp2_with fail
  clear d1 d2
  obtain ⟨gr, hgr⟩ : ∃ gr, gr = w.heap.size := ⟨_, rfl⟩
  obtain ⟨B, hBB⟩ : ∃ B, B = w.heap.size := ⟨_, rfl⟩
  have R1 : Hid (RefD (w.alloc (.cells #[.slice none 0 0, .slice none 0 0, .slice none 0 0, .int .i64 (-1), .bool false] 49)) B gr [] [] [] (-1) false (.slice none 0 0) (.slice none 0 0) (.slice none 0 0)) := by rw [hgr, hBB]; exact R0.out
  rw [← hgr]
  generalize w.alloc (.cells #[.slice none 0 0, .slice none 0 0, .slice none 0 0, .int .i64 (-1), .bool false] 49) = w1 at *
  have HGR := hidE hgr
  have HBE := hidE hBB
  clear R0 hgr hBB
  go_loopw [5] (fun i wr => ∃ (m : Nat) (kv nv : Value), m ≤ n ∧ i = .int .i64 m ∧ Hid (RefD wr B gr (List.replicate m (noughtT 256)) (List.replicate m (noughtT 256)) [] (-1) false kv nv (.slice none 0 0)) ∧ Hid (Below w.heap.size w wr)) (fun i _ => n - (intOf i).toNat)
  case atStart => exact ⟨0, _, _, Nat.zero_le _, rfl, R1, BA⟩
  case round =>
    obtain ⟨m, kv, nv, hm, rfl, HR, HB⟩ := hrel
    by_cases hlt : m < n
    · have d3 : decide ((m : Int) < (n : Int)) = true := by simp; omega
      obtain ⟨kl, hkl⟩ : ∃ kl, List.replicate m (noughtT 256) = kl := ⟨_, rfl⟩
      have hkm : kl.length = m := by rw [← hkl]; simp
      have ENX : Hid (List.replicate (m + 1) (noughtT 256) = kl ++ [noughtT 256]) := by
        show _ = _
        rw [← hkl, List.replicate_succ']
      rw [hkl] at HR
      have hk1000 : kl.length ≤ 1000 := by omega
      clear hkl hkm
      obtain ⟨ak, ck, rfl⟩ := owns_shapeE HR.out.kr
      obtain ⟨an, cn, rfl⟩ := owns_shapeE HR.out.nr
      go_wp2_with fail
      have cF : wr.cell? ⟨gr, 0, none⟩ = some (.slice ak kl.length ck) := HR.out.bd.c 0 (by simp)
      have lgr := HR.out.bd.lt
      have ngr : ¬ (Value.slice ak kl.length ck).ownBlock = some gr := fun e => (HR.out.s1 gr e).2.2 rfl
      have dd : Below wr.heap.size wr ({ wr with drawn := wr.drawn + 1 } : World) := (Below.refl _ _).drew
      have hS : KeptB wr ({ wr with drawn := wr.drawn + 1 } : World) (fun k => (Value.slice ak kl.length ck).ownBlock = some k) := keptB_of_below dd
      have HDd := hidE (refD_below HR.out dd)
      have HRO := hidE HDd.out.kr
      refine wp_region_last (fun w' => KeptB wr w' (fun k => (Value.slice ak kl.length ck).ownBlock = some k)) 10 (by kernel_rfl) ?_
      generalize ({ wr with drawn := wr.drawn + 1 } : World) = wd at *
      refine last_take (i := 0) (v := .pointer (some ⟨gr, 0, none⟩)) (L := #[true, false, false, false, false, false, false, false, false, false, false]) [8, 9, 10] rfl (by kernel_rfl) (by kernel_rfl) (by kernel_rfl) (by kernel_rfl) (by kernel_rfl) (fun c a w h => h) (Or.inl ⟨by kernel_rfl, fun wq hq => by go_simp⟩) hS (by kernel_rfl) ?_
      refine last_take (i := 1) (v := .pointer (some ⟨gr, 0, none⟩)) (L := #[true, true, false, false, false, false, false, false, false, false, false]) [2, 3, 4, 7, 8, 9, 10] rfl (by kernel_rfl) (by kernel_rfl) (by kernel_rfl) (by kernel_rfl) (by kernel_rfl) (fun c a w h => h) (Or.inl ⟨by kernel_rfl, fun wq hq => by go_simp⟩) hS (by kernel_rfl) ?_
      refine last_take (i := 2) (v := .pointer (some ⟨gr, 0, none⟩)) (L := #[true, true, true, false, false, false, false, false, false, false, false]) [3, 4, 7, 8, 9, 10] rfl (by kernel_rfl) (by kernel_rfl) (by kernel_rfl) (by kernel_rfl) (by kernel_rfl) (fun c a w h => h) (Or.inl ⟨by kernel_rfl, fun wq hq => by go_simp⟩) hS (by kernel_rfl) ?_
      refine last_take (i := 3) (v := .pointer (some ⟨gr, 0, none⟩)) (L := #[true, true, true, true, false, false, false, false, false, false, false]) [4, 7, 8, 9, 10] rfl (by kernel_rfl) (by kernel_rfl) (by kernel_rfl) (by kernel_rfl) (by kernel_rfl) (fun c a w h => h) (Or.inl ⟨by kernel_rfl, fun wq hq => by go_simp⟩) hS (by kernel_rfl) ?_
      refine last_take (i := 4) (v := .slice ak kl.length ck) (L := #[true, true, true, true, true, false, false, false, false, false, false]) [7, 8, 9, 10] rfl (by kernel_rfl) (by kernel_rfl) (by kernel_rfl) (by kernel_rfl) (by kernel_rfl) (fun c a w h => h) (Or.inl ⟨by kernel_rfl, fun wq hq => by have q := kept_cell hq 0 lgr ngr; rw [cF] at q; go_simp⟩) hS (by kernel_rfl) ?_
      refine last_go (i := 5) (L := #[true, true, true, true, true, true, false, false, false, false, false]) (by kernel_rfl) rfl (by kernel_rfl) (by kernel_rfl) ?_
      intro K' hK
      go_simp
      refine (noughts_any 256 wd (by omega)).mono ?_
      rintro e wz ⟨rfl, hbz⟩
      have SZ := hidE (keptB_trans hS (keptB_of_below hbz))
      have HRZ := hidE (own_keep HRO.out hbz (Nat.le_refl _))
      have HDZ := hidE (refD_below HDd.out hbz)
      refine hK _ _ ⟨fun _ => SZ.out, ?_⟩
      clear hK hbz
      refine last_go (i := 6) (L := #[true, true, true, true, true, true, true, false, false, false, false]) (by kernel_rfl) rfl (by kernel_rfl) (by kernel_rfl) ?_
      intro K' hK
      have SA := hidE (kept_alloc SZ.out (.cells #[.string (noughtT 256)] 9))
      have HRA := hidE (own_keep HRZ.out (below_alloc wz (.cells #[.string (noughtT 256)] 9)) (Nat.le_refl _))
      have HDA := hidE (refD_below HDZ.out (below_alloc wz (.cells #[.string (noughtT 256)] 9)))
      have HBS : Hid (B ≤ (wz.alloc (.cells #[.string (noughtT 256)] 9)).heap.size) := by show _ ≤ _; have := HDA.out.b1; have := HDA.out.bd.lt; omega
      have BNW := hidE (blk_alloc wz [.string (noughtT 256)] 9)
      go_simp
      refine hK _ _ ⟨fun _ => SA.out, ?_⟩
      clear hK
      refine last_go (i := 7) (L := #[true, true, true, true, true, true, true, true, false, false, false]) (by kernel_rfl) rfl (by kernel_rfl) (by kernel_rfl) ?_
      intro K' hK
      refine op_append_own (.tmp 23) (.tmp 25) 46 rfl B 9 i0 _ 1 16 Try.underlying46 hi hz0 hz1 hz2 (by kernel_rfl) (by decide) (.slice ak kl.length ck) kl.length (kl.map Value.string) (by kernel_rfl) HRA.out ⟨wz.heap.size, 0, none⟩ 1 1 [.string (noughtT 256)] (by kernel_rfl) rfl (fun j u hu => by rw [add_at, Nat.zero_add, BNW.out.c j (List.getElem?_eq_some_iff.1 hu).1]; exact hu) (by simp [Value.oneCell']) (by show _ ≤ 2 ^ 63 - 1; omega) (by omega) HBS.out ?_
      intro v' w5 ho hg hob2
      obtain ⟨ao', cap', rfl⟩ := owns_shapeE ho
      have HK5 := hidE (keptB_grown SA.out hg (fun k hk _ => hk))
      have KA5 : KeptB (wz.alloc (.cells #[.string (noughtT 256)] 9)) w5 (fun k => (Value.slice ak kl.length ck).ownBlock = some k) := keptB_grown (keptB_of_below (Below.refl _ _)) hg (fun k hk _ => hk)
      obtain ⟨bd5, rd5⟩ := refD_app0 HDA.out KA5 ho (by rcases hob2 with e | e; exact .inl e; exact .inr ⟨_, e, Nat.le_refl _⟩)
      have BD5 := hidE bd5
      have RD5 := hidE rd5
      refine hK _ _ ⟨fun _ => HK5.out, ?_⟩
      clear hK ho hg hob2 bd5 rd5 KA5
      refine last_go (i := 8) (L := #[true, true, true, true, true, true, true, true, true, false, false]) (by kernel_rfl) rfl (by kernel_rfl) (by kernel_rfl) ?_
      intro K' hK
      go_simp
      refine hK _ _ ⟨fun _ => HK5.out, ?_⟩
      clear hK
      refine last_go (i := 9) (L := #[true, true, true, true, true, true, true, true, true, true, false]) (by kernel_rfl) rfl (by kernel_rfl) (by kernel_rfl) ?_
      intro K' hK
      go_simp
      refine hK _ _ ⟨fun _ => HK5.out, ?_⟩
      clear hK
      refine last_go (i := 10) (L := #[true, true, true, true, true, true, true, true, true, true, true]) (by kernel_rfl) rfl (by kernel_rfl) (by kernel_rfl) ?_
      intro K' hK
      have cy : w5.cell? ⟨gr, 0, none⟩ = some (.slice ak kl.length ck) := BD5.out.c 0 (by simp)
      have fy := BD5.out.fz 0
      go_simp
      refine hK _ _ ⟨fun h => absurd rfl h, ?_⟩
      clear hK cy fy
      refine last_done (by kernel_rfl) ?_ _
      have KB6 := keptB_set (keptB_mono (bad' := fun k => k = gr ∨ (Value.slice ak kl.length ck).ownBlock = some k) HK5.out (fun k h => .inr h)) (.inl rfl) 0 (.slice ao' (kl.length + 1) cap')
      have HB6 := hidE (HB.out.trans (keptB_below KB6 HB.out.size (fun k h => by
        rcases h with e | e
        · have := HGR.out; omega
        · have := (own_at HR.out.kr k e).1; have := HBE.out; omega)))
      clear KB6 HK5 BD5 HDA HRA SA HBS BNW SZ HRZ HDZ HDd HRO hS dd lgr ngr cF HR HB d3
      generalize w5.setCell ⟨gr, 0, none⟩ (.slice ao' (kl.length + 1) cap') = w6 at *
      have RDA := hidE RD5.out
      clear RD5
      go_wp2_with fail
      have cF : w6.cell? ⟨gr, 1, none⟩ = some (.slice an kl.length cn) := RDA.out.bd.c 1 (by simp)
      have lgr := RDA.out.bd.lt
      have ngr : ¬ (Value.slice an kl.length cn).ownBlock = some gr := fun e => (RDA.out.s2 gr e).2 rfl
      have dd : Below w6.heap.size w6 ({ w6 with drawn := w6.drawn + 1 } : World) := (Below.refl _ _).drew
      have hS : KeptB w6 ({ w6 with drawn := w6.drawn + 1 } : World) (fun k => (Value.slice an kl.length cn).ownBlock = some k) := keptB_of_below dd
      have HDd := hidE (refD_below RDA.out dd)
      have HRO := hidE HDd.out.nr
      refine wp_region_last (fun w' => KeptB w6 w' (fun k => (Value.slice an kl.length cn).ownBlock = some k)) 10 (by kernel_rfl) ?_
      generalize ({ w6 with drawn := w6.drawn + 1 } : World) = wd at *
      refine last_take (i := 0) (v := .pointer (some ⟨gr, 0, none⟩)) (L := #[true, false, false, false, false, false, false, false, false, false, false]) [8, 9, 10] rfl (by kernel_rfl) (by kernel_rfl) (by kernel_rfl) (by kernel_rfl) (by kernel_rfl) (fun c a w h => h) (Or.inl ⟨by kernel_rfl, fun wq hq => by go_simp⟩) hS (by kernel_rfl) ?_
      refine last_take (i := 1) (v := .pointer (some ⟨gr, 0, none⟩)) (L := #[true, true, false, false, false, false, false, false, false, false, false]) [2, 3, 4, 7, 8, 9, 10] rfl (by kernel_rfl) (by kernel_rfl) (by kernel_rfl) (by kernel_rfl) (by kernel_rfl) (fun c a w h => h) (Or.inl ⟨by kernel_rfl, fun wq hq => by go_simp⟩) hS (by kernel_rfl) ?_
      refine last_take (i := 2) (v := .pointer (some ⟨gr, 0, none⟩)) (L := #[true, true, true, false, false, false, false, false, false, false, false]) [3, 4, 7, 8, 9, 10] rfl (by kernel_rfl) (by kernel_rfl) (by kernel_rfl) (by kernel_rfl) (by kernel_rfl) (fun c a w h => h) (Or.inl ⟨by kernel_rfl, fun wq hq => by go_simp⟩) hS (by kernel_rfl) ?_
      refine last_take (i := 3) (v := .pointer (some ⟨gr, 1, none⟩)) (L := #[true, true, true, true, false, false, false, false, false, false, false]) [4, 7, 8, 9, 10] rfl (by kernel_rfl) (by kernel_rfl) (by kernel_rfl) (by kernel_rfl) (by kernel_rfl) (fun c a w h => h) (Or.inl ⟨by kernel_rfl, fun wq hq => by go_simp⟩) hS (by kernel_rfl) ?_
      refine last_take (i := 4) (v := .slice an kl.length cn) (L := #[true, true, true, true, true, false, false, false, false, false, false]) [7, 8, 9, 10] rfl (by kernel_rfl) (by kernel_rfl) (by kernel_rfl) (by kernel_rfl) (by kernel_rfl) (fun c a w h => h) (Or.inl ⟨by kernel_rfl, fun wq hq => by have q := kept_cell hq 1 lgr ngr; rw [cF] at q; go_simp⟩) hS (by kernel_rfl) ?_
      refine last_go (i := 5) (L := #[true, true, true, true, true, true, false, false, false, false, false]) (by kernel_rfl) rfl (by kernel_rfl) (by kernel_rfl) ?_
      intro K' hK
      go_simp
      refine (noughts_any 256 wd (by omega)).mono ?_
      rintro e wz ⟨rfl, hbz⟩
      have SZ := hidE (keptB_trans hS (keptB_of_below hbz))
      have HRZ := hidE (own_keep HRO.out hbz (Nat.le_refl _))
      have HDZ := hidE (refD_below HDd.out hbz)
      refine hK _ _ ⟨fun _ => SZ.out, ?_⟩
      clear hK hbz
      refine last_go (i := 6) (L := #[true, true, true, true, true, true, true, false, false, false, false]) (by kernel_rfl) rfl (by kernel_rfl) (by kernel_rfl) ?_
      intro K' hK
      have SA := hidE (kept_alloc SZ.out (.cells #[.string (noughtT 256)] 9))
      have HRA := hidE (own_keep HRZ.out (below_alloc wz (.cells #[.string (noughtT 256)] 9)) (Nat.le_refl _))
      have HDA := hidE (refD_below HDZ.out (below_alloc wz (.cells #[.string (noughtT 256)] 9)))
      have HBS : Hid (B ≤ (wz.alloc (.cells #[.string (noughtT 256)] 9)).heap.size) := by show _ ≤ _; have := HDA.out.b1; have := HDA.out.bd.lt; omega
      have BNW := hidE (blk_alloc wz [.string (noughtT 256)] 9)
      go_simp
      refine hK _ _ ⟨fun _ => SA.out, ?_⟩
      clear hK
      refine last_go (i := 7) (L := #[true, true, true, true, true, true, true, true, false, false, false]) (by kernel_rfl) rfl (by kernel_rfl) (by kernel_rfl) ?_
      intro K' hK
      refine op_append_own (.tmp 33) (.tmp 35) 46 rfl B 9 i0 _ 1 16 Try.underlying46 hi hz0 hz1 hz2 (by kernel_rfl) (by decide) (.slice an kl.length cn) kl.length (kl.map Value.string) (by kernel_rfl) HRA.out ⟨wz.heap.size, 0, none⟩ 1 1 [.string (noughtT 256)] (by kernel_rfl) rfl (fun j u hu => by rw [add_at, Nat.zero_add, BNW.out.c j (List.getElem?_eq_some_iff.1 hu).1]; exact hu) (by simp [Value.oneCell']) (by show _ ≤ 2 ^ 63 - 1; omega) (by omega) HBS.out ?_
      intro v' w5 ho hg hob2
      obtain ⟨ao', cap', rfl⟩ := owns_shapeE ho
      have HK5 := hidE (keptB_grown SA.out hg (fun k hk _ => hk))
      have KA5 : KeptB (wz.alloc (.cells #[.string (noughtT 256)] 9)) w5 (fun k => (Value.slice an kl.length cn).ownBlock = some k) := keptB_grown (keptB_of_below (Below.refl _ _)) hg (fun k hk _ => hk)
      obtain ⟨bd5, rd5⟩ := refD_app1 HDA.out KA5 ho (by rcases hob2 with e | e; exact .inl e; exact .inr ⟨_, e, Nat.le_refl _⟩)
      have BD5 := hidE bd5
      have RD5 := hidE rd5
      refine hK _ _ ⟨fun _ => HK5.out, ?_⟩
      clear hK ho hg hob2 bd5 rd5 KA5
      refine last_go (i := 8) (L := #[true, true, true, true, true, true, true, true, true, false, false]) (by kernel_rfl) rfl (by kernel_rfl) (by kernel_rfl) ?_
      intro K' hK
      go_simp
      refine hK _ _ ⟨fun _ => HK5.out, ?_⟩
      clear hK
      refine last_go (i := 9) (L := #[true, true, true, true, true, true, true, true, true, true, false]) (by kernel_rfl) rfl (by kernel_rfl) (by kernel_rfl) ?_
      intro K' hK
      go_simp
      refine hK _ _ ⟨fun _ => HK5.out, ?_⟩
      clear hK
      refine last_go (i := 10) (L := #[true, true, true, true, true, true, true, true, true, true, true]) (by kernel_rfl) rfl (by kernel_rfl) (by kernel_rfl) ?_
      intro K' hK
      have cy : w5.cell? ⟨gr, 1, none⟩ = some (.slice an kl.length cn) := BD5.out.c 1 (by simp)
      have fy := BD5.out.fz 1
      go_simp
      refine hK _ _ ⟨fun h => absurd rfl h, ?_⟩
      clear hK cy fy
      refine last_done (by kernel_rfl) ?_ _
      have KB7 := keptB_set (keptB_mono (bad' := fun k => k = gr ∨ (Value.slice an kl.length cn).ownBlock = some k) HK5.out (fun k h => .inr h)) (.inl rfl) 1 (.slice ao' (kl.length + 1) cap')
      have HB7 := hidE (HB6.out.trans (keptB_below KB7 HB6.out.size (fun k h => by
        rcases h with e | e
        · have := HGR.out; omega
        · have := (own_at RDA.out.nr k e).1; have := HBE.out; omega)))
      clear KB7 HK5 BD5 HDA HRA SA HBS BNW SZ HRZ HDZ HDd HRO hS dd lgr ngr cF RDA HB6
      generalize w5.setCell ⟨gr, 1, none⟩ (.slice ao' (kl.length + 1) cap') = w7 at *
      rw [← ENX.out] at RD5
      go_wp2_with fail
      go_roundw
      case rel => exact ⟨m + 1, _, _, by omega, by go_num, RD5, HB7⟩
      case measure => simp [intOf]; omega
    · have hme : m = n := by omega
      subst hme
      go_wp2_with fail
      go_ret2
      exact ⟨gr, kv, nv, rfl, HB.out, by have := HGR.out; omega, by rw [← HBE.out]; exact HR.out⟩
end Go.Proofs.Ytjiopjdbifcfkac
