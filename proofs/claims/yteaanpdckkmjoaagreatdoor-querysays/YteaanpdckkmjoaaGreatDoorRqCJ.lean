/- Several texts in one, each with its own head. What is proved: what the parts say. Conditions: theirs. -/
import Derived.Test.YteaanpdckkmjoaaGreatDoorRqBJ
import Derived.Test.YteaanpdckkmjoaaGreatDoorPrsBJ
import Derived.Test.YteaanpdckkmjoaaGreatDoorParsePureJ
set_option linter.unusedVariables false
set_option linter.unusedSimpArgs false
set_option maxRecDepth 100000
set_option maxHeartbeats 8000000
namespace Go.Proofs.YteaanpdckkmjoaaGreatDoor
open Go.ChangeShapes Go.WideShapes Go.ChangeAt Go.RowKit Go.Great
theorem rrest_f0 (g : Nat) (wv : Value) (all : Ws) (hne : ∀ x ∈ all,x ≠ ⟨#[]⟩) (hsz : ∀ x ∈ all,x.size ≤ 240) (n : Nat) (ws ws1 : Ws) (d : Int) (w : World) (h : RD w g wv all n ws d 0) (ht : tk wOpen ws = none) (hcons : ws = hdW ws :: ws1) (hl : leafQ (hdW ws) = some ⟨2,0,0,0,0,0⟩)
  (e0 : ((hdW ws).toList == [116]) = true) :
  Calls Tryz.prog 61 #[.pointer (some ⟨g,0,none⟩)] w fun r w' => ∃ v,r = .returned v ∧ isSl v = true ∧ RLu w w' g wv all d (.ok ([⟨2,0,0,0,0,0⟩],ws1)) v:=by
 have NX:=hidE (rnext_any g wv all n ws d 0 w h)
 have H:=hidE h
 have HSZ:=hidE hsz
 have TK:=fun w hp => rtake_any g wOpen (by decide) wv all hne n ws d 0 w hp
 unfold RTakeR at TK
 simp only [ht] at TK
 unfold wOpen at TK
 have TK:=hidE TK
 have WN:=hidE (leaf_wf (s:=hdW ws) hl)
 have h2:=h
 rw [hcons] at h2
 obtain ⟨-,hn,hd⟩:=ws_one h2.ws0
 have hlt : n < 100:=by have:=h.few;omega
 have hln : n < all.length:=hn
 have HD:=hidE hd
 clear h2 hd hn hcons hl
 obtain ⟨i0,hi0,hz0,hz1,hz2⟩:=info_parts infoN
 clear h ht hne hsz
 generalize hdW ws = x at *
 go_enter Tryz.func61,Tryz.ntmps61
 go_wp2_with fail
 refine NX.out.mono ?_
 rintro r w0 ⟨rfl,hb⟩
 have TK0:=hidE (TK.out w0 (rd_kept H.out hb))
 have HB0 : Hid (KeptB w w0 (fun q => q = g)):=keptB_of_below hb
 clear hb NX TK H
 go_wp2_with fail
 refine TK0.out.mono ?_
 rintro r w1 ⟨rfl,hk,hp⟩
 have ba:=below_alloc w1 (.cells #[.string ⟨#[116]⟩,.string ⟨#[107]⟩,.string ⟨#[97]⟩,.string ⟨#[98]⟩] 9)
 have HK:=hidE (keptB_trans (keptB_trans HB0.out hk) (keptB_of_below (bad:=fun q => q = g) ba))
 have HP:=hidE (rd_kept hp ba)
 have BL:=blk_alloc w1 [.string ⟨#[116]⟩,.string ⟨#[107]⟩,.string ⟨#[97]⟩,.string ⟨#[98]⟩] 9
 have k0:=BL.c 0 (by simp)
 have k1:=BL.c 1 (by simp)
 have k2:=BL.c 2 (by simp)
 have k3:=BL.c 3 (by simp)
 simp only [List.getElem?_cons_zero,List.getElem?_cons_succ] at k0 k1 k2 k3
 clear hk hp TK0 HB0 ba BL
 go_wp2_with fail
 generalize hw2 : (w1.alloc (.cells [.string ⟨#[116]⟩,.string ⟨#[107]⟩,.string ⟨#[97]⟩,.string ⟨#[98]⟩].toArray 9)) = w2 at *
 clear hw2
 go_loopw [7] (fun iv wr => ∃ k : Nat,k ≤ 0 ∧ iv = .int .i64 k ∧ wr = w2) (fun iv _ => 4 - (intOf iv).toNat)
 case atStart => exact ⟨0,by omega,rfl,rfl⟩
 case round =>
  obtain ⟨k,hk,rfl,rfl⟩:=hrel
  have hk2 : k = 0:=by omega
  clear hk
  rcases hk2 with rfl
  ·skip
   have c1 : wr.cell? ⟨g,1,none⟩ = some (.int .i64 (n : Int)):=HP.out.bd.c 1 (by simp)
   have f1:=HP.out.bd.fz 1
   have B1:=blk_set HP.out.bd 1 (.int .i64 ((n : Int) + 1)) (by simp)
   have P1:=hidE (rd_set HP.out 1 (.int .i64 ((n : Int) + 1)) (n':=n + 1) (ws':=ws1) (d':=d) (e':=0) (by simpa using B1) (by omega) (Int.le_refl _) (by rw [if_pos rfl];exact HD.out.symm))
   clear B1
   go_wp2_with (refine wpList_buildOneN rfl 23 91 _ rfl [.int .i64 2,.int .i64 0,.int .i64 0,.int .i64 0,.int .i64 0,.int .i64 0] 6 rfl i0 _ Tryz.underlying23 hi0 hz0 hz2 rfl (by omega) (by omega) ?_)
   go_ret
   have bz:=below_alloc (wr.setCell ⟨g,1,none⟩ (.int .i64 ((n : Int) + 1))) (.cells #[.int .i64 2,.int .i64 0,.int .i64 0,.int .i64 0,.int .i64 0,.int .i64 0] 91)
   have h9 : (wr.setCell ⟨g,1,none⟩ (.int .i64 ((n : Int) + 1))).heap.size = wr.heap.size:=by simp
   have ND:=nds_one ⟨2,0,0,0,0,0⟩ P1.out.1.bd.lt WN.out
   rw [h9] at ND
   exact ⟨.slice (some ⟨wr.heap.size,0,none⟩) 1 1,rfl,rfl,keptB_trans (keptB_trans HK.out P1.out.2) (keptB_of_below bz),n + 1,ND,rd_kept P1.out.1 bz⟩
theorem rrest_f1 (g : Nat) (wv : Value) (all : Ws) (hne : ∀ x ∈ all,x ≠ ⟨#[]⟩) (hsz : ∀ x ∈ all,x.size ≤ 240) (n : Nat) (ws ws1 : Ws) (d : Int) (w : World) (h : RD w g wv all n ws d 0) (ht : tk wOpen ws = none) (hcons : ws = hdW ws :: ws1) (hl : leafQ (hdW ws) = some ⟨2,0,0,1,0,0⟩)
  (e0 : ((hdW ws).toList == [116]) = false) (e1 : ((hdW ws).toList == [107]) = true) :
  Calls Tryz.prog 61 #[.pointer (some ⟨g,0,none⟩)] w fun r w' => ∃ v,r = .returned v ∧ isSl v = true ∧ RLu w w' g wv all d (.ok ([⟨2,0,0,1,0,0⟩],ws1)) v:=by
 have NX:=hidE (rnext_any g wv all n ws d 0 w h)
 have H:=hidE h
 have HSZ:=hidE hsz
 have TK:=fun w hp => rtake_any g wOpen (by decide) wv all hne n ws d 0 w hp
 unfold RTakeR at TK
 simp only [ht] at TK
 unfold wOpen at TK
 have TK:=hidE TK
 have WN:=hidE (leaf_wf (s:=hdW ws) hl)
 have h2:=h
 rw [hcons] at h2
 obtain ⟨-,hn,hd⟩:=ws_one h2.ws0
 have hlt : n < 100:=by have:=h.few;omega
 have hln : n < all.length:=hn
 have HD:=hidE hd
 clear h2 hd hn hcons hl
 obtain ⟨i0,hi0,hz0,hz1,hz2⟩:=info_parts infoN
 clear h ht hne hsz
 generalize hdW ws = x at *
 go_enter Tryz.func61,Tryz.ntmps61
 go_wp2_with fail
 refine NX.out.mono ?_
 rintro r w0 ⟨rfl,hb⟩
 have TK0:=hidE (TK.out w0 (rd_kept H.out hb))
 have HB0 : Hid (KeptB w w0 (fun q => q = g)):=keptB_of_below hb
 clear hb NX TK H
 go_wp2_with fail
 refine TK0.out.mono ?_
 rintro r w1 ⟨rfl,hk,hp⟩
 have ba:=below_alloc w1 (.cells #[.string ⟨#[116]⟩,.string ⟨#[107]⟩,.string ⟨#[97]⟩,.string ⟨#[98]⟩] 9)
 have HK:=hidE (keptB_trans (keptB_trans HB0.out hk) (keptB_of_below (bad:=fun q => q = g) ba))
 have HP:=hidE (rd_kept hp ba)
 have BL:=blk_alloc w1 [.string ⟨#[116]⟩,.string ⟨#[107]⟩,.string ⟨#[97]⟩,.string ⟨#[98]⟩] 9
 have k0:=BL.c 0 (by simp)
 have k1:=BL.c 1 (by simp)
 have k2:=BL.c 2 (by simp)
 have k3:=BL.c 3 (by simp)
 simp only [List.getElem?_cons_zero,List.getElem?_cons_succ] at k0 k1 k2 k3
 clear hk hp TK0 HB0 ba BL
 go_wp2_with fail
 generalize hw2 : (w1.alloc (.cells [.string ⟨#[116]⟩,.string ⟨#[107]⟩,.string ⟨#[97]⟩,.string ⟨#[98]⟩].toArray 9)) = w2 at *
 clear hw2
 go_loopw [7] (fun iv wr => ∃ k : Nat,k ≤ 1 ∧ iv = .int .i64 k ∧ wr = w2) (fun iv _ => 4 - (intOf iv).toNat)
 case atStart => exact ⟨0,by omega,rfl,rfl⟩
 case round =>
  obtain ⟨k,hk,rfl,rfl⟩:=hrel
  have hk2 : k = 0 ∨ k = 1:=by omega
  clear hk
  rcases hk2 with rfl | rfl
  ·go_wp2_with fail
   go_roundw
   case rel => exact ⟨1,by omega,by first | rfl | go_num | trivial,by first | rfl | trivial⟩
   case measure => simp [intOf]
  ·skip
   have c1 : wr.cell? ⟨g,1,none⟩ = some (.int .i64 (n : Int)):=HP.out.bd.c 1 (by simp)
   have f1:=HP.out.bd.fz 1
   have B1:=blk_set HP.out.bd 1 (.int .i64 ((n : Int) + 1)) (by simp)
   have P1:=hidE (rd_set HP.out 1 (.int .i64 ((n : Int) + 1)) (n':=n + 1) (ws':=ws1) (d':=d) (e':=0) (by simpa using B1) (by omega) (Int.le_refl _) (by rw [if_pos rfl];exact HD.out.symm))
   clear B1
   go_wp2_with (refine wpList_buildOneN rfl 23 91 _ rfl [.int .i64 2,.int .i64 0,.int .i64 0,.int .i64 1,.int .i64 0,.int .i64 0] 6 rfl i0 _ Tryz.underlying23 hi0 hz0 hz2 rfl (by omega) (by omega) ?_)
   go_ret
   have bz:=below_alloc (wr.setCell ⟨g,1,none⟩ (.int .i64 ((n : Int) + 1))) (.cells #[.int .i64 2,.int .i64 0,.int .i64 0,.int .i64 1,.int .i64 0,.int .i64 0] 91)
   have h9 : (wr.setCell ⟨g,1,none⟩ (.int .i64 ((n : Int) + 1))).heap.size = wr.heap.size:=by simp
   have ND:=nds_one ⟨2,0,0,1,0,0⟩ P1.out.1.bd.lt WN.out
   rw [h9] at ND
   exact ⟨.slice (some ⟨wr.heap.size,0,none⟩) 1 1,rfl,rfl,keptB_trans (keptB_trans HK.out P1.out.2) (keptB_of_below bz),n + 1,ND,rd_kept P1.out.1 bz⟩
theorem rrest_f2 (g : Nat) (wv : Value) (all : Ws) (hne : ∀ x ∈ all,x ≠ ⟨#[]⟩) (hsz : ∀ x ∈ all,x.size ≤ 240) (n : Nat) (ws ws1 : Ws) (d : Int) (w : World) (h : RD w g wv all n ws d 0) (ht : tk wOpen ws = none) (hcons : ws = hdW ws :: ws1) (hl : leafQ (hdW ws) = some ⟨2,0,0,2,0,0⟩)
  (e0 : ((hdW ws).toList == [116]) = false) (e1 : ((hdW ws).toList == [107]) = false) (e2 : ((hdW ws).toList == [97]) = true) :
  Calls Tryz.prog 61 #[.pointer (some ⟨g,0,none⟩)] w fun r w' => ∃ v,r = .returned v ∧ isSl v = true ∧ RLu w w' g wv all d (.ok ([⟨2,0,0,2,0,0⟩],ws1)) v:=by
 have NX:=hidE (rnext_any g wv all n ws d 0 w h)
 have H:=hidE h
 have HSZ:=hidE hsz
 have TK:=fun w hp => rtake_any g wOpen (by decide) wv all hne n ws d 0 w hp
 unfold RTakeR at TK
 simp only [ht] at TK
 unfold wOpen at TK
 have TK:=hidE TK
 have WN:=hidE (leaf_wf (s:=hdW ws) hl)
 have h2:=h
 rw [hcons] at h2
 obtain ⟨-,hn,hd⟩:=ws_one h2.ws0
 have hlt : n < 100:=by have:=h.few;omega
 have hln : n < all.length:=hn
 have HD:=hidE hd
 clear h2 hd hn hcons hl
 obtain ⟨i0,hi0,hz0,hz1,hz2⟩:=info_parts infoN
 clear h ht hne hsz
 generalize hdW ws = x at *
 go_enter Tryz.func61,Tryz.ntmps61
 go_wp2_with fail
 refine NX.out.mono ?_
 rintro r w0 ⟨rfl,hb⟩
 have TK0:=hidE (TK.out w0 (rd_kept H.out hb))
 have HB0 : Hid (KeptB w w0 (fun q => q = g)):=keptB_of_below hb
 clear hb NX TK H
 go_wp2_with fail
 refine TK0.out.mono ?_
 rintro r w1 ⟨rfl,hk,hp⟩
 have ba:=below_alloc w1 (.cells #[.string ⟨#[116]⟩,.string ⟨#[107]⟩,.string ⟨#[97]⟩,.string ⟨#[98]⟩] 9)
 have HK:=hidE (keptB_trans (keptB_trans HB0.out hk) (keptB_of_below (bad:=fun q => q = g) ba))
 have HP:=hidE (rd_kept hp ba)
 have BL:=blk_alloc w1 [.string ⟨#[116]⟩,.string ⟨#[107]⟩,.string ⟨#[97]⟩,.string ⟨#[98]⟩] 9
 have k0:=BL.c 0 (by simp)
 have k1:=BL.c 1 (by simp)
 have k2:=BL.c 2 (by simp)
 have k3:=BL.c 3 (by simp)
 simp only [List.getElem?_cons_zero,List.getElem?_cons_succ] at k0 k1 k2 k3
 clear hk hp TK0 HB0 ba BL
 go_wp2_with fail
 generalize hw2 : (w1.alloc (.cells [.string ⟨#[116]⟩,.string ⟨#[107]⟩,.string ⟨#[97]⟩,.string ⟨#[98]⟩].toArray 9)) = w2 at *
 clear hw2
 go_loopw [7] (fun iv wr => ∃ k : Nat,k ≤ 2 ∧ iv = .int .i64 k ∧ wr = w2) (fun iv _ => 4 - (intOf iv).toNat)
 case atStart => exact ⟨0,by omega,rfl,rfl⟩
 case round =>
  obtain ⟨k,hk,rfl,rfl⟩:=hrel
  have hk2 : k = 0 ∨ k = 1 ∨ k = 2:=by omega
  clear hk
  rcases hk2 with rfl | rfl | rfl
  ·go_wp2_with fail
   go_roundw
   case rel => exact ⟨1,by omega,by first | rfl | go_num | trivial,by first | rfl | trivial⟩
   case measure => simp [intOf]
  ·go_wp2_with fail
   go_roundw
   case rel => exact ⟨2,by omega,by first | rfl | go_num | trivial,by first | rfl | trivial⟩
   case measure => simp [intOf]
  ·skip
   have c1 : wr.cell? ⟨g,1,none⟩ = some (.int .i64 (n : Int)):=HP.out.bd.c 1 (by simp)
   have f1:=HP.out.bd.fz 1
   have B1:=blk_set HP.out.bd 1 (.int .i64 ((n : Int) + 1)) (by simp)
   have P1:=hidE (rd_set HP.out 1 (.int .i64 ((n : Int) + 1)) (n':=n + 1) (ws':=ws1) (d':=d) (e':=0) (by simpa using B1) (by omega) (Int.le_refl _) (by rw [if_pos rfl];exact HD.out.symm))
   clear B1
   go_wp2_with (refine wpList_buildOneN rfl 23 91 _ rfl [.int .i64 2,.int .i64 0,.int .i64 0,.int .i64 2,.int .i64 0,.int .i64 0] 6 rfl i0 _ Tryz.underlying23 hi0 hz0 hz2 rfl (by omega) (by omega) ?_)
   go_ret
   have bz:=below_alloc (wr.setCell ⟨g,1,none⟩ (.int .i64 ((n : Int) + 1))) (.cells #[.int .i64 2,.int .i64 0,.int .i64 0,.int .i64 2,.int .i64 0,.int .i64 0] 91)
   have h9 : (wr.setCell ⟨g,1,none⟩ (.int .i64 ((n : Int) + 1))).heap.size = wr.heap.size:=by simp
   have ND:=nds_one ⟨2,0,0,2,0,0⟩ P1.out.1.bd.lt WN.out
   rw [h9] at ND
   exact ⟨.slice (some ⟨wr.heap.size,0,none⟩) 1 1,rfl,rfl,keptB_trans (keptB_trans HK.out P1.out.2) (keptB_of_below bz),n + 1,ND,rd_kept P1.out.1 bz⟩
theorem rrest_f3 (g : Nat) (wv : Value) (all : Ws) (hne : ∀ x ∈ all,x ≠ ⟨#[]⟩) (hsz : ∀ x ∈ all,x.size ≤ 240) (n : Nat) (ws ws1 : Ws) (d : Int) (w : World) (h : RD w g wv all n ws d 0) (ht : tk wOpen ws = none) (hcons : ws = hdW ws :: ws1) (hl : leafQ (hdW ws) = some ⟨2,0,0,3,0,0⟩)
  (e0 : ((hdW ws).toList == [116]) = false) (e1 : ((hdW ws).toList == [107]) = false) (e2 : ((hdW ws).toList == [97]) = false) (e3 : ((hdW ws).toList == [98]) = true) :
  Calls Tryz.prog 61 #[.pointer (some ⟨g,0,none⟩)] w fun r w' => ∃ v,r = .returned v ∧ isSl v = true ∧ RLu w w' g wv all d (.ok ([⟨2,0,0,3,0,0⟩],ws1)) v:=by
 have NX:=hidE (rnext_any g wv all n ws d 0 w h)
 have H:=hidE h
 have HSZ:=hidE hsz
 have TK:=fun w hp => rtake_any g wOpen (by decide) wv all hne n ws d 0 w hp
 unfold RTakeR at TK
 simp only [ht] at TK
 unfold wOpen at TK
 have TK:=hidE TK
 have WN:=hidE (leaf_wf (s:=hdW ws) hl)
 have h2:=h
 rw [hcons] at h2
 obtain ⟨-,hn,hd⟩:=ws_one h2.ws0
 have hlt : n < 100:=by have:=h.few;omega
 have hln : n < all.length:=hn
 have HD:=hidE hd
 clear h2 hd hn hcons hl
 obtain ⟨i0,hi0,hz0,hz1,hz2⟩:=info_parts infoN
 clear h ht hne hsz
 generalize hdW ws = x at *
 go_enter Tryz.func61,Tryz.ntmps61
 go_wp2_with fail
 refine NX.out.mono ?_
 rintro r w0 ⟨rfl,hb⟩
 have TK0:=hidE (TK.out w0 (rd_kept H.out hb))
 have HB0 : Hid (KeptB w w0 (fun q => q = g)):=keptB_of_below hb
 clear hb NX TK H
 go_wp2_with fail
 refine TK0.out.mono ?_
 rintro r w1 ⟨rfl,hk,hp⟩
 have ba:=below_alloc w1 (.cells #[.string ⟨#[116]⟩,.string ⟨#[107]⟩,.string ⟨#[97]⟩,.string ⟨#[98]⟩] 9)
 have HK:=hidE (keptB_trans (keptB_trans HB0.out hk) (keptB_of_below (bad:=fun q => q = g) ba))
 have HP:=hidE (rd_kept hp ba)
 have BL:=blk_alloc w1 [.string ⟨#[116]⟩,.string ⟨#[107]⟩,.string ⟨#[97]⟩,.string ⟨#[98]⟩] 9
 have k0:=BL.c 0 (by simp)
 have k1:=BL.c 1 (by simp)
 have k2:=BL.c 2 (by simp)
 have k3:=BL.c 3 (by simp)
 simp only [List.getElem?_cons_zero,List.getElem?_cons_succ] at k0 k1 k2 k3
 clear hk hp TK0 HB0 ba BL
 go_wp2_with fail
 generalize hw2 : (w1.alloc (.cells [.string ⟨#[116]⟩,.string ⟨#[107]⟩,.string ⟨#[97]⟩,.string ⟨#[98]⟩].toArray 9)) = w2 at *
 clear hw2
 go_loopw [7] (fun iv wr => ∃ k : Nat,k ≤ 3 ∧ iv = .int .i64 k ∧ wr = w2) (fun iv _ => 4 - (intOf iv).toNat)
 case atStart => exact ⟨0,by omega,rfl,rfl⟩
 case round =>
  obtain ⟨k,hk,rfl,rfl⟩:=hrel
  have hk2 : k = 0 ∨ k = 1 ∨ k = 2 ∨ k = 3:=by omega
  clear hk
  rcases hk2 with rfl | rfl | rfl | rfl
  ·go_wp2_with fail
   go_roundw
   case rel => exact ⟨1,by omega,by first | rfl | go_num | trivial,by first | rfl | trivial⟩
   case measure => simp [intOf]
  ·go_wp2_with fail
   go_roundw
   case rel => exact ⟨2,by omega,by first | rfl | go_num | trivial,by first | rfl | trivial⟩
   case measure => simp [intOf]
  ·go_wp2_with fail
   go_roundw
   case rel => exact ⟨3,by omega,by first | rfl | go_num | trivial,by first | rfl | trivial⟩
   case measure => simp [intOf]
  ·skip
   have c1 : wr.cell? ⟨g,1,none⟩ = some (.int .i64 (n : Int)):=HP.out.bd.c 1 (by simp)
   have f1:=HP.out.bd.fz 1
   have B1:=blk_set HP.out.bd 1 (.int .i64 ((n : Int) + 1)) (by simp)
   have P1:=hidE (rd_set HP.out 1 (.int .i64 ((n : Int) + 1)) (n':=n + 1) (ws':=ws1) (d':=d) (e':=0) (by simpa using B1) (by omega) (Int.le_refl _) (by rw [if_pos rfl];exact HD.out.symm))
   clear B1
   go_wp2_with (refine wpList_buildOneN rfl 23 91 _ rfl [.int .i64 2,.int .i64 0,.int .i64 0,.int .i64 3,.int .i64 0,.int .i64 0] 6 rfl i0 _ Tryz.underlying23 hi0 hz0 hz2 rfl (by omega) (by omega) ?_)
   go_ret
   have bz:=below_alloc (wr.setCell ⟨g,1,none⟩ (.int .i64 ((n : Int) + 1))) (.cells #[.int .i64 2,.int .i64 0,.int .i64 0,.int .i64 3,.int .i64 0,.int .i64 0] 91)
   have h9 : (wr.setCell ⟨g,1,none⟩ (.int .i64 ((n : Int) + 1))).heap.size = wr.heap.size:=by simp
   have ND:=nds_one ⟨2,0,0,3,0,0⟩ P1.out.1.bd.lt WN.out
   rw [h9] at ND
   exact ⟨.slice (some ⟨wr.heap.size,0,none⟩) 1 1,rfl,rfl,keptB_trans (keptB_trans HK.out P1.out.2) (keptB_of_below bz),n + 1,ND,rd_kept P1.out.1 bz⟩
theorem rrest_null (g : Nat) (wv : Value) (all : Ws) (hne : ∀ x ∈ all,x ≠ ⟨#[]⟩) (hsz : ∀ x ∈ all,x.size ≤ 240) (n : Nat) (ws ws1 : Ws) (d : Int) (w : World) (h : RD w g wv all n ws d 0) (ht : tk wOpen ws = none) (hcons : ws = hdW ws :: ws1) (hl : leafQ (hdW ws) = some ⟨1,0,0,0,0,0⟩)
  (e0 : ((hdW ws).toList == [116]) = false) (e1 : ((hdW ws).toList == [107]) = false) (e2 : ((hdW ws).toList == [97]) = false) (e3 : ((hdW ws).toList == [98]) = false) (e4 : ((hdW ws).toList == [110,117,108,108]) = true) :
  Calls Tryz.prog 61 #[.pointer (some ⟨g,0,none⟩)] w fun r w' => ∃ v,r = .returned v ∧ isSl v = true ∧ RLu w w' g wv all d (.ok ([⟨1,0,0,0,0,0⟩],ws1)) v:=by
 have NX:=hidE (rnext_any g wv all n ws d 0 w h)
 have H:=hidE h
 have HSZ:=hidE hsz
 have TK:=fun w hp => rtake_any g wOpen (by decide) wv all hne n ws d 0 w hp
 unfold RTakeR at TK
 simp only [ht] at TK
 unfold wOpen at TK
 have TK:=hidE TK
 have WN:=hidE (leaf_wf (s:=hdW ws) hl)
 have h2:=h
 rw [hcons] at h2
 obtain ⟨-,hn,hd⟩:=ws_one h2.ws0
 have hlt : n < 100:=by have:=h.few;omega
 have hln : n < all.length:=hn
 have HD:=hidE hd
 clear h2 hd hn hcons hl
 have VO:=hidE (fun w => voQ_null (hdW ws) w e4)
 obtain ⟨i0,hi0,hz0,hz1,hz2⟩:=info_parts infoN
 clear h ht hne hsz
 generalize hdW ws = x at *
 go_enter Tryz.func61,Tryz.ntmps61
 go_wp2_with fail
 refine NX.out.mono ?_
 rintro r w0 ⟨rfl,hb⟩
 have TK0:=hidE (TK.out w0 (rd_kept H.out hb))
 have HB0 : Hid (KeptB w w0 (fun q => q = g)):=keptB_of_below hb
 clear hb NX TK H
 go_wp2_with fail
 refine TK0.out.mono ?_
 rintro r w1 ⟨rfl,hk,hp⟩
 have ba:=below_alloc w1 (.cells #[.string ⟨#[116]⟩,.string ⟨#[107]⟩,.string ⟨#[97]⟩,.string ⟨#[98]⟩] 9)
 have HK:=hidE (keptB_trans (keptB_trans HB0.out hk) (keptB_of_below (bad:=fun q => q = g) ba))
 have HP:=hidE (rd_kept hp ba)
 have BL:=blk_alloc w1 [.string ⟨#[116]⟩,.string ⟨#[107]⟩,.string ⟨#[97]⟩,.string ⟨#[98]⟩] 9
 have k0:=BL.c 0 (by simp)
 have k1:=BL.c 1 (by simp)
 have k2:=BL.c 2 (by simp)
 have k3:=BL.c 3 (by simp)
 simp only [List.getElem?_cons_zero,List.getElem?_cons_succ] at k0 k1 k2 k3
 clear hk hp TK0 HB0 ba BL
 go_wp2_with fail
 generalize hw2 : (w1.alloc (.cells [.string ⟨#[116]⟩,.string ⟨#[107]⟩,.string ⟨#[97]⟩,.string ⟨#[98]⟩].toArray 9)) = w2 at *
 clear hw2
 go_loopw [7] (fun iv wr => ∃ k : Nat,k ≤ 4 ∧ iv = .int .i64 k ∧ wr = w2) (fun iv _ => 4 - (intOf iv).toNat)
 case atStart => exact ⟨0,by omega,rfl,rfl⟩
 case round =>
  obtain ⟨k,hk,rfl,rfl⟩:=hrel
  have hk2 : k = 0 ∨ k = 1 ∨ k = 2 ∨ k = 3 ∨ k = 4:=by omega
  clear hk
  rcases hk2 with rfl | rfl | rfl | rfl | rfl
  ·go_wp2_with fail
   go_roundw
   case rel => exact ⟨1,by omega,by first | rfl | go_num | trivial,by first | rfl | trivial⟩
   case measure => simp [intOf]
  ·go_wp2_with fail
   go_roundw
   case rel => exact ⟨2,by omega,by first | rfl | go_num | trivial,by first | rfl | trivial⟩
   case measure => simp [intOf]
  ·go_wp2_with fail
   go_roundw
   case rel => exact ⟨3,by omega,by first | rfl | go_num | trivial,by first | rfl | trivial⟩
   case measure => simp [intOf]
  ·go_wp2_with fail
   go_roundw
   case rel => exact ⟨4,by omega,by first | rfl | go_num | trivial,by first | rfl | trivial⟩
   case measure => simp [intOf]
  ·skip
   have c1 : wr.cell? ⟨g,1,none⟩ = some (.int .i64 (n : Int)):=HP.out.bd.c 1 (by simp)
   have f1:=HP.out.bd.fz 1
   have B1:=blk_set HP.out.bd 1 (.int .i64 ((n : Int) + 1)) (by simp)
   have P1:=hidE (rd_set HP.out 1 (.int .i64 ((n : Int) + 1)) (n':=n + 1) (ws':=ws1) (d':=d) (e':=0) (by simpa using B1) (by omega) (Int.le_refl _) (by rw [if_pos rfl];exact HD.out.symm))
   clear B1
   go_wp2_with fail
   refine (VO.out _).mono ?_
   rintro r w3 ⟨rfl,hb3⟩
   have bv:=below_alloc w3 (.cells #[.int .i64 0,.int .i64 0] 89)
   have HB3:=hidE (hb3.trans (bv.mono hb3.size))
   have P3:=hidE (rd_kept P1.out.1 HB3.out)
   have HK3:=hidE (keptB_trans (keptB_trans HK.out P1.out.2) (keptB_of_below (bad:=fun q => q = g) HB3.out))
   clear hb3 bv VO HB3
   go_wp2_with (refine wpList_buildOneN rfl 23 91 _ rfl [.int .i64 1,.int .i64 0,.int .i64 0,.int .i64 0,.int .i64 0,.int .i64 0] 6 rfl i0 _ Tryz.underlying23 hi0 hz0 hz2 rfl (by omega) (by omega) ?_)
   go_ret
   have bz:=below_alloc (w3.alloc (.cells #[.int .i64 0,.int .i64 0] 89)) (.cells #[.int .i64 1,.int .i64 0,.int .i64 0,.int .i64 0,.int .i64 0,.int .i64 0] 91)
   have h9 : (w3.alloc (.cells #[.int .i64 0,.int .i64 0] 89)).heap.size = w3.heap.size + 1:=by simp
   have ND:=nds_one ⟨1,0,0,0,0,0⟩ P3.out.bd.lt WN.out
   rw [h9] at ND
   exact ⟨.slice (some ⟨w3.heap.size + 1,0,none⟩) 1 1,rfl,rfl,keptB_trans HK3.out (keptB_of_below bz),n + 1,ND,rd_kept P3.out bz⟩
theorem rrest_true (g : Nat) (wv : Value) (all : Ws) (hne : ∀ x ∈ all,x ≠ ⟨#[]⟩) (hsz : ∀ x ∈ all,x.size ≤ 240) (n : Nat) (ws ws1 : Ws) (d : Int) (w : World) (h : RD w g wv all n ws d 0) (ht : tk wOpen ws = none) (hcons : ws = hdW ws :: ws1) (hl : leafQ (hdW ws) = some ⟨1,0,0,0,2,1⟩)
  (e0 : ((hdW ws).toList == [116]) = false) (e1 : ((hdW ws).toList == [107]) = false) (e2 : ((hdW ws).toList == [97]) = false) (e3 : ((hdW ws).toList == [98]) = false) (e4 : ((hdW ws).toList == [110,117,108,108]) = false) (e5 : ((hdW ws).toList == [116,114,117,101]) = true) :
  Calls Tryz.prog 61 #[.pointer (some ⟨g,0,none⟩)] w fun r w' => ∃ v,r = .returned v ∧ isSl v = true ∧ RLu w w' g wv all d (.ok ([⟨1,0,0,0,2,1⟩],ws1)) v:=by
 have NX:=hidE (rnext_any g wv all n ws d 0 w h)
 have H:=hidE h
 have HSZ:=hidE hsz
 have TK:=fun w hp => rtake_any g wOpen (by decide) wv all hne n ws d 0 w hp
 unfold RTakeR at TK
 simp only [ht] at TK
 unfold wOpen at TK
 have TK:=hidE TK
 have WN:=hidE (leaf_wf (s:=hdW ws) hl)
 have h2:=h
 rw [hcons] at h2
 obtain ⟨-,hn,hd⟩:=ws_one h2.ws0
 have hlt : n < 100:=by have:=h.few;omega
 have hln : n < all.length:=hn
 have HD:=hidE hd
 clear h2 hd hn hcons hl
 have VO:=hidE (fun w => voQ_true (hdW ws) w e4 e5)
 obtain ⟨i0,hi0,hz0,hz1,hz2⟩:=info_parts infoN
 clear h ht hne hsz
 generalize hdW ws = x at *
 go_enter Tryz.func61,Tryz.ntmps61
 go_wp2_with fail
 refine NX.out.mono ?_
 rintro r w0 ⟨rfl,hb⟩
 have TK0:=hidE (TK.out w0 (rd_kept H.out hb))
 have HB0 : Hid (KeptB w w0 (fun q => q = g)):=keptB_of_below hb
 clear hb NX TK H
 go_wp2_with fail
 refine TK0.out.mono ?_
 rintro r w1 ⟨rfl,hk,hp⟩
 have ba:=below_alloc w1 (.cells #[.string ⟨#[116]⟩,.string ⟨#[107]⟩,.string ⟨#[97]⟩,.string ⟨#[98]⟩] 9)
 have HK:=hidE (keptB_trans (keptB_trans HB0.out hk) (keptB_of_below (bad:=fun q => q = g) ba))
 have HP:=hidE (rd_kept hp ba)
 have BL:=blk_alloc w1 [.string ⟨#[116]⟩,.string ⟨#[107]⟩,.string ⟨#[97]⟩,.string ⟨#[98]⟩] 9
 have k0:=BL.c 0 (by simp)
 have k1:=BL.c 1 (by simp)
 have k2:=BL.c 2 (by simp)
 have k3:=BL.c 3 (by simp)
 simp only [List.getElem?_cons_zero,List.getElem?_cons_succ] at k0 k1 k2 k3
 clear hk hp TK0 HB0 ba BL
 go_wp2_with fail
 generalize hw2 : (w1.alloc (.cells [.string ⟨#[116]⟩,.string ⟨#[107]⟩,.string ⟨#[97]⟩,.string ⟨#[98]⟩].toArray 9)) = w2 at *
 clear hw2
 go_loopw [7] (fun iv wr => ∃ k : Nat,k ≤ 4 ∧ iv = .int .i64 k ∧ wr = w2) (fun iv _ => 4 - (intOf iv).toNat)
 case atStart => exact ⟨0,by omega,rfl,rfl⟩
 case round =>
  obtain ⟨k,hk,rfl,rfl⟩:=hrel
  have hk2 : k = 0 ∨ k = 1 ∨ k = 2 ∨ k = 3 ∨ k = 4:=by omega
  clear hk
  rcases hk2 with rfl | rfl | rfl | rfl | rfl
  ·go_wp2_with fail
   go_roundw
   case rel => exact ⟨1,by omega,by first | rfl | go_num | trivial,by first | rfl | trivial⟩
   case measure => simp [intOf]
  ·go_wp2_with fail
   go_roundw
   case rel => exact ⟨2,by omega,by first | rfl | go_num | trivial,by first | rfl | trivial⟩
   case measure => simp [intOf]
  ·go_wp2_with fail
   go_roundw
   case rel => exact ⟨3,by omega,by first | rfl | go_num | trivial,by first | rfl | trivial⟩
   case measure => simp [intOf]
  ·go_wp2_with fail
   go_roundw
   case rel => exact ⟨4,by omega,by first | rfl | go_num | trivial,by first | rfl | trivial⟩
   case measure => simp [intOf]
  ·skip
   have c1 : wr.cell? ⟨g,1,none⟩ = some (.int .i64 (n : Int)):=HP.out.bd.c 1 (by simp)
   have f1:=HP.out.bd.fz 1
   have B1:=blk_set HP.out.bd 1 (.int .i64 ((n : Int) + 1)) (by simp)
   have P1:=hidE (rd_set HP.out 1 (.int .i64 ((n : Int) + 1)) (n':=n + 1) (ws':=ws1) (d':=d) (e':=0) (by simpa using B1) (by omega) (Int.le_refl _) (by rw [if_pos rfl];exact HD.out.symm))
   clear B1
   go_wp2_with fail
   refine (VO.out _).mono ?_
   rintro r w3 ⟨rfl,hb3⟩
   have bv:=below_alloc w3 (.cells #[.int .i64 2,.int .i64 1] 89)
   have HB3:=hidE (hb3.trans (bv.mono hb3.size))
   have P3:=hidE (rd_kept P1.out.1 HB3.out)
   have HK3:=hidE (keptB_trans (keptB_trans HK.out P1.out.2) (keptB_of_below (bad:=fun q => q = g) HB3.out))
   clear hb3 bv VO HB3
   go_wp2_with (refine wpList_buildOneN rfl 23 91 _ rfl [.int .i64 1,.int .i64 0,.int .i64 0,.int .i64 0,.int .i64 2,.int .i64 1] 6 rfl i0 _ Tryz.underlying23 hi0 hz0 hz2 rfl (by omega) (by omega) ?_)
   go_ret
   have bz:=below_alloc (w3.alloc (.cells #[.int .i64 2,.int .i64 1] 89)) (.cells #[.int .i64 1,.int .i64 0,.int .i64 0,.int .i64 0,.int .i64 2,.int .i64 1] 91)
   have h9 : (w3.alloc (.cells #[.int .i64 2,.int .i64 1] 89)).heap.size = w3.heap.size + 1:=by simp
   have ND:=nds_one ⟨1,0,0,0,2,1⟩ P3.out.bd.lt WN.out
   rw [h9] at ND
   exact ⟨.slice (some ⟨w3.heap.size + 1,0,none⟩) 1 1,rfl,rfl,keptB_trans HK3.out (keptB_of_below bz),n + 1,ND,rd_kept P3.out bz⟩
theorem rrest_false (g : Nat) (wv : Value) (all : Ws) (hne : ∀ x ∈ all,x ≠ ⟨#[]⟩) (hsz : ∀ x ∈ all,x.size ≤ 240) (n : Nat) (ws ws1 : Ws) (d : Int) (w : World) (h : RD w g wv all n ws d 0) (ht : tk wOpen ws = none) (hcons : ws = hdW ws :: ws1) (hl : leafQ (hdW ws) = some ⟨1,0,0,0,2,0⟩)
  (e0 : ((hdW ws).toList == [116]) = false) (e1 : ((hdW ws).toList == [107]) = false) (e2 : ((hdW ws).toList == [97]) = false) (e3 : ((hdW ws).toList == [98]) = false) (e4 : ((hdW ws).toList == [110,117,108,108]) = false) (e5 : ((hdW ws).toList == [116,114,117,101]) = false) (e6 : ((hdW ws).toList == [102,97,108,115,101]) = true) :
  Calls Tryz.prog 61 #[.pointer (some ⟨g,0,none⟩)] w fun r w' => ∃ v,r = .returned v ∧ isSl v = true ∧ RLu w w' g wv all d (.ok ([⟨1,0,0,0,2,0⟩],ws1)) v:=by
 have NX:=hidE (rnext_any g wv all n ws d 0 w h)
 have H:=hidE h
 have HSZ:=hidE hsz
 have TK:=fun w hp => rtake_any g wOpen (by decide) wv all hne n ws d 0 w hp
 unfold RTakeR at TK
 simp only [ht] at TK
 unfold wOpen at TK
 have TK:=hidE TK
 have WN:=hidE (leaf_wf (s:=hdW ws) hl)
 have h2:=h
 rw [hcons] at h2
 obtain ⟨-,hn,hd⟩:=ws_one h2.ws0
 have hlt : n < 100:=by have:=h.few;omega
 have hln : n < all.length:=hn
 have HD:=hidE hd
 clear h2 hd hn hcons hl
 have VO:=hidE (fun w => voQ_false (hdW ws) w e4 e5 e6)
 obtain ⟨i0,hi0,hz0,hz1,hz2⟩:=info_parts infoN
 clear h ht hne hsz
 generalize hdW ws = x at *
 go_enter Tryz.func61,Tryz.ntmps61
 go_wp2_with fail
 refine NX.out.mono ?_
 rintro r w0 ⟨rfl,hb⟩
 have TK0:=hidE (TK.out w0 (rd_kept H.out hb))
 have HB0 : Hid (KeptB w w0 (fun q => q = g)):=keptB_of_below hb
 clear hb NX TK H
 go_wp2_with fail
 refine TK0.out.mono ?_
 rintro r w1 ⟨rfl,hk,hp⟩
 have ba:=below_alloc w1 (.cells #[.string ⟨#[116]⟩,.string ⟨#[107]⟩,.string ⟨#[97]⟩,.string ⟨#[98]⟩] 9)
 have HK:=hidE (keptB_trans (keptB_trans HB0.out hk) (keptB_of_below (bad:=fun q => q = g) ba))
 have HP:=hidE (rd_kept hp ba)
 have BL:=blk_alloc w1 [.string ⟨#[116]⟩,.string ⟨#[107]⟩,.string ⟨#[97]⟩,.string ⟨#[98]⟩] 9
 have k0:=BL.c 0 (by simp)
 have k1:=BL.c 1 (by simp)
 have k2:=BL.c 2 (by simp)
 have k3:=BL.c 3 (by simp)
 simp only [List.getElem?_cons_zero,List.getElem?_cons_succ] at k0 k1 k2 k3
 clear hk hp TK0 HB0 ba BL
 go_wp2_with fail
 generalize hw2 : (w1.alloc (.cells [.string ⟨#[116]⟩,.string ⟨#[107]⟩,.string ⟨#[97]⟩,.string ⟨#[98]⟩].toArray 9)) = w2 at *
 clear hw2
 go_loopw [7] (fun iv wr => ∃ k : Nat,k ≤ 4 ∧ iv = .int .i64 k ∧ wr = w2) (fun iv _ => 4 - (intOf iv).toNat)
 case atStart => exact ⟨0,by omega,rfl,rfl⟩
 case round =>
  obtain ⟨k,hk,rfl,rfl⟩:=hrel
  have hk2 : k = 0 ∨ k = 1 ∨ k = 2 ∨ k = 3 ∨ k = 4:=by omega
  clear hk
  rcases hk2 with rfl | rfl | rfl | rfl | rfl
  ·go_wp2_with fail
   go_roundw
   case rel => exact ⟨1,by omega,by first | rfl | go_num | trivial,by first | rfl | trivial⟩
   case measure => simp [intOf]
  ·go_wp2_with fail
   go_roundw
   case rel => exact ⟨2,by omega,by first | rfl | go_num | trivial,by first | rfl | trivial⟩
   case measure => simp [intOf]
  ·go_wp2_with fail
   go_roundw
   case rel => exact ⟨3,by omega,by first | rfl | go_num | trivial,by first | rfl | trivial⟩
   case measure => simp [intOf]
  ·go_wp2_with fail
   go_roundw
   case rel => exact ⟨4,by omega,by first | rfl | go_num | trivial,by first | rfl | trivial⟩
   case measure => simp [intOf]
  ·skip
   have c1 : wr.cell? ⟨g,1,none⟩ = some (.int .i64 (n : Int)):=HP.out.bd.c 1 (by simp)
   have f1:=HP.out.bd.fz 1
   have B1:=blk_set HP.out.bd 1 (.int .i64 ((n : Int) + 1)) (by simp)
   have P1:=hidE (rd_set HP.out 1 (.int .i64 ((n : Int) + 1)) (n':=n + 1) (ws':=ws1) (d':=d) (e':=0) (by simpa using B1) (by omega) (Int.le_refl _) (by rw [if_pos rfl];exact HD.out.symm))
   clear B1
   go_wp2_with fail
   refine (VO.out _).mono ?_
   rintro r w3 ⟨rfl,hb3⟩
   have bv:=below_alloc w3 (.cells #[.int .i64 2,.int .i64 0] 89)
   have HB3:=hidE (hb3.trans (bv.mono hb3.size))
   have P3:=hidE (rd_kept P1.out.1 HB3.out)
   have HK3:=hidE (keptB_trans (keptB_trans HK.out P1.out.2) (keptB_of_below (bad:=fun q => q = g) HB3.out))
   clear hb3 bv VO HB3
   go_wp2_with (refine wpList_buildOneN rfl 23 91 _ rfl [.int .i64 1,.int .i64 0,.int .i64 0,.int .i64 0,.int .i64 2,.int .i64 0] 6 rfl i0 _ Tryz.underlying23 hi0 hz0 hz2 rfl (by omega) (by omega) ?_)
   go_ret
   have bz:=below_alloc (w3.alloc (.cells #[.int .i64 2,.int .i64 0] 89)) (.cells #[.int .i64 1,.int .i64 0,.int .i64 0,.int .i64 0,.int .i64 2,.int .i64 0] 91)
   have h9 : (w3.alloc (.cells #[.int .i64 2,.int .i64 0] 89)).heap.size = w3.heap.size + 1:=by simp
   have ND:=nds_one ⟨1,0,0,0,2,0⟩ P3.out.bd.lt WN.out
   rw [h9] at ND
   exact ⟨.slice (some ⟨w3.heap.size + 1,0,none⟩) 1 1,rfl,rfl,keptB_trans HK3.out (keptB_of_below bz),n + 1,ND,rd_kept P3.out bz⟩
end Go.Proofs.YteaanpdckkmjoaaGreatDoor
namespace Go.Proofs.YteaanpdckkmjoaaGreatDoor
open Go.RowKit
attribute [local go_sem ↓] eql_value neq_value
theorem fault_yes (k n : Int) (w : World) (h : vok k n = true) :
  Calls Tryz.prog 64 #[.agg #[.int .i64 k,.int .i64 n]] w fun e w' => e = .returned (.int .i64 0) ∧ Below w.heap.size w w':=by
 have h':=of_decide_eq_true h
 clear h
 rcases h' with ⟨rfl,rfl⟩ | ⟨rfl,h1,h2⟩ | ⟨rfl,rfl | rfl⟩
 all_goals
  go_enter Tryz.func64,Tryz.ntmps64
  go_wp2
  go_ret
  exact ⟨rfl,(Below.refl _ _).alloc (Nat.le_refl _) _⟩
theorem fault_no (k n : Int) (w : World) (h : vok k n = false) :
  Calls Tryz.prog 64 #[.agg #[.int .i64 k,.int .i64 n]] w fun e w' => e = .returned (.int .i64 3) ∧ Below w.heap.size w w':=by
 have h':=of_decide_eq_false h
 clear h
 by_cases k0 : k = 0
 ·subst k0
  have hn : (n == 0) = false:=by simp;omega
  clear h'
  go_enter Tryz.func64,Tryz.ntmps64
  go_wp2
  go_ret
  exact ⟨rfl,(Below.refl _ _).alloc (Nat.le_refl _) _⟩
 ·by_cases k1 : k = 1
  ·subst k1
   by_cases l : -1000000000 ≤ n
   ·have l2 : decide (n ≤ 1000000000) = false:=by simp;omega
    clear h' k0
    go_enter Tryz.func64,Tryz.ntmps64
    go_wp2
    go_ret
    exact ⟨rfl,(Below.refl _ _).alloc (Nat.le_refl _) _⟩
   ·clear h' k0
    go_enter Tryz.func64,Tryz.ntmps64
    go_wp2
    go_ret
    exact ⟨rfl,(Below.refl _ _).alloc (Nat.le_refl _) _⟩
  ·by_cases k2 : k = 2
   ·subst k2
    have a1 : (n == 0) = false:=by simp;omega
    have a2 : (n == 1) = false:=by simp;omega
    clear h' k0 k1
    go_enter Tryz.func64,Tryz.ntmps64
    go_wp2
    go_ret
    exact ⟨rfl,(Below.refl _ _).alloc (Nat.le_refl _) _⟩
   ·have a0 : (k == 0) = false:=by simp;omega
    have a1 : (k == 1) = false:=by simp;omega
    have a2 : (k == 2) = false:=by simp;omega
    clear h' k0 k1 k2
    go_enter Tryz.func64,Tryz.ntmps64
    go_wp2
    go_ret
    exact ⟨rfl,(Below.refl _ _).alloc (Nat.le_refl _) _⟩
end Go.Proofs.YteaanpdckkmjoaaGreatDoor
namespace Go.Proofs.YteaanpdckkmjoaaGreatDoor
open Go.RowKit
attribute [local go_sem ↓] eql_value neq_value
theorem rnum_x (n : Int) (w : World) :
  Calls Tryz.prog 84 #[.int .i64 n] w fun e w' => e = .returned (.agg #[.int .i64 (numK n),.int .i64 (numN n)]) ∧ w' = w.alloc (.cells #[.int .i64 (numK n),.int .i64 (numN n)] 89):=by
 by_cases h1 : n < -1000000000
 ·have e1 : numK n = 0:=by unfold numK;rw [if_neg (by omega)]
  have e2 : numN n = 0:=by unfold numN;rw [if_neg (by omega)]
  rw [e1,e2];clear e1 e2
  go_enter Tryz.func84,Tryz.ntmps84
  go_wp2
  exact bodyPost_ret (v:=.agg #[.int .i64 0,.int .i64 0]) (by simp [results,Tryz.results84,go_sem]) rfl ⟨rfl,rfl⟩
 ·by_cases h2 : 1000000000 < n
  ·have e1 : numK n = 0:=by unfold numK;rw [if_neg (by omega)]
   have e2 : numN n = 0:=by unfold numN;rw [if_neg (by omega)]
   rw [e1,e2];clear e1 e2
   go_enter Tryz.func84,Tryz.ntmps84
   go_wp2
   exact bodyPost_ret (v:=.agg #[.int .i64 0,.int .i64 0]) (by simp [results,Tryz.results84,go_sem]) rfl ⟨rfl,rfl⟩
  ·have e1 : numK n = 1:=by unfold numK;rw [if_pos (by omega)]
   have e2 : numN n = n:=by unfold numN;rw [if_pos (by omega)]
   rw [e1,e2];clear e1 e2
   go_enter Tryz.func84,Tryz.ntmps84
   go_wp2
   exact bodyPost_ret (v:=.agg #[.int .i64 1,.int .i64 n]) (by simp [results,Tryz.results84,go_sem]) rfl ⟨rfl,rfl⟩
end Go.Proofs.YteaanpdckkmjoaaGreatDoor
