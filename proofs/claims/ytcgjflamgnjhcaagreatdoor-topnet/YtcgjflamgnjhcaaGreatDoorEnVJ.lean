/- Own texts in one. Conditions: as named in each. -/
import Derived.Test.YtcgjflamgnjhcaaGreatDoorPane8J
import Derived.Test.YtcgjflamgnjhcaaGreatDoorExpr1J
import Derived.Test.YtcgjflamgnjhcaaGreatDoorKinJ
import Derived.OrdersHeld
set_option linter.unusedVariables false
set_option linter.unusedSimpArgs false
set_option maxRecDepth 100000
set_option maxHeartbeats 8000000
namespace Go.Proofs.YtcgjflamgnjhcaaGreatDoor
open Go.ChangeShapes Go.WideShapes Go.ChangeAt Go.RowKit
attribute [local go_sem ↓] cD cF
theorem sameVals_gen (l m9 : List V2) (u v : Value) (w : World) (hl : l.length ≤ 9223372036854775807) (hm9 : m9.length ≤ 9223372036854775807) (hu : bV w u 2 l.length (cE l)) (hv : bV w v 2 m9.length (cE m9)) :
  Calls Tryz.prog 56 #[u,v] w fun e w' => e = .returned (.bool (decide (l = m9))) ∧ Below w.heap.size w w':=by
 obtain ⟨au,cu,rfl⟩:=aq hu;obtain ⟨av,cv,rfl⟩:=aq hv;have HU:=aa hu;have HV:=aa hv;have kn:=bH w;obtain ⟨kc,kf⟩:=bp w;have HF : Hid (∀ i (h1 : i < l.length) (h2 : i < m9.length),l[i] ≠ m9[i] → decide (l = m9) = false):=fun i h1 h2 hn => decide_eq_false fun e => hn (by subst e;rfl)
 by_cases hne : l.length = m9.length
 ·have bne : ((l.length : Int) != (l.length : Int)) = false:=by simp
  have HT : Hid (l = m9 → decide (l = m9) = true):=fun e => decide_eq_true e
  have HLM : Hid (m9.length = l.length):=hne.symm;rw [← hne];generalize decide (l = m9) = b at *;clear hu hv hne hm9
  go_enter Tryz.func56,Tryz.ntmps56
  go_wp2_with fail
  go_loopw [5] (fun i wr => ∃ m : Nat,m ≤ l.length ∧ i = .int .i64 m ∧ Hid (∀ i (h1 : i < l.length) (h2 : i < m9.length),i < m → l[i] = m9[i]) ∧ Hid (Below w.heap.size w wr)) (fun i _ => l.length - (intOf i).toNat)
  case atStart => exact ⟨0,Nat.zero_le _,rfl,fun i _ _ h => absurd h (by omega),Below.refl _ _⟩
  case round =>
   obtain ⟨m,hm,rfl,HM,HW⟩:=hrel
   by_cases hlt : m < l.length
   ·have hlt2 : m < m9.length:=by rw [HLM.out];exact hlt
    obtain ⟨g1,o1,rfl,e0,e1,p1,p2,p3⟩:=fx HU.out m hlt;obtain ⟨g2,o2,rfl,f0,f1,q1,q2,q3⟩:=fx HV.out m hlt2;have HEQ : Hid (l[m] = m9[m] → ∀ i (h1 : i < l.length) (h2 : i < m9.length),i < m + 1 → l[i] = m9[i]):=fun he i h1 h2 hi => by
     by_cases h9 : i = m
     ·subst h9;exact he
     ·exact HM.out i h1 h2 (by omega)
    have HNE:=aa (HF.out m hlt hlt2);clear HM;generalize l[m] = x at *;generalize m9[m] = y at *;obtain ⟨x1,x2⟩:=x;obtain ⟨y1,y2⟩:=y
    simp only at e0 e1 f0 f1
    unfold maxLen at p2 q2;rw [HLM.out] at q1
    by_cases hxy : x1 = y1 ∧ x2 = y2
    ·obtain ⟨rfl,rfl⟩:=hxy;have HE2:=aa (HEQ.out rfl);have z9 : (x1 == x1 && x2 == x2) = true:=by simp
     clear HEQ HNE;go_wp2_with fail;refine aD HW (by kernel_rfl) (by kernel_rfl) ?_
     repeat (go_big_quiet_step (fail))
     refine wpQuiet_nil ?_;rintro _ ⟨pk,rfl⟩;have HP:=aa pk.h;generalize pk.w = wp at *;clear HW;go_wp2_with fail;go_roundw
     case rel => exact ⟨m + 1,by omega,by go_num,HE2,HP⟩
     case measure => simp [intOf];omega
    ·have z9 : (x1 == y1 && x2 == y2) = false:=by
      cases h8 : (x1 == y1 && x2 == y2) with
      | false => rfl
      | true =>
       simp only [Bool.and_eq_true,beq_iff_eq] at h8;exact absurd h8 hxy
     have hb : b = false:=HNE.out (fun e => hxy (by
      simp only [Prod.mk.injEq] at e;exact e))
     subst hb;clear HEQ HNE;go_wp2_with fail;refine aD HW (by kernel_rfl) (by kernel_rfl) ?_
     repeat (go_big_quiet_step (fail))
     refine wpQuiet_nil ?_;rintro _ ⟨pk,rfl⟩;have HP:=aa pk.h;generalize pk.w = wp at *;clear HW;go_wp2_with fail
     go_ret
     exact ⟨rfl,HP.out⟩
   ·have hml : m = l.length:=by omega
    have hb : b = true:=HT.out (List.ext_getElem HLM.out.symm (fun i h1 h2 => HM.out i h1 h2 (by omega)));subst hb;subst hml;go_wp2_with fail
    go_ret
    exact ⟨rfl,HW.out⟩
 ·have hb : decide (l = m9) = false:=decide_eq_false fun e => hne (by rw [e])
  have bne : ((l.length : Int) != (m9.length : Int)) = true:=by simp;omega
  have bne2 : ((l.length : Int) == (m9.length : Int)) = false:=by simp;omega
  rw [hb]
  go_enter Tryz.func56,Tryz.ntmps56
  go_wp2_with fail
  go_ret
  exact ⟨rfl,Below.refl _ _⟩
def eqO (a b : Int × Int × Int × List V2) : Bool:=decide (a = b)
theorem samePane_gen (st k n st2 k2 n2 : Int) (l l2 : List V2) (u v : Value) (w : World) (hl : l.length ≤ 9223372036854775807) (hl2 : l2.length ≤ 9223372036854775807) (hu : bV w u 2 l.length (cE l)) (hv : bV w v 2 l2.length (cE l2)) :
  Calls Tryz.prog 66 #[.agg #[.int .i64 st,.int .i64 k,.int .i64 n,u],.agg #[.int .i64 st2,.int .i64 k2,.int .i64 n2,v]] w fun e w' => e = .returned (.bool (eqO (st,k,n,l) (st2,k2,n2,l2))) ∧ Below w.heap.size w w':=by
 obtain ⟨au,cu,rfl⟩:=aq hu;obtain ⟨av,cv,rfl⟩:=aq hv;have b1:=(Below.refl w.heap.size w).alloc (Nat.le_refl _) (.cells #[.int .i64 st,.int .i64 k,.int .i64 n,.slice au l.length cu] 78);have b2:=b1.alloc b1.size (.cells #[.int .i64 st2,.int .i64 k2,.int .i64 n2,.slice av l2.length cv] 78);have SV:=aa (sameVals_gen l l2 _ _ _ hl hl2 (aA hu b2) (aA hv b2));have A0:=ai (aM w [.int .i64 st,.int .i64 k,.int .i64 n,.slice au l.length cu] 78 (by simp)) ((Below.refl _ _).alloc (Nat.le_refl _) (.cells #[.int .i64 st2,.int .i64 k2,.int .i64 n2,.slice av l2.length cv] 78)) (by simp);have A1:=aM (w.alloc (.cells #[.int .i64 st,.int .i64 k,.int .i64 n,.slice au l.length cu] 78)) [.int .i64 st2,.int .i64 k2,.int .i64 n2,.slice av l2.length cv] 78 (by simp);rw [show (w.alloc (.cells #[.int .i64 st,.int .i64 k,.int .i64 n,.slice au l.length cu] 78)).heap.size = w.heap.size + 1 from by simp] at A1;have B0:=aa A0;have B1:=aa A1;have HA:=aa b2;obtain ⟨c,hc⟩ : ∃ c,eqO (st,k,n,l) (st2,k2,n2,l2) = c:=⟨_,rfl⟩;obtain ⟨b,hbb⟩ : ∃ b,decide (l = l2) = b:=⟨_,rfl⟩;have HC : Hid (c = ((st == st2) && ((k == k2 && n == n2) && b))):=by
  show c = _
  rw [← hc,← hbb];unfold eqO;rw [Bool.eq_iff_iff]
  simp [and_assoc]
 rw [hc];rw [hbb] at SV;clear b1 b2 A0 A1 hu hv hc hbb
 go_enter Tryz.func66,Tryz.ntmps66
 go_wp2_with fail;refine SV.out.mono ?_;rintro e w1 ⟨rfl,hb⟩;have C0:=ai B0.out hb B0.out.lt;have C1:=ai B1.out hb B1.out.lt;have d0 : w1.cell? ⟨w.heap.size,0,none⟩ = some (.int .i64 st):=C0.c 0 (by simp);have d1 : w1.cell? ⟨w.heap.size,1,none⟩ = some (.int .i64 k):=C0.c 1 (by simp);have d2 : w1.cell? ⟨w.heap.size,2,none⟩ = some (.int .i64 n):=C0.c 2 (by simp);have f0 : w1.cell? ⟨w.heap.size + 1,0,none⟩ = some (.int .i64 st2):=C1.c 0 (by simp);have f1 : w1.cell? ⟨w.heap.size + 1,1,none⟩ = some (.int .i64 k2):=C1.c 1 (by simp);have f2 : w1.cell? ⟨w.heap.size + 1,2,none⟩ = some (.int .i64 n2):=C1.c 2 (by simp);have HB:=nxt HA hb;clear hb C0 C1 B0 B1 SV HA;cases h1 : (st == st2) with
 | false =>
  rw [h1] at HC;have hce : c = false:=HC.out;subst hce;go_wp2_with fail
  go_ret
  exact ⟨rfl,HB.out⟩
 | true =>
  rw [h1] at HC;cases h2 : (k == k2 && n == n2) with
  | false =>
   rw [h2] at HC;have hce : c = false:=HC.out;subst hce;go_wp2_with fail
   go_ret
   exact ⟨rfl,HB.out⟩
  | true =>
   rw [h2] at HC;have hce : c = b:=HC.out;subst hce;go_wp2_with fail
   go_ret
   exact ⟨rfl,HB.out⟩
end Go.Proofs.YtcgjflamgnjhcaaGreatDoor
namespace Go.Proofs.YtcgjflamgnjhcaaGreatDoor
open Go.ChangeShapes Go.WideShapes Go.ChangeAt Go.RowKit
attribute [local go_sem ↓] cD cF
def mM (t1 t2 k1 k2 a1 a2 b1 b2 : Int) : Value:=.agg #[.int .i64 t1,.int .i64 t2,.int .i64 k1,.int .i64 k2,.int .i64 a1,.int .i64 a2,.int .i64 b1,.int .i64 b2]
theorem pX (w : World) (o : Obj) (g : Nat) (hg : g = w.heap.size) (t1 t2 k1 k2 a1 a2 b1 b2 : Int) : bV ((w.alloc (.cells #[.int .i64 t1,.int .i64 t2,.int .i64 k1,.int .i64 k2,.int .i64 a1,.int .i64 a2,.int .i64 b1,.int .i64 b2] 215)).alloc o) (.slice (some ⟨g,0,none⟩) 4 4) 2 4 (cE [(t1,t2),(k1,k2),(a1,a2),(b1,b2)]):=by
 subst hg;have h:=World.ownsRow_lit (base:=0) (size:=2) (e:=215) w #[.int .i64 t1,.int .i64 t2,.int .i64 k1,.int .i64 k2,.int .i64 a1,.int .i64 a2,.int .i64 b1,.int .i64 b2] 4 (Nat.zero_le _) (by decide) rfl;exact aA (aG h) ((Below.refl _ _).alloc (Nat.le_refl _) o)
theorem ev_1 (op x y nn k nv : Int) (t1 t2 k1 k2 a1 a2 b1 b2 : Int) (vs : List V2) (v : Value) (w : World) (hl : vs.length ≤ 1000) (hr : bV w v 2 vs.length (cE vs)) (hv : ∀ p ∈ vs,okV p) (ho : (op == 1) = true) :
  Calls Tryz.prog 159 #[fE ⟨op,x,y,nn,k,nv⟩,mM t1 t2 k1 k2 a1 a2 b1 b2,v] w fun e w' => e = .returned (ip (k,nv)) ∧ Below w.heap.size w w':=by
 obtain ⟨ao,cap,rfl⟩:=aq hr;have HR:=aa hr;clear hr;have H3 : Hid (Below w.heap.size w (((w.alloc (.cells #[.int .i64 op,.int .i64 x,.int .i64 y,.int .i64 nn,.int .i64 k,.int .i64 nv] 153)).alloc (.cells #[.int .i64 t1,.int .i64 t2,.int .i64 k1,.int .i64 k2,.int .i64 a1,.int .i64 a2,.int .i64 b1,.int .i64 b2] 215)).alloc (.cells #[.int .i64 0,.int .i64 0] 41))):=bg w _ _ _;have HA:=aa (bX vs (.slice ao vs.length cap) x (((w.alloc (.cells #[.int .i64 op,.int .i64 x,.int .i64 y,.int .i64 nn,.int .i64 k,.int .i64 nv] 153)).alloc (.cells #[.int .i64 t1,.int .i64 t2,.int .i64 k1,.int .i64 k2,.int .i64 a1,.int .i64 a2,.int .i64 b1,.int .i64 b2] 215)).alloc (.cells #[.int .i64 0,.int .i64 0] 41)) hl (aA HR.out H3.out));have hX:=iY (gX hv x);have HH:=aa (pX (w.alloc (.cells #[.int .i64 op,.int .i64 x,.int .i64 y,.int .i64 nn,.int .i64 k,.int .i64 nv] 153)) (.cells #[.int .i64 0,.int .i64 0] 41) (w.heap.size + 1) (by simp) t1 t2 k1 k2 a1 a2 b1 b2);have HV:=aa hv;clear hv;unfold fE mM
 simp only
 generalize nth vs x = X at *;obtain ⟨x1,x2⟩:=X;unfold ip at HA ⊢
 simp only at HA hX ⊢
 obtain ⟨hX1,hX2⟩:=hX
 go_enter Tryz.func159,Tryz.ntmps159
 go_wp2_with fail;refine HA.out.mono ?_;rintro e w1 ⟨rfl,hb⟩;have HB:=aa hb;clear hb HA;have hsz : w.heap.size + 3 ≤ w1.heap.size:=by
  have:=HB.out.size
  simp only [World.size_alloc] at this;omega
 obtain ⟨hc,hf⟩:=rules HB;obtain ⟨hc2,hf2⟩:=rules (nxta HB (.cells #[.int .i64 x1,.int .i64 x2] 41));go_wp2_with fail;exact bodyPost_ret (v:=.agg #[.int .i64 k,.int .i64 nv]) (by simp [results,Tryz.results159,go_sem,hc2,hf2]) rfl ⟨rfl,ended (nxta HB _) H3.out _ _⟩
theorem ev_2 (op x y nn k nv : Int) (t1 t2 k1 k2 a1 a2 b1 b2 : Int) (vs : List V2) (v : Value) (w : World) (hl : vs.length ≤ 1000) (hr : bV w v 2 vs.length (cE vs)) (hv : ∀ p ∈ vs,okV p) (ho1 : (op == 1) = false) (ho : (op == 2) = true) :
  Calls Tryz.prog 159 #[fE ⟨op,x,y,nn,k,nv⟩,mM t1 t2 k1 k2 a1 a2 b1 b2,v] w fun e w' => e = .returned (ip (nth [(t1,t2),(k1,k2),(a1,a2),(b1,b2)] nn)) ∧ Below w.heap.size w w':=by
 obtain ⟨ao,cap,rfl⟩:=aq hr;have HR:=aa hr;clear hr;have H3 : Hid (Below w.heap.size w (((w.alloc (.cells #[.int .i64 op,.int .i64 x,.int .i64 y,.int .i64 nn,.int .i64 k,.int .i64 nv] 153)).alloc (.cells #[.int .i64 t1,.int .i64 t2,.int .i64 k1,.int .i64 k2,.int .i64 a1,.int .i64 a2,.int .i64 b1,.int .i64 b2] 215)).alloc (.cells #[.int .i64 0,.int .i64 0] 41))):=bg w _ _ _;have HA:=aa (bX vs (.slice ao vs.length cap) x (((w.alloc (.cells #[.int .i64 op,.int .i64 x,.int .i64 y,.int .i64 nn,.int .i64 k,.int .i64 nv] 153)).alloc (.cells #[.int .i64 t1,.int .i64 t2,.int .i64 k1,.int .i64 k2,.int .i64 a1,.int .i64 a2,.int .i64 b1,.int .i64 b2] 215)).alloc (.cells #[.int .i64 0,.int .i64 0] 41)) hl (aA HR.out H3.out));have hX:=iY (gX hv x);have HH:=aa (pX (w.alloc (.cells #[.int .i64 op,.int .i64 x,.int .i64 y,.int .i64 nn,.int .i64 k,.int .i64 nv] 153)) (.cells #[.int .i64 0,.int .i64 0] 41) (w.heap.size + 1) (by simp) t1 t2 k1 k2 a1 a2 b1 b2);have HV:=aa hv;clear hv;unfold fE mM
 simp only
 generalize nth vs x = X at *;obtain ⟨x1,x2⟩:=X;unfold ip at HA ⊢
 simp only at HA hX ⊢
 obtain ⟨hX1,hX2⟩:=hX;have HA2:=aa (fun w' hh => bX [(t1,t2),(k1,k2),(a1,a2),(b1,b2)] (.slice (some ⟨w.heap.size + 1,0,none⟩) 4 4) nn w' (by simp) hh);generalize nth [(t1,t2),(k1,k2),(a1,a2),(b1,b2)] nn = Y at *;obtain ⟨y1,y2⟩:=Y;unfold ip at HA2
 simp only at HA2 ⊢
 go_enter Tryz.func159,Tryz.ntmps159
 go_wp2_with fail;refine HA.out.mono ?_;rintro e w1 ⟨rfl,hb⟩;have HB:=aa hb;clear hb HA;have hsz : w.heap.size + 3 ≤ w1.heap.size:=by
  have:=HB.out.size
  simp only [World.size_alloc] at this;omega
 obtain ⟨hc,hf⟩:=rules HB;obtain ⟨hc2,hf2⟩:=rules (nxta HB (.cells #[.int .i64 x1,.int .i64 x2] 41));have hS0 : eQ (w1.alloc (.cells #[.int .i64 x1,.int .i64 x2] 41)) (w.heap.size + 1 + 1) { (w1.alloc (.cells #[.int .i64 x1,.int .i64 x2] 41)) with drawn:=(w1.alloc (.cells #[.int .i64 x1,.int .i64 x2] 41)).drawn + 1 }:=fun _ _ _ _ => rfl
 have HB0 : Hid (Below (w1.alloc (.cells #[.int .i64 x1,.int .i64 x2] 41)).heap.size (w1.alloc (.cells #[.int .i64 x1,.int .i64 x2] 41)) { (w1.alloc (.cells #[.int .i64 x1,.int .i64 x2] 41)) with drawn:=(w1.alloc (.cells #[.int .i64 x1,.int .i64 x2] 41)).drawn + 1 }):=(Below.refl _ _).drew;have zx : (w1.alloc (.cells #[.int .i64 x1,.int .i64 x2] 41)).heap.size = w1.heap.size + 1:=by simp
 have x0 : (w1.alloc (.cells #[.int .i64 x1,.int .i64 x2] 41)).cell? ⟨w1.heap.size,0,none⟩ = some (.int .i64 x1):=by go_simp
 have x1' : (w1.alloc (.cells #[.int .i64 x1,.int .i64 x2] 41)).cell? ⟨w1.heap.size,1,none⟩ = some (.int .i64 x2):=by go_simp
 have n0 : (w1.alloc (.cells #[.int .i64 x1,.int .i64 x2] 41)).cell? ⟨w.heap.size,0,none⟩ = some (.int .i64 op):=by rw [hc2 _ _ (by simp only [World.size_alloc];omega)];go_simp
 have n2 : (w1.alloc (.cells #[.int .i64 x1,.int .i64 x2] 41)).cell? ⟨w.heap.size,2,none⟩ = some (.int .i64 y):=by rw [hc2 _ _ (by simp only [World.size_alloc];omega)];go_simp
 have n3 : (w1.alloc (.cells #[.int .i64 x1,.int .i64 x2] 41)).cell? ⟨w.heap.size,3,none⟩ = some (.int .i64 nn):=by rw [hc2 _ _ (by simp only [World.size_alloc];omega)];go_simp
 go_wp2_with fail;refine wp_region_held (S:=eQ (w1.alloc (.cells #[.int .i64 x1,.int .i64 x2] 41)) (w.heap.size + 1 + 1)) (by kernel_rfl) ?_;generalize hw0 : ({ (w1.alloc (.cells #[.int .i64 x1,.int .i64 x2] 41)) with drawn:=(w1.alloc (.cells #[.int .i64 x1,.int .i64 x2] 41)).drawn + 1 } : World) = w0 at *;refine wpAnyH_take (i:=0) (v:=.slice (some ⟨w.heap.size + 1,0,none⟩) 4 4) rfl (by kernel_rfl) (by kernel_rfl) (by kernel_rfl) (fun c a w h => h) (Or.inl ⟨by kernel_rfl,fun wq h => by go_simp⟩) hS0 ?_;refine wpAnyH_take (i:=1) (v:=.pointer (some ⟨w.heap.size,3,none⟩)) rfl (by kernel_rfl) (by kernel_rfl) (by kernel_rfl) (fun c a w h => h) (Or.inl ⟨by kernel_rfl,fun wq h => by go_simp⟩) hS0 ?_;refine wpAnyH_take (i:=2) (v:=.int .i64 nn) rfl (by kernel_rfl) (by kernel_rfl) (by kernel_rfl) (fun c a w h => h) (Or.inl ⟨by kernel_rfl,fun wq h => by have q:=h w.heap.size 3 (by rw [zx];omega) (by omega);rw [n3] at q;go_simp⟩) hS0 ?_;refine wpAnyH_all (rs:=[3]) (by kernel_rfl) (by simp) ?_;intro i hi;simp only [List.mem_cons,List.not_mem_nil,or_false] at hi;subst hi;refine wpOp_step rfl ?_;intro K' hK;rw [if_pos (by kernel_rfl)];go_simp;refine (HA2.out _ (aA (aA HH.out (nxta HB (.cells #[.int .i64 x1,.int .i64 x2] 41)).out) HB0.out)).mono ?_;rintro e w2 ⟨rfl,hb⟩;have HB2:=aa (HB0.out.trans (hb.mono HB0.out.size));clear hb;refine hK _ _ ⟨cI _ HB2.out,?_⟩;clear hK;have HBf:=nxt (nxta HB (.cells #[.int .i64 x1,.int .i64 x2] 41)) HB2.out;obtain ⟨hc,hf⟩:=rules HBf;refine wpAnyH_all (rs:=[4]) (by kernel_rfl) (by simp) ?_;intro i hi;simp only [List.mem_cons,List.not_mem_nil,or_false] at hi;subst hi;refine wpOp_step rfl ?_;intro K' hK;rw [if_pos (by kernel_rfl)];go_simp;refine hK _ _ ⟨bi (bi (cI _ HB2.out) _ _) _ _,?_⟩;clear hK;refine wpAnyH_done (by kernel_rfl) ?_ _;go_wp2_with fail;exact bodyPost_ret (v:=.agg #[.int .i64 y1,.int .i64 y2]) (by simp [results,Tryz.results159,go_sem,hc,hf]) rfl ⟨rfl,ended HBf H3.out _ _⟩
theorem ev_3 (op x y nn k nv : Int) (t1 t2 k1 k2 a1 a2 b1 b2 : Int) (vs : List V2) (v : Value) (w : World) (hl : vs.length ≤ 1000) (hr : bV w v 2 vs.length (cE vs)) (hv : ∀ p ∈ vs,okV p) (h1 : (op == 1) = false) (h2 : (op == 2) = false) (h3 : (op == 3) = true) :
  Calls Tryz.prog 159 #[fE ⟨op,x,y,nn,k,nv⟩,mM t1 t2 k1 k2 a1 a2 b1 b2,v] w fun e w' => e = .returned (ip (nC (nth vs x).1 (nth vs x).2)) ∧ Below w.heap.size w w':=by
 obtain ⟨ao,cap,rfl⟩:=aq hr;have HR:=aa hr;clear hr;have H3 : Hid (Below w.heap.size w (((w.alloc (.cells #[.int .i64 op,.int .i64 x,.int .i64 y,.int .i64 nn,.int .i64 k,.int .i64 nv] 153)).alloc (.cells #[.int .i64 t1,.int .i64 t2,.int .i64 k1,.int .i64 k2,.int .i64 a1,.int .i64 a2,.int .i64 b1,.int .i64 b2] 215)).alloc (.cells #[.int .i64 0,.int .i64 0] 41))):=bg w _ _ _;have HA:=aa (bX vs (.slice ao vs.length cap) x (((w.alloc (.cells #[.int .i64 op,.int .i64 x,.int .i64 y,.int .i64 nn,.int .i64 k,.int .i64 nv] 153)).alloc (.cells #[.int .i64 t1,.int .i64 t2,.int .i64 k1,.int .i64 k2,.int .i64 a1,.int .i64 a2,.int .i64 b1,.int .i64 b2] 215)).alloc (.cells #[.int .i64 0,.int .i64 0] 41)) hl (aA HR.out H3.out));have hX:=iY (gX hv x);have HH:=aa (pX (w.alloc (.cells #[.int .i64 op,.int .i64 x,.int .i64 y,.int .i64 nn,.int .i64 k,.int .i64 nv] 153)) (.cells #[.int .i64 0,.int .i64 0] 41) (w.heap.size + 1) (by simp) t1 t2 k1 k2 a1 a2 b1 b2);have HV:=aa hv;clear hv;unfold fE mM
 simp only
 generalize nth vs x = X at *;obtain ⟨x1,x2⟩:=X;unfold ip at HA ⊢
 simp only at HA hX ⊢
 obtain ⟨hX1,hX2⟩:=hX
 go_enter Tryz.func159,Tryz.ntmps159
 go_wp2_with fail;refine HA.out.mono ?_;rintro e w1 ⟨rfl,hb⟩;have HB:=aa hb;clear hb HA;have hsz : w.heap.size + 3 ≤ w1.heap.size:=by
  have:=HB.out.size
  simp only [World.size_alloc] at this;omega
 obtain ⟨hc,hf⟩:=rules HB;obtain ⟨hc2,hf2⟩:=rules (nxta HB (.cells #[.int .i64 x1,.int .i64 x2] 41));go_wp2_with fail;refine (neg_any x1 x2 _ hX1 hX2).mono ?_;rintro e w2 ⟨rfl,hb⟩;have HB:=nxt (nxta HB (.cells #[.int .i64 x1,.int .i64 x2] 41)) hb;clear hb;obtain ⟨hc,hf⟩:=rules HB;go_wp2_with fail;exact bodyPost_ret (v:=.agg #[.int .i64 (nC x1 x2).1,.int .i64 (nC x1 x2).2]) (by simp [results,Tryz.results159,go_sem,hc,hf]) rfl ⟨rfl,ended HB H3.out _ _⟩
theorem ev_4 (op x y nn k nv : Int) (t1 t2 k1 k2 a1 a2 b1 b2 : Int) (vs : List V2) (v : Value) (w : World) (hl : vs.length ≤ 1000) (hr : bV w v 2 vs.length (cE vs)) (hv : ∀ p ∈ vs,okV p) (h1 : (op == 1) = false) (h2 : (op == 2) = false) (h3 : (op == 3) = false) (h4 : (op == 4) = true) :
  Calls Tryz.prog 159 #[fE ⟨op,x,y,nn,k,nv⟩,mM t1 t2 k1 k2 a1 a2 b1 b2,v] w fun e w' => e = .returned (ip (nB (nth vs x).1 (nth vs x).2)) ∧ Below w.heap.size w w':=by
 obtain ⟨ao,cap,rfl⟩:=aq hr;have HR:=aa hr;clear hr;have H3 : Hid (Below w.heap.size w (((w.alloc (.cells #[.int .i64 op,.int .i64 x,.int .i64 y,.int .i64 nn,.int .i64 k,.int .i64 nv] 153)).alloc (.cells #[.int .i64 t1,.int .i64 t2,.int .i64 k1,.int .i64 k2,.int .i64 a1,.int .i64 a2,.int .i64 b1,.int .i64 b2] 215)).alloc (.cells #[.int .i64 0,.int .i64 0] 41))):=bg w _ _ _;have HA:=aa (bX vs (.slice ao vs.length cap) x (((w.alloc (.cells #[.int .i64 op,.int .i64 x,.int .i64 y,.int .i64 nn,.int .i64 k,.int .i64 nv] 153)).alloc (.cells #[.int .i64 t1,.int .i64 t2,.int .i64 k1,.int .i64 k2,.int .i64 a1,.int .i64 a2,.int .i64 b1,.int .i64 b2] 215)).alloc (.cells #[.int .i64 0,.int .i64 0] 41)) hl (aA HR.out H3.out));have hX:=iY (gX hv x);have HH:=aa (pX (w.alloc (.cells #[.int .i64 op,.int .i64 x,.int .i64 y,.int .i64 nn,.int .i64 k,.int .i64 nv] 153)) (.cells #[.int .i64 0,.int .i64 0] 41) (w.heap.size + 1) (by simp) t1 t2 k1 k2 a1 a2 b1 b2);have HV:=aa hv;clear hv;unfold fE mM
 simp only
 generalize nth vs x = X at *;obtain ⟨x1,x2⟩:=X;unfold ip at HA ⊢
 simp only at HA hX ⊢
 obtain ⟨hX1,hX2⟩:=hX
 go_enter Tryz.func159,Tryz.ntmps159
 go_wp2_with fail;refine HA.out.mono ?_;rintro e w1 ⟨rfl,hb⟩;have HB:=aa hb;clear hb HA;have hsz : w.heap.size + 3 ≤ w1.heap.size:=by
  have:=HB.out.size
  simp only [World.size_alloc] at this;omega
 obtain ⟨hc,hf⟩:=rules HB;obtain ⟨hc2,hf2⟩:=rules (nxta HB (.cells #[.int .i64 x1,.int .i64 x2] 41));go_wp2_with fail;refine (not_any x1 x2 _).mono ?_;rintro e w2 ⟨rfl,hb⟩;have HB:=nxt (nxta HB (.cells #[.int .i64 x1,.int .i64 x2] 41)) hb;clear hb;obtain ⟨hc,hf⟩:=rules HB;go_wp2_with fail;exact bodyPost_ret (v:=.agg #[.int .i64 (nB x1 x2).1,.int .i64 (nB x1 x2).2]) (by simp [results,Tryz.results159,go_sem,hc,hf]) rfl ⟨rfl,ended HB H3.out _ _⟩
theorem ev_5 (op x y nn k nv : Int) (t1 t2 k1 k2 a1 a2 b1 b2 : Int) (vs : List V2) (v : Value) (w : World) (hl : vs.length ≤ 1000) (hr : bV w v 2 vs.length (cE vs)) (hv : ∀ p ∈ vs,okV p) (h1 : (op == 1) = false) (h2 : (op == 2) = false) (h3 : (op == 3) = false) (h4 : (op == 4) = false) (h5 : (op == 5) = true) :
  Calls Tryz.prog 159 #[fE ⟨op,x,y,nn,k,nv⟩,mM t1 t2 k1 k2 a1 a2 b1 b2,v] w fun e w' => e = .returned (ip (tru ((nth vs x).1 == 0 && (nth vs x).2 == 0))) ∧ Below w.heap.size w w':=by
 obtain ⟨ao,cap,rfl⟩:=aq hr;have HR:=aa hr;clear hr;have H3 : Hid (Below w.heap.size w (((w.alloc (.cells #[.int .i64 op,.int .i64 x,.int .i64 y,.int .i64 nn,.int .i64 k,.int .i64 nv] 153)).alloc (.cells #[.int .i64 t1,.int .i64 t2,.int .i64 k1,.int .i64 k2,.int .i64 a1,.int .i64 a2,.int .i64 b1,.int .i64 b2] 215)).alloc (.cells #[.int .i64 0,.int .i64 0] 41))):=bg w _ _ _;have HA:=aa (bX vs (.slice ao vs.length cap) x (((w.alloc (.cells #[.int .i64 op,.int .i64 x,.int .i64 y,.int .i64 nn,.int .i64 k,.int .i64 nv] 153)).alloc (.cells #[.int .i64 t1,.int .i64 t2,.int .i64 k1,.int .i64 k2,.int .i64 a1,.int .i64 a2,.int .i64 b1,.int .i64 b2] 215)).alloc (.cells #[.int .i64 0,.int .i64 0] 41)) hl (aA HR.out H3.out));have hX:=iY (gX hv x);have HH:=aa (pX (w.alloc (.cells #[.int .i64 op,.int .i64 x,.int .i64 y,.int .i64 nn,.int .i64 k,.int .i64 nv] 153)) (.cells #[.int .i64 0,.int .i64 0] 41) (w.heap.size + 1) (by simp) t1 t2 k1 k2 a1 a2 b1 b2);have HV:=aa hv;clear hv;unfold fE mM
 simp only
 generalize nth vs x = X at *;obtain ⟨x1,x2⟩:=X;unfold ip at HA ⊢
 simp only at HA hX ⊢
 obtain ⟨hX1,hX2⟩:=hX
 go_enter Tryz.func159,Tryz.ntmps159
 go_wp2_with fail;refine HA.out.mono ?_;rintro e w1 ⟨rfl,hb⟩;have HB:=aa hb;clear hb HA;have hsz : w.heap.size + 3 ≤ w1.heap.size:=by
  have:=HB.out.size
  simp only [World.size_alloc] at this;omega
 obtain ⟨hc,hf⟩:=rules HB;obtain ⟨hc2,hf2⟩:=rules (nxta HB (.cells #[.int .i64 x1,.int .i64 x2] 41));have hS0 : eQ (w1.alloc (.cells #[.int .i64 x1,.int .i64 x2] 41)) (w.heap.size + 1 + 1) { (w1.alloc (.cells #[.int .i64 x1,.int .i64 x2] 41)) with drawn:=(w1.alloc (.cells #[.int .i64 x1,.int .i64 x2] 41)).drawn + 1 }:=fun _ _ _ _ => rfl
 have HB0 : Hid (Below (w1.alloc (.cells #[.int .i64 x1,.int .i64 x2] 41)).heap.size (w1.alloc (.cells #[.int .i64 x1,.int .i64 x2] 41)) { (w1.alloc (.cells #[.int .i64 x1,.int .i64 x2] 41)) with drawn:=(w1.alloc (.cells #[.int .i64 x1,.int .i64 x2] 41)).drawn + 1 }):=(Below.refl _ _).drew;have zx : (w1.alloc (.cells #[.int .i64 x1,.int .i64 x2] 41)).heap.size = w1.heap.size + 1:=by simp
 have x0 : (w1.alloc (.cells #[.int .i64 x1,.int .i64 x2] 41)).cell? ⟨w1.heap.size,0,none⟩ = some (.int .i64 x1):=by go_simp
 have x1' : (w1.alloc (.cells #[.int .i64 x1,.int .i64 x2] 41)).cell? ⟨w1.heap.size,1,none⟩ = some (.int .i64 x2):=by go_simp
 have n0 : (w1.alloc (.cells #[.int .i64 x1,.int .i64 x2] 41)).cell? ⟨w.heap.size,0,none⟩ = some (.int .i64 op):=by rw [hc2 _ _ (by simp only [World.size_alloc];omega)];go_simp
 have n2 : (w1.alloc (.cells #[.int .i64 x1,.int .i64 x2] 41)).cell? ⟨w.heap.size,2,none⟩ = some (.int .i64 y):=by rw [hc2 _ _ (by simp only [World.size_alloc];omega)];go_simp
 have n3 : (w1.alloc (.cells #[.int .i64 x1,.int .i64 x2] 41)).cell? ⟨w.heap.size,3,none⟩ = some (.int .i64 nn):=by rw [hc2 _ _ (by simp only [World.size_alloc];omega)];go_simp
 go_wp2_with fail;refine wp_region_held (S:=eQ (w1.alloc (.cells #[.int .i64 x1,.int .i64 x2] 41)) (w.heap.size + 1 + 1)) (by kernel_rfl) ?_;generalize hw0 : ({ (w1.alloc (.cells #[.int .i64 x1,.int .i64 x2] 41)) with drawn:=(w1.alloc (.cells #[.int .i64 x1,.int .i64 x2] 41)).drawn + 1 } : World) = w0 at *;refine wpAnyH_take (i:=0) (v:=.agg #[.int .i64 x1,.int .i64 x2]) rfl (by kernel_rfl) (by kernel_rfl) (by kernel_rfl) (fun c a w h => h) (Or.inl ⟨by kernel_rfl,fun wq h => by have q:=h w1.heap.size 0 (by rw [zx];omega) (by omega);rw [x0] at q;have r:=h w1.heap.size 1 (by rw [zx];omega) (by omega);rw [x1'] at r;go_simp⟩) hS0 ?_;refine wpAnyH_all (rs:=[1]) (by kernel_rfl) (by simp) ?_;intro i hi;simp only [List.mem_cons,List.not_mem_nil,or_false] at hi;subst hi;refine wpOp_step rfl ?_;intro K' hK;rw [if_pos (by kernel_rfl)];go_simp;refine (cW _).mono ?_;rintro e w2 ⟨rfl,hb⟩;have HB2:=aa (HB0.out.trans (hb.mono HB0.out.size));clear hb;refine hK _ _ ⟨cI _ HB2.out,?_⟩;clear hK;refine wpAnyH_all (rs:=[2]) (by kernel_rfl) (by simp) ?_;intro i hi;simp only [List.mem_cons,List.not_mem_nil,or_false] at hi;subst hi;refine wpOp_step rfl ?_;intro K' hK;rw [if_pos (by kernel_rfl)];go_simp;refine hK _ _ ⟨cI _ HB2.out,?_⟩;clear hK;refine wpAnyH_all (rs:=[3]) (by kernel_rfl) (by simp) ?_;intro i hi;simp only [List.mem_cons,List.not_mem_nil,or_false] at hi;subst hi;refine wpOp_step rfl ?_;intro K' hK;rw [if_pos (by kernel_rfl)];go_simp;refine (jR _ _).mono ?_;rintro e w3 ⟨rfl,hb⟩;have HB3:=aa (HB2.out.trans (hb.mono HB2.out.size));clear hb;refine hK _ _ ⟨cI _ HB3.out,?_⟩;clear hK;have HBf:=nxt (nxta HB (.cells #[.int .i64 x1,.int .i64 x2] 41)) HB3.out;obtain ⟨hc,hf⟩:=rules HBf;refine wpAnyH_all (rs:=[4]) (by kernel_rfl) (by simp) ?_;intro i hi;simp only [List.mem_cons,List.not_mem_nil,or_false] at hi;subst hi;refine wpOp_step rfl ?_;intro K' hK;rw [if_pos (by kernel_rfl)];go_simp;refine hK _ _ ⟨bi (bi (cI _ HB3.out) _ _) _ _,?_⟩;clear hK;refine wpAnyH_done (by kernel_rfl) ?_ _;go_wp2_with fail;exact bodyPost_ret (v:=.agg #[.int .i64 2,.int .i64 (b01 (x1 == 0 && x2 == 0))]) (by simp [results,Tryz.results159,go_sem,hc,hf]) rfl ⟨rfl,ended HBf H3.out _ _⟩
theorem ev_6 (op x y nn k nv : Int) (t1 t2 k1 k2 a1 a2 b1 b2 : Int) (vs : List V2) (v : Value) (w : World) (hl : vs.length ≤ 1000) (hr : bV w v 2 vs.length (cE vs)) (hv : ∀ p ∈ vs,okV p) (h1 : (op == 1) = false) (h2 : (op == 2) = false) (h3 : (op == 3) = false) (h4 : (op == 4) = false) (h5 : (op == 5) = false) :
  Calls Tryz.prog 159 #[fE ⟨op,x,y,nn,k,nv⟩,mM t1 t2 k1 k2 a1 a2 b1 b2,v] w fun e w' => e = .returned (ip (doV op (nth vs x).1 (nth vs x).2 (nth vs y).1 (nth vs y).2)) ∧ Below w.heap.size w w':=by
 obtain ⟨ao,cap,rfl⟩:=aq hr;have HR:=aa hr;clear hr;have H3 : Hid (Below w.heap.size w (((w.alloc (.cells #[.int .i64 op,.int .i64 x,.int .i64 y,.int .i64 nn,.int .i64 k,.int .i64 nv] 153)).alloc (.cells #[.int .i64 t1,.int .i64 t2,.int .i64 k1,.int .i64 k2,.int .i64 a1,.int .i64 a2,.int .i64 b1,.int .i64 b2] 215)).alloc (.cells #[.int .i64 0,.int .i64 0] 41))):=bg w _ _ _;have HA:=aa (bX vs (.slice ao vs.length cap) x (((w.alloc (.cells #[.int .i64 op,.int .i64 x,.int .i64 y,.int .i64 nn,.int .i64 k,.int .i64 nv] 153)).alloc (.cells #[.int .i64 t1,.int .i64 t2,.int .i64 k1,.int .i64 k2,.int .i64 a1,.int .i64 a2,.int .i64 b1,.int .i64 b2] 215)).alloc (.cells #[.int .i64 0,.int .i64 0] 41)) hl (aA HR.out H3.out));have hX:=iY (gX hv x);have HH:=aa (pX (w.alloc (.cells #[.int .i64 op,.int .i64 x,.int .i64 y,.int .i64 nn,.int .i64 k,.int .i64 nv] 153)) (.cells #[.int .i64 0,.int .i64 0] 41) (w.heap.size + 1) (by simp) t1 t2 k1 k2 a1 a2 b1 b2);have HV:=aa hv;clear hv;unfold fE mM
 simp only
 generalize nth vs x = X at *;obtain ⟨x1,x2⟩:=X;unfold ip at HA ⊢
 simp only at HA hX ⊢
 obtain ⟨hX1,hX2⟩:=hX;have HY:=aa (fun w' hh => bX vs (.slice ao vs.length cap) y w' hl hh);have hY:=iY (gX HV.out y);generalize nth vs y = Y at *;obtain ⟨y1,y2⟩:=Y;unfold ip at HY
 simp only at HY hY ⊢
 obtain ⟨hY1,hY2⟩:=hY
 go_enter Tryz.func159,Tryz.ntmps159
 go_wp2_with fail;refine HA.out.mono ?_;rintro e w1 ⟨rfl,hb⟩;have HB:=aa hb;clear hb HA;have hsz : w.heap.size + 3 ≤ w1.heap.size:=by
  have:=HB.out.size
  simp only [World.size_alloc] at this;omega
 obtain ⟨hc,hf⟩:=rules HB;obtain ⟨hc2,hf2⟩:=rules (nxta HB (.cells #[.int .i64 x1,.int .i64 x2] 41));have hS0 : eQ (w1.alloc (.cells #[.int .i64 x1,.int .i64 x2] 41)) (w.heap.size + 1 + 1) { (w1.alloc (.cells #[.int .i64 x1,.int .i64 x2] 41)) with drawn:=(w1.alloc (.cells #[.int .i64 x1,.int .i64 x2] 41)).drawn + 1 }:=fun _ _ _ _ => rfl
 have HB0 : Hid (Below (w1.alloc (.cells #[.int .i64 x1,.int .i64 x2] 41)).heap.size (w1.alloc (.cells #[.int .i64 x1,.int .i64 x2] 41)) { (w1.alloc (.cells #[.int .i64 x1,.int .i64 x2] 41)) with drawn:=(w1.alloc (.cells #[.int .i64 x1,.int .i64 x2] 41)).drawn + 1 }):=(Below.refl _ _).drew;have zx : (w1.alloc (.cells #[.int .i64 x1,.int .i64 x2] 41)).heap.size = w1.heap.size + 1:=by simp
 have x0 : (w1.alloc (.cells #[.int .i64 x1,.int .i64 x2] 41)).cell? ⟨w1.heap.size,0,none⟩ = some (.int .i64 x1):=by go_simp
 have x1' : (w1.alloc (.cells #[.int .i64 x1,.int .i64 x2] 41)).cell? ⟨w1.heap.size,1,none⟩ = some (.int .i64 x2):=by go_simp
 have n0 : (w1.alloc (.cells #[.int .i64 x1,.int .i64 x2] 41)).cell? ⟨w.heap.size,0,none⟩ = some (.int .i64 op):=by rw [hc2 _ _ (by simp only [World.size_alloc];omega)];go_simp
 have n2 : (w1.alloc (.cells #[.int .i64 x1,.int .i64 x2] 41)).cell? ⟨w.heap.size,2,none⟩ = some (.int .i64 y):=by rw [hc2 _ _ (by simp only [World.size_alloc];omega)];go_simp
 have n3 : (w1.alloc (.cells #[.int .i64 x1,.int .i64 x2] 41)).cell? ⟨w.heap.size,3,none⟩ = some (.int .i64 nn):=by rw [hc2 _ _ (by simp only [World.size_alloc];omega)];go_simp
 go_wp2_with fail;refine wp_region_held (S:=eQ (w1.alloc (.cells #[.int .i64 x1,.int .i64 x2] 41)) (w.heap.size + 1 + 1)) (by kernel_rfl) ?_;generalize hw0 : ({ (w1.alloc (.cells #[.int .i64 x1,.int .i64 x2] 41)) with drawn:=(w1.alloc (.cells #[.int .i64 x1,.int .i64 x2] 41)).drawn + 1 } : World) = w0 at *;refine wpAnyH_take (i:=0) (v:=.pointer (some ⟨w.heap.size,0,none⟩)) rfl (by kernel_rfl) (by kernel_rfl) (by kernel_rfl) (fun c a w h => h) (Or.inl ⟨by kernel_rfl,fun wq h => by go_simp⟩) hS0 ?_;refine wpAnyH_take (i:=1) (v:=.int .i64 op) rfl (by kernel_rfl) (by kernel_rfl) (by kernel_rfl) (fun c a w h => h) (Or.inl ⟨by kernel_rfl,fun wq h => by have q:=h w.heap.size 0 (by rw [zx];omega) (by omega);rw [n0] at q;go_simp⟩) hS0 ?_;refine wpAnyH_take (i:=2) (v:=.agg #[.int .i64 x1,.int .i64 x2]) rfl (by kernel_rfl) (by kernel_rfl) (by kernel_rfl) (fun c a w h => h) (Or.inl ⟨by kernel_rfl,fun wq h => by have q:=h w1.heap.size 0 (by rw [zx];omega) (by omega);rw [x0] at q;have r:=h w1.heap.size 1 (by rw [zx];omega) (by omega);rw [x1'] at r;go_simp⟩) hS0 ?_;refine wpAnyH_take (i:=3) (v:=.slice ao vs.length cap) rfl (by kernel_rfl) (by kernel_rfl) (by kernel_rfl) (fun c a w h => h) (Or.inl ⟨by kernel_rfl,fun wq h => by go_simp⟩) hS0 ?_;refine wpAnyH_take (i:=4) (v:=.pointer (some ⟨w.heap.size,2,none⟩)) rfl (by kernel_rfl) (by kernel_rfl) (by kernel_rfl) (fun c a w h => h) (Or.inl ⟨by kernel_rfl,fun wq h => by go_simp⟩) hS0 ?_;refine wpAnyH_take (i:=5) (v:=.int .i64 y) rfl (by kernel_rfl) (by kernel_rfl) (by kernel_rfl) (fun c a w h => h) (Or.inl ⟨by kernel_rfl,fun wq h => by have q:=h w.heap.size 2 (by rw [zx];omega) (by omega);rw [n2] at q;go_simp⟩) hS0 ?_;refine wpAnyH_all (rs:=[6]) (by kernel_rfl) (by simp) ?_;intro i hi;simp only [List.mem_cons,List.not_mem_nil,or_false] at hi;subst hi;refine wpOp_step rfl ?_;intro K' hK;rw [if_pos (by kernel_rfl)];go_simp;refine (HY.out _ (aA (aA (aA HR.out H3.out) (nxta HB (.cells #[.int .i64 x1,.int .i64 x2] 41)).out) HB0.out)).mono ?_;rintro e w2 ⟨rfl,hb⟩;have HB2:=aa (HB0.out.trans (hb.mono HB0.out.size));clear hb;refine hK _ _ ⟨cI _ HB2.out,?_⟩;clear hK;refine wpAnyH_all (rs:=[7]) (by kernel_rfl) (by simp) ?_;intro i hi;simp only [List.mem_cons,List.not_mem_nil,or_false] at hi;subst hi;refine wpOp_step rfl ?_;intro K' hK;rw [if_pos (by kernel_rfl)];go_simp;refine (do_any _ _ _ _ _ _ hX1 hX2 hY1 hY2).mono ?_;rintro e w3 ⟨rfl,hb⟩;have HB3:=aa (HB2.out.trans (hb.mono HB2.out.size));clear hb;refine hK _ _ ⟨cI _ HB3.out,?_⟩;clear hK;have HBf:=nxt (nxta HB (.cells #[.int .i64 x1,.int .i64 x2] 41)) HB3.out;obtain ⟨hc,hf⟩:=rules HBf;refine wpAnyH_all (rs:=[8]) (by kernel_rfl) (by simp) ?_;intro i hi;simp only [List.mem_cons,List.not_mem_nil,or_false] at hi;subst hi;refine wpOp_step rfl ?_;intro K' hK;rw [if_pos (by kernel_rfl)];go_simp;refine hK _ _ ⟨bi (bi (cI _ HB3.out) _ _) _ _,?_⟩;clear hK;refine wpAnyH_done (by kernel_rfl) ?_ _;go_wp2_with fail;exact bodyPost_ret (v:=.agg #[.int .i64 (doV op x1 x2 y1 y2).1,.int .i64 (doV op x1 x2 y1 y2).2]) (by simp [results,Tryz.results159,go_sem,hc,hf]) rfl ⟨rfl,ended HBf H3.out _ _⟩
theorem evalNode_any (n : Nd) (t1 t2 k1 k2 a1 a2 b1 b2 : Int) (vs : List V2) (v : Value) (w : World) (hl : vs.length ≤ 1000) (hr : bV w v 2 vs.length (cE vs)) (hv : ∀ p ∈ vs,okV p) :
  Calls Tryz.prog 159 #[fE n,mM t1 t2 k1 k2 a1 a2 b1 b2,v] w fun e w' => e = .returned (ip (evN opV [(t1,t2),(k1,k2),(a1,a2),(b1,b2)] n vs)) ∧ Below w.heap.size w w':=by
 obtain ⟨op,x,y,nn,k,nv⟩:=n
 by_cases h1 : op = 1
 ·have e : evN opV [(t1,t2),(k1,k2),(a1,a2),(b1,b2)] ⟨op,x,y,nn,k,nv⟩ vs = (k,nv):=by unfold evN;rw [if_pos h1]
  rw [e];exact ev_1 op x y nn k nv t1 t2 k1 k2 a1 a2 b1 b2 vs v w hl hr hv (by simp [h1])
 by_cases h2 : op = 2
 ·have e : evN opV [(t1,t2),(k1,k2),(a1,a2),(b1,b2)] ⟨op,x,y,nn,k,nv⟩ vs = nth [(t1,t2),(k1,k2),(a1,a2),(b1,b2)] nn:=by unfold evN;rw [if_neg h1,if_pos h2]
  rw [e];exact ev_2 op x y nn k nv t1 t2 k1 k2 a1 a2 b1 b2 vs v w hl hr hv (by simp [h1]) (by simp [h2])
 by_cases h3 : op = 3
 ·have e : evN opV [(t1,t2),(k1,k2),(a1,a2),(b1,b2)] ⟨op,x,y,nn,k,nv⟩ vs = nC (nth vs x).1 (nth vs x).2:=by subst h3;rfl
  rw [e];exact ev_3 op x y nn k nv t1 t2 k1 k2 a1 a2 b1 b2 vs v w hl hr hv (by simp [h1]) (by simp [h2]) (by simp [h3])
 by_cases h4 : op = 4
 ·have e : evN opV [(t1,t2),(k1,k2),(a1,a2),(b1,b2)] ⟨op,x,y,nn,k,nv⟩ vs = nB (nth vs x).1 (nth vs x).2:=by subst h4;rfl
  rw [e];exact ev_4 op x y nn k nv t1 t2 k1 k2 a1 a2 b1 b2 vs v w hl hr hv (by simp [h1]) (by simp [h2]) (by simp [h3]) (by simp [h4])
 by_cases h5 : op = 5
 ·have e : evN opV [(t1,t2),(k1,k2),(a1,a2),(b1,b2)] ⟨op,x,y,nn,k,nv⟩ vs = tru ((nth vs x).1 == 0 && (nth vs x).2 == 0):=by subst h5;rfl
  rw [e];exact ev_5 op x y nn k nv t1 t2 k1 k2 a1 a2 b1 b2 vs v w hl hr hv (by simp [h1]) (by simp [h2]) (by simp [h3]) (by simp [h4]) (by simp [h5])
 ·have hne : ar op ≠ 1:=by
   unfold ar;rw [if_neg (by omega),if_neg (by omega)]
   split <;> decide
  have e : evN opV [(t1,t2),(k1,k2),(a1,a2),(b1,b2)] ⟨op,x,y,nn,k,nv⟩ vs = doV op (nth vs x).1 (nth vs x).2 (nth vs y).1 (nth vs y).2:=by
   unfold evN opV;simp only [h1,h2,h3,h4,h5,hne,if_false]
  rw [e];exact ev_6 op x y nn k nv t1 t2 k1 k2 a1 a2 b1 b2 vs v w hl hr hv (by simp [h1]) (by simp [h2]) (by simp [h3]) (by simp [h4]) (by simp [h5])
end Go.Proofs.YtcgjflamgnjhcaaGreatDoor
