/- The contract of evalNode of package expr, over this seat's translation. Conditions: the values may be. -/
import Derived.Test.YtcgjflamgnjhcaaGreatDoorExpr1J
import Derived.Test.YtcgjflamgnjhcaaGreatDoorKinJ
import Derived.OrdersHeld
set_option linter.unusedVariables false
set_option linter.unusedSimpArgs false
set_option maxRecDepth 100000
set_option maxHeartbeats 8000000
namespace Go.Proofs.YtcgjflamgnjhcaaGreatDoor
open Go.ChangeShapes Go.WideShapes Go.ChangeAt Go.RowKit
attribute [local go_sem ↓] cK cM
def mO (t1 t2 k1 k2 a1 a2 b1 b2:Int):Value:=.agg #[.int .i64 t1,.int .i64 t2,.int .i64 k1,.int .i64 k2,.int .i64 a1,.int .i64 a2,.int .i64 b1,.int .i64 b2]
theorem qC (w:World) (o:Obj) (g:Nat) (hg:g=w.heap.size) (t1 t2 k1 k2 a1 a2 b1 b2:Int):bK ((w.alloc (.cells #[.int .i64 t1,.int .i64 t2,.int .i64 k1,.int .i64 k2,.int .i64 a1,.int .i64 a2,.int .i64 b1,.int .i64 b2] 215)).alloc o) (.slice (some ⟨g,0,none⟩) 4 4) 2 4 (bW [(t1,t2),(k1,k2),(a1,a2),(b1,b2)]):=by
 subst hg;have h:=World.ownsRow_lit (base:=0) (size:=2) (e:=215) w #[.int .i64 t1,.int .i64 t2,.int .i64 k1,.int .i64 k2,.int .i64 a1,.int .i64 a2,.int .i64 b1,.int .i64 b2] 4 (Nat.zero_le _) (by decide) rfl;exact aA (aD h) ((Below.refl _ _).alloc (Nat.le_refl _) o)
theorem ev_1 (op x y nn k nv:Int) (t1 t2 k1 k2 a1 a2 b1 b2:Int) (vs:List V2) (v:Value) (w:World) (hl:vs.length≤1000) (hr:bK w v 2 vs.length (bW vs)) (hv:∀ p∈vs,okV p) (ho:(op == 1)=true) :
  Calls Tryz.prog 159 #[fT ⟨op,x,y,nn,k,nv⟩,mO t1 t2 k1 k2 a1 a2 b1 b2,v] w fun e w'=>e=.returned (iG (k,nv))∧Below w.heap.size w w':=by
 obtain ⟨ao,cap,rfl⟩:=am hr;have HR:=aa hr;clear hr;have H3:Hid (Below w.heap.size w (((w.alloc (.cells #[.int .i64 op,.int .i64 x,.int .i64 y,.int .i64 nn,.int .i64 k,.int .i64 nv] 153)).alloc (.cells #[.int .i64 t1,.int .i64 t2,.int .i64 k1,.int .i64 k2,.int .i64 a1,.int .i64 a2,.int .i64 b1,.int .i64 b2] 215)).alloc (.cells #[.int .i64 0,.int .i64 0] 41))):=bi w _ _ _;have HA:=aa (cm vs (.slice ao vs.length cap) x (((w.alloc (.cells #[.int .i64 op,.int .i64 x,.int .i64 y,.int .i64 nn,.int .i64 k,.int .i64 nv] 153)).alloc (.cells #[.int .i64 t1,.int .i64 t2,.int .i64 k1,.int .i64 k2,.int .i64 a1,.int .i64 a2,.int .i64 b1,.int .i64 b2] 215)).alloc (.cells #[.int .i64 0,.int .i64 0] 41)) hl (aA HR.out H3.out));have hX:=ja (ix hv x);have HH:=aa (qC (w.alloc (.cells #[.int .i64 op,.int .i64 x,.int .i64 y,.int .i64 nn,.int .i64 k,.int .i64 nv] 153)) (.cells #[.int .i64 0,.int .i64 0] 41) (w.heap.size+1) (by simp) t1 t2 k1 k2 a1 a2 b1 b2);have HV:=aa hv;clear hv;unfold fT mO
 simp only
 generalize nth vs x=X at *;obtain ⟨x1,x2⟩:=X;unfold iG at HA ⊢
 simp only at HA hX ⊢
 obtain ⟨hX1,hX2⟩:=hX
 go_enter Tryz.func159,Tryz.ntmps159
 go_wp2_with fail;refine HA.out.mono ?_;rintro e w1 ⟨rfl,hb⟩;have HB:=aa hb;clear hb HA;have hsz:w.heap.size+3≤w1.heap.size:=by
  have:=HB.out.size
  simp only [World.size_alloc] at this;omega
 obtain ⟨hc,hf⟩:=rules HB;obtain ⟨hc2,hf2⟩:=rules (nxta HB (.cells #[.int .i64 x1,.int .i64 x2] 41));go_wp2_with fail;exact bodyPost_ret (v:=.agg #[.int .i64 k,.int .i64 nv]) (by simp [results,Tryz.results159,go_sem,hc2,hf2]) rfl ⟨rfl,ended (nxta HB _) H3.out _ _⟩
theorem ev_2 (op x y nn k nv:Int) (t1 t2 k1 k2 a1 a2 b1 b2:Int) (vs:List V2) (v:Value) (w:World) (hl:vs.length≤1000) (hr:bK w v 2 vs.length (bW vs)) (hv:∀ p∈vs,okV p) (ho1:(op == 1)=false) (ho:(op == 2)=true) :
  Calls Tryz.prog 159 #[fT ⟨op,x,y,nn,k,nv⟩,mO t1 t2 k1 k2 a1 a2 b1 b2,v] w fun e w'=>e=.returned (iG (nth [(t1,t2),(k1,k2),(a1,a2),(b1,b2)] nn))∧Below w.heap.size w w':=by
 obtain ⟨ao,cap,rfl⟩:=am hr;have HR:=aa hr;clear hr;have H3:Hid (Below w.heap.size w (((w.alloc (.cells #[.int .i64 op,.int .i64 x,.int .i64 y,.int .i64 nn,.int .i64 k,.int .i64 nv] 153)).alloc (.cells #[.int .i64 t1,.int .i64 t2,.int .i64 k1,.int .i64 k2,.int .i64 a1,.int .i64 a2,.int .i64 b1,.int .i64 b2] 215)).alloc (.cells #[.int .i64 0,.int .i64 0] 41))):=bi w _ _ _;have HA:=aa (cm vs (.slice ao vs.length cap) x (((w.alloc (.cells #[.int .i64 op,.int .i64 x,.int .i64 y,.int .i64 nn,.int .i64 k,.int .i64 nv] 153)).alloc (.cells #[.int .i64 t1,.int .i64 t2,.int .i64 k1,.int .i64 k2,.int .i64 a1,.int .i64 a2,.int .i64 b1,.int .i64 b2] 215)).alloc (.cells #[.int .i64 0,.int .i64 0] 41)) hl (aA HR.out H3.out));have hX:=ja (ix hv x);have HH:=aa (qC (w.alloc (.cells #[.int .i64 op,.int .i64 x,.int .i64 y,.int .i64 nn,.int .i64 k,.int .i64 nv] 153)) (.cells #[.int .i64 0,.int .i64 0] 41) (w.heap.size+1) (by simp) t1 t2 k1 k2 a1 a2 b1 b2);have HV:=aa hv;clear hv;unfold fT mO
 simp only
 generalize nth vs x=X at *;obtain ⟨x1,x2⟩:=X;unfold iG at HA ⊢
 simp only at HA hX ⊢
 obtain ⟨hX1,hX2⟩:=hX;have HA2:=aa (fun w' hh=>cm [(t1,t2),(k1,k2),(a1,a2),(b1,b2)] (.slice (some ⟨w.heap.size+1,0,none⟩) 4 4) nn w' (by simp) hh);generalize nth [(t1,t2),(k1,k2),(a1,a2),(b1,b2)] nn=Y at *;obtain ⟨y1,y2⟩:=Y;unfold iG at HA2
 simp only at HA2 ⊢
 go_enter Tryz.func159,Tryz.ntmps159
 go_wp2_with fail;refine HA.out.mono ?_;rintro e w1 ⟨rfl,hb⟩;have HB:=aa hb;clear hb HA;have hsz:w.heap.size+3≤w1.heap.size:=by
  have:=HB.out.size
  simp only [World.size_alloc] at this;omega
 obtain ⟨hc,hf⟩:=rules HB;obtain ⟨hc2,hf2⟩:=rules (nxta HB (.cells #[.int .i64 x1,.int .i64 x2] 41));have hS0:fb (w1.alloc (.cells #[.int .i64 x1,.int .i64 x2] 41)) (w.heap.size+1+1) { (w1.alloc (.cells #[.int .i64 x1,.int .i64 x2] 41)) with drawn:=(w1.alloc (.cells #[.int .i64 x1,.int .i64 x2] 41)).drawn+1 }:=fun _ _ _ _=>rfl
 have HB0:Hid (Below (w1.alloc (.cells #[.int .i64 x1,.int .i64 x2] 41)).heap.size (w1.alloc (.cells #[.int .i64 x1,.int .i64 x2] 41)) { (w1.alloc (.cells #[.int .i64 x1,.int .i64 x2] 41)) with drawn:=(w1.alloc (.cells #[.int .i64 x1,.int .i64 x2] 41)).drawn+1 }):=(Below.refl _ _).drew;have zx:(w1.alloc (.cells #[.int .i64 x1,.int .i64 x2] 41)).heap.size=w1.heap.size+1:=by simp
 have x0:(w1.alloc (.cells #[.int .i64 x1,.int .i64 x2] 41)).cell? ⟨w1.heap.size,0,none⟩=some (.int .i64 x1):=by go_simp
 have x1':(w1.alloc (.cells #[.int .i64 x1,.int .i64 x2] 41)).cell? ⟨w1.heap.size,1,none⟩=some (.int .i64 x2):=by go_simp
 have n0:(w1.alloc (.cells #[.int .i64 x1,.int .i64 x2] 41)).cell? ⟨w.heap.size,0,none⟩=some (.int .i64 op):=by rw [hc2 _ _ (by simp only [World.size_alloc];omega)];go_simp
 have n2:(w1.alloc (.cells #[.int .i64 x1,.int .i64 x2] 41)).cell? ⟨w.heap.size,2,none⟩=some (.int .i64 y):=by rw [hc2 _ _ (by simp only [World.size_alloc];omega)];go_simp
 have n3:(w1.alloc (.cells #[.int .i64 x1,.int .i64 x2] 41)).cell? ⟨w.heap.size,3,none⟩=some (.int .i64 nn):=by rw [hc2 _ _ (by simp only [World.size_alloc];omega)];go_simp
 go_wp2_with fail;refine wp_region_held (S:=fb (w1.alloc (.cells #[.int .i64 x1,.int .i64 x2] 41)) (w.heap.size+1+1)) (by kernel_rfl) ?_;generalize hw0:({ (w1.alloc (.cells #[.int .i64 x1,.int .i64 x2] 41)) with drawn:=(w1.alloc (.cells #[.int .i64 x1,.int .i64 x2] 41)).drawn+1 }:World)=w0 at *;refine wpAnyH_take (i:=0) (v:=.slice (some ⟨w.heap.size+1,0,none⟩) 4 4) rfl (by kernel_rfl) (by kernel_rfl) (by kernel_rfl) (fun c a w h=>h) (Or.inl ⟨by kernel_rfl,fun wq h=>by go_simp⟩) hS0 ?_;refine wpAnyH_take (i:=1) (v:=.pointer (some ⟨w.heap.size,3,none⟩)) rfl (by kernel_rfl) (by kernel_rfl) (by kernel_rfl) (fun c a w h=>h) (Or.inl ⟨by kernel_rfl,fun wq h=>by go_simp⟩) hS0 ?_;refine wpAnyH_take (i:=2) (v:=.int .i64 nn) rfl (by kernel_rfl) (by kernel_rfl) (by kernel_rfl) (fun c a w h=>h) (Or.inl ⟨by kernel_rfl,fun wq h=>by have q:=h w.heap.size 3 (by rw [zx];omega) (by omega);rw [n3] at q;go_simp⟩) hS0 ?_;refine wpAnyH_all (rs:=[3]) (by kernel_rfl) (by simp) ?_;intro i hi;simp only [List.mem_cons,List.not_mem_nil,or_false] at hi;subst hi;refine wpOp_step rfl ?_;intro K' hK;rw [if_pos (by kernel_rfl)];go_simp;refine (HA2.out _ (aA (aA HH.out (nxta HB (.cells #[.int .i64 x1,.int .i64 x2] 41)).out) HB0.out)).mono ?_;rintro e w2 ⟨rfl,hb⟩;have HB2:=aa (HB0.out.trans (hb.mono HB0.out.size));clear hb;refine hK _ _ ⟨cO _ HB2.out,?_⟩;clear hK;have HBf:=nxt (nxta HB (.cells #[.int .i64 x1,.int .i64 x2] 41)) HB2.out;obtain ⟨hc,hf⟩:=rules HBf;refine wpAnyH_all (rs:=[4]) (by kernel_rfl) (by simp) ?_;intro i hi;simp only [List.mem_cons,List.not_mem_nil,or_false] at hi;subst hi;refine wpOp_step rfl ?_;intro K' hK;rw [if_pos (by kernel_rfl)];go_simp;refine hK _ _ ⟨bo (bo (cO _ HB2.out) _ _) _ _,?_⟩;clear hK;refine wpAnyH_done (by kernel_rfl) ?_ _;go_wp2_with fail;exact bodyPost_ret (v:=.agg #[.int .i64 y1,.int .i64 y2]) (by simp [results,Tryz.results159,go_sem,hc,hf]) rfl ⟨rfl,ended HBf H3.out _ _⟩
theorem ev_3 (op x y nn k nv:Int) (t1 t2 k1 k2 a1 a2 b1 b2:Int) (vs:List V2) (v:Value) (w:World) (hl:vs.length≤1000) (hr:bK w v 2 vs.length (bW vs)) (hv:∀ p∈vs,okV p) (h1:(op == 1)=false) (h2:(op == 2)=false) (h3:(op == 3)=true) :
  Calls Tryz.prog 159 #[fT ⟨op,x,y,nn,k,nv⟩,mO t1 t2 k1 k2 a1 a2 b1 b2,v] w fun e w'=>e=.returned (iG (nU (nth vs x).1 (nth vs x).2))∧Below w.heap.size w w':=by
 obtain ⟨ao,cap,rfl⟩:=am hr;have HR:=aa hr;clear hr;have H3:Hid (Below w.heap.size w (((w.alloc (.cells #[.int .i64 op,.int .i64 x,.int .i64 y,.int .i64 nn,.int .i64 k,.int .i64 nv] 153)).alloc (.cells #[.int .i64 t1,.int .i64 t2,.int .i64 k1,.int .i64 k2,.int .i64 a1,.int .i64 a2,.int .i64 b1,.int .i64 b2] 215)).alloc (.cells #[.int .i64 0,.int .i64 0] 41))):=bi w _ _ _;have HA:=aa (cm vs (.slice ao vs.length cap) x (((w.alloc (.cells #[.int .i64 op,.int .i64 x,.int .i64 y,.int .i64 nn,.int .i64 k,.int .i64 nv] 153)).alloc (.cells #[.int .i64 t1,.int .i64 t2,.int .i64 k1,.int .i64 k2,.int .i64 a1,.int .i64 a2,.int .i64 b1,.int .i64 b2] 215)).alloc (.cells #[.int .i64 0,.int .i64 0] 41)) hl (aA HR.out H3.out));have hX:=ja (ix hv x);have HH:=aa (qC (w.alloc (.cells #[.int .i64 op,.int .i64 x,.int .i64 y,.int .i64 nn,.int .i64 k,.int .i64 nv] 153)) (.cells #[.int .i64 0,.int .i64 0] 41) (w.heap.size+1) (by simp) t1 t2 k1 k2 a1 a2 b1 b2);have HV:=aa hv;clear hv;unfold fT mO
 simp only
 generalize nth vs x=X at *;obtain ⟨x1,x2⟩:=X;unfold iG at HA ⊢
 simp only at HA hX ⊢
 obtain ⟨hX1,hX2⟩:=hX
 go_enter Tryz.func159,Tryz.ntmps159
 go_wp2_with fail;refine HA.out.mono ?_;rintro e w1 ⟨rfl,hb⟩;have HB:=aa hb;clear hb HA;have hsz:w.heap.size+3≤w1.heap.size:=by
  have:=HB.out.size
  simp only [World.size_alloc] at this;omega
 obtain ⟨hc,hf⟩:=rules HB;obtain ⟨hc2,hf2⟩:=rules (nxta HB (.cells #[.int .i64 x1,.int .i64 x2] 41));go_wp2_with fail;refine (neg_any x1 x2 _ hX1 hX2).mono ?_;rintro e w2 ⟨rfl,hb⟩;have HB:=nxt (nxta HB (.cells #[.int .i64 x1,.int .i64 x2] 41)) hb;clear hb;obtain ⟨hc,hf⟩:=rules HB;go_wp2_with fail;exact bodyPost_ret (v:=.agg #[.int .i64 (nU x1 x2).1,.int .i64 (nU x1 x2).2]) (by simp [results,Tryz.results159,go_sem,hc,hf]) rfl ⟨rfl,ended HB H3.out _ _⟩
theorem ev_4 (op x y nn k nv:Int) (t1 t2 k1 k2 a1 a2 b1 b2:Int) (vs:List V2) (v:Value) (w:World) (hl:vs.length≤1000) (hr:bK w v 2 vs.length (bW vs)) (hv:∀ p∈vs,okV p) (h1:(op == 1)=false) (h2:(op == 2)=false) (h3:(op == 3)=false) (h4:(op == 4)=true) :
  Calls Tryz.prog 159 #[fT ⟨op,x,y,nn,k,nv⟩,mO t1 t2 k1 k2 a1 a2 b1 b2,v] w fun e w'=>e=.returned (iG (nX (nth vs x).1 (nth vs x).2))∧Below w.heap.size w w':=by
 obtain ⟨ao,cap,rfl⟩:=am hr;have HR:=aa hr;clear hr;have H3:Hid (Below w.heap.size w (((w.alloc (.cells #[.int .i64 op,.int .i64 x,.int .i64 y,.int .i64 nn,.int .i64 k,.int .i64 nv] 153)).alloc (.cells #[.int .i64 t1,.int .i64 t2,.int .i64 k1,.int .i64 k2,.int .i64 a1,.int .i64 a2,.int .i64 b1,.int .i64 b2] 215)).alloc (.cells #[.int .i64 0,.int .i64 0] 41))):=bi w _ _ _;have HA:=aa (cm vs (.slice ao vs.length cap) x (((w.alloc (.cells #[.int .i64 op,.int .i64 x,.int .i64 y,.int .i64 nn,.int .i64 k,.int .i64 nv] 153)).alloc (.cells #[.int .i64 t1,.int .i64 t2,.int .i64 k1,.int .i64 k2,.int .i64 a1,.int .i64 a2,.int .i64 b1,.int .i64 b2] 215)).alloc (.cells #[.int .i64 0,.int .i64 0] 41)) hl (aA HR.out H3.out));have hX:=ja (ix hv x);have HH:=aa (qC (w.alloc (.cells #[.int .i64 op,.int .i64 x,.int .i64 y,.int .i64 nn,.int .i64 k,.int .i64 nv] 153)) (.cells #[.int .i64 0,.int .i64 0] 41) (w.heap.size+1) (by simp) t1 t2 k1 k2 a1 a2 b1 b2);have HV:=aa hv;clear hv;unfold fT mO
 simp only
 generalize nth vs x=X at *;obtain ⟨x1,x2⟩:=X;unfold iG at HA ⊢
 simp only at HA hX ⊢
 obtain ⟨hX1,hX2⟩:=hX
 go_enter Tryz.func159,Tryz.ntmps159
 go_wp2_with fail;refine HA.out.mono ?_;rintro e w1 ⟨rfl,hb⟩;have HB:=aa hb;clear hb HA;have hsz:w.heap.size+3≤w1.heap.size:=by
  have:=HB.out.size
  simp only [World.size_alloc] at this;omega
 obtain ⟨hc,hf⟩:=rules HB;obtain ⟨hc2,hf2⟩:=rules (nxta HB (.cells #[.int .i64 x1,.int .i64 x2] 41));go_wp2_with fail;refine (not_any x1 x2 _).mono ?_;rintro e w2 ⟨rfl,hb⟩;have HB:=nxt (nxta HB (.cells #[.int .i64 x1,.int .i64 x2] 41)) hb;clear hb;obtain ⟨hc,hf⟩:=rules HB;go_wp2_with fail;exact bodyPost_ret (v:=.agg #[.int .i64 (nX x1 x2).1,.int .i64 (nX x1 x2).2]) (by simp [results,Tryz.results159,go_sem,hc,hf]) rfl ⟨rfl,ended HB H3.out _ _⟩
theorem ev_5 (op x y nn k nv:Int) (t1 t2 k1 k2 a1 a2 b1 b2:Int) (vs:List V2) (v:Value) (w:World) (hl:vs.length≤1000) (hr:bK w v 2 vs.length (bW vs)) (hv:∀ p∈vs,okV p) (h1:(op == 1)=false) (h2:(op == 2)=false) (h3:(op == 3)=false) (h4:(op == 4)=false) (h5:(op == 5)=true) :
  Calls Tryz.prog 159 #[fT ⟨op,x,y,nn,k,nv⟩,mO t1 t2 k1 k2 a1 a2 b1 b2,v] w fun e w'=>e=.returned (iG (tru ((nth vs x).1 == 0 && (nth vs x).2 == 0)))∧Below w.heap.size w w':=by
 obtain ⟨ao,cap,rfl⟩:=am hr;have HR:=aa hr;clear hr;have H3:Hid (Below w.heap.size w (((w.alloc (.cells #[.int .i64 op,.int .i64 x,.int .i64 y,.int .i64 nn,.int .i64 k,.int .i64 nv] 153)).alloc (.cells #[.int .i64 t1,.int .i64 t2,.int .i64 k1,.int .i64 k2,.int .i64 a1,.int .i64 a2,.int .i64 b1,.int .i64 b2] 215)).alloc (.cells #[.int .i64 0,.int .i64 0] 41))):=bi w _ _ _;have HA:=aa (cm vs (.slice ao vs.length cap) x (((w.alloc (.cells #[.int .i64 op,.int .i64 x,.int .i64 y,.int .i64 nn,.int .i64 k,.int .i64 nv] 153)).alloc (.cells #[.int .i64 t1,.int .i64 t2,.int .i64 k1,.int .i64 k2,.int .i64 a1,.int .i64 a2,.int .i64 b1,.int .i64 b2] 215)).alloc (.cells #[.int .i64 0,.int .i64 0] 41)) hl (aA HR.out H3.out));have hX:=ja (ix hv x);have HH:=aa (qC (w.alloc (.cells #[.int .i64 op,.int .i64 x,.int .i64 y,.int .i64 nn,.int .i64 k,.int .i64 nv] 153)) (.cells #[.int .i64 0,.int .i64 0] 41) (w.heap.size+1) (by simp) t1 t2 k1 k2 a1 a2 b1 b2);have HV:=aa hv;clear hv;unfold fT mO
 simp only
 generalize nth vs x=X at *;obtain ⟨x1,x2⟩:=X;unfold iG at HA ⊢
 simp only at HA hX ⊢
 obtain ⟨hX1,hX2⟩:=hX
 go_enter Tryz.func159,Tryz.ntmps159
 go_wp2_with fail;refine HA.out.mono ?_;rintro e w1 ⟨rfl,hb⟩;have HB:=aa hb;clear hb HA;have hsz:w.heap.size+3≤w1.heap.size:=by
  have:=HB.out.size
  simp only [World.size_alloc] at this;omega
 obtain ⟨hc,hf⟩:=rules HB;obtain ⟨hc2,hf2⟩:=rules (nxta HB (.cells #[.int .i64 x1,.int .i64 x2] 41));have hS0:fb (w1.alloc (.cells #[.int .i64 x1,.int .i64 x2] 41)) (w.heap.size+1+1) { (w1.alloc (.cells #[.int .i64 x1,.int .i64 x2] 41)) with drawn:=(w1.alloc (.cells #[.int .i64 x1,.int .i64 x2] 41)).drawn+1 }:=fun _ _ _ _=>rfl
 have HB0:Hid (Below (w1.alloc (.cells #[.int .i64 x1,.int .i64 x2] 41)).heap.size (w1.alloc (.cells #[.int .i64 x1,.int .i64 x2] 41)) { (w1.alloc (.cells #[.int .i64 x1,.int .i64 x2] 41)) with drawn:=(w1.alloc (.cells #[.int .i64 x1,.int .i64 x2] 41)).drawn+1 }):=(Below.refl _ _).drew;have zx:(w1.alloc (.cells #[.int .i64 x1,.int .i64 x2] 41)).heap.size=w1.heap.size+1:=by simp
 have x0:(w1.alloc (.cells #[.int .i64 x1,.int .i64 x2] 41)).cell? ⟨w1.heap.size,0,none⟩=some (.int .i64 x1):=by go_simp
 have x1':(w1.alloc (.cells #[.int .i64 x1,.int .i64 x2] 41)).cell? ⟨w1.heap.size,1,none⟩=some (.int .i64 x2):=by go_simp
 have n0:(w1.alloc (.cells #[.int .i64 x1,.int .i64 x2] 41)).cell? ⟨w.heap.size,0,none⟩=some (.int .i64 op):=by rw [hc2 _ _ (by simp only [World.size_alloc];omega)];go_simp
 have n2:(w1.alloc (.cells #[.int .i64 x1,.int .i64 x2] 41)).cell? ⟨w.heap.size,2,none⟩=some (.int .i64 y):=by rw [hc2 _ _ (by simp only [World.size_alloc];omega)];go_simp
 have n3:(w1.alloc (.cells #[.int .i64 x1,.int .i64 x2] 41)).cell? ⟨w.heap.size,3,none⟩=some (.int .i64 nn):=by rw [hc2 _ _ (by simp only [World.size_alloc];omega)];go_simp
 go_wp2_with fail;refine wp_region_held (S:=fb (w1.alloc (.cells #[.int .i64 x1,.int .i64 x2] 41)) (w.heap.size+1+1)) (by kernel_rfl) ?_;generalize hw0:({ (w1.alloc (.cells #[.int .i64 x1,.int .i64 x2] 41)) with drawn:=(w1.alloc (.cells #[.int .i64 x1,.int .i64 x2] 41)).drawn+1 }:World)=w0 at *;refine wpAnyH_take (i:=0) (v:=.agg #[.int .i64 x1,.int .i64 x2]) rfl (by kernel_rfl) (by kernel_rfl) (by kernel_rfl) (fun c a w h=>h) (Or.inl ⟨by kernel_rfl,fun wq h=>by have q:=h w1.heap.size 0 (by rw [zx];omega) (by omega);rw [x0] at q;have r:=h w1.heap.size 1 (by rw [zx];omega) (by omega);rw [x1'] at r;go_simp⟩) hS0 ?_;refine wpAnyH_all (rs:=[1]) (by kernel_rfl) (by simp) ?_;intro i hi;simp only [List.mem_cons,List.not_mem_nil,or_false] at hi;subst hi;refine wpOp_step rfl ?_;intro K' hK;rw [if_pos (by kernel_rfl)];go_simp;refine (d7 _).mono ?_;rintro e w2 ⟨rfl,hb⟩;have HB2:=aa (HB0.out.trans (hb.mono HB0.out.size));clear hb;refine hK _ _ ⟨cO _ HB2.out,?_⟩;clear hK;refine wpAnyH_all (rs:=[2]) (by kernel_rfl) (by simp) ?_;intro i hi;simp only [List.mem_cons,List.not_mem_nil,or_false] at hi;subst hi;refine wpOp_step rfl ?_;intro K' hK;rw [if_pos (by kernel_rfl)];go_simp;refine hK _ _ ⟨cO _ HB2.out,?_⟩;clear hK;refine wpAnyH_all (rs:=[3]) (by kernel_rfl) (by simp) ?_;intro i hi;simp only [List.mem_cons,List.not_mem_nil,or_false] at hi;subst hi;refine wpOp_step rfl ?_;intro K' hK;rw [if_pos (by kernel_rfl)];go_simp;refine (kO _ _).mono ?_;rintro e w3 ⟨rfl,hb⟩;have HB3:=aa (HB2.out.trans (hb.mono HB2.out.size));clear hb;refine hK _ _ ⟨cO _ HB3.out,?_⟩;clear hK;have HBf:=nxt (nxta HB (.cells #[.int .i64 x1,.int .i64 x2] 41)) HB3.out;obtain ⟨hc,hf⟩:=rules HBf;refine wpAnyH_all (rs:=[4]) (by kernel_rfl) (by simp) ?_;intro i hi;simp only [List.mem_cons,List.not_mem_nil,or_false] at hi;subst hi;refine wpOp_step rfl ?_;intro K' hK;rw [if_pos (by kernel_rfl)];go_simp;refine hK _ _ ⟨bo (bo (cO _ HB3.out) _ _) _ _,?_⟩;clear hK;refine wpAnyH_done (by kernel_rfl) ?_ _;go_wp2_with fail;exact bodyPost_ret (v:=.agg #[.int .i64 2,.int .i64 (b01 (x1 == 0 && x2 == 0))]) (by simp [results,Tryz.results159,go_sem,hc,hf]) rfl ⟨rfl,ended HBf H3.out _ _⟩
theorem ev_6 (op x y nn k nv:Int) (t1 t2 k1 k2 a1 a2 b1 b2:Int) (vs:List V2) (v:Value) (w:World) (hl:vs.length≤1000) (hr:bK w v 2 vs.length (bW vs)) (hv:∀ p∈vs,okV p) (h1:(op == 1)=false) (h2:(op == 2)=false) (h3:(op == 3)=false) (h4:(op == 4)=false) (h5:(op == 5)=false) :
  Calls Tryz.prog 159 #[fT ⟨op,x,y,nn,k,nv⟩,mO t1 t2 k1 k2 a1 a2 b1 b2,v] w fun e w'=>e=.returned (iG (doV op (nth vs x).1 (nth vs x).2 (nth vs y).1 (nth vs y).2))∧Below w.heap.size w w':=by
 obtain ⟨ao,cap,rfl⟩:=am hr;have HR:=aa hr;clear hr;have H3:Hid (Below w.heap.size w (((w.alloc (.cells #[.int .i64 op,.int .i64 x,.int .i64 y,.int .i64 nn,.int .i64 k,.int .i64 nv] 153)).alloc (.cells #[.int .i64 t1,.int .i64 t2,.int .i64 k1,.int .i64 k2,.int .i64 a1,.int .i64 a2,.int .i64 b1,.int .i64 b2] 215)).alloc (.cells #[.int .i64 0,.int .i64 0] 41))):=bi w _ _ _;have HA:=aa (cm vs (.slice ao vs.length cap) x (((w.alloc (.cells #[.int .i64 op,.int .i64 x,.int .i64 y,.int .i64 nn,.int .i64 k,.int .i64 nv] 153)).alloc (.cells #[.int .i64 t1,.int .i64 t2,.int .i64 k1,.int .i64 k2,.int .i64 a1,.int .i64 a2,.int .i64 b1,.int .i64 b2] 215)).alloc (.cells #[.int .i64 0,.int .i64 0] 41)) hl (aA HR.out H3.out));have hX:=ja (ix hv x);have HH:=aa (qC (w.alloc (.cells #[.int .i64 op,.int .i64 x,.int .i64 y,.int .i64 nn,.int .i64 k,.int .i64 nv] 153)) (.cells #[.int .i64 0,.int .i64 0] 41) (w.heap.size+1) (by simp) t1 t2 k1 k2 a1 a2 b1 b2);have HV:=aa hv;clear hv;unfold fT mO
 simp only
 generalize nth vs x=X at *;obtain ⟨x1,x2⟩:=X;unfold iG at HA ⊢
 simp only at HA hX ⊢
 obtain ⟨hX1,hX2⟩:=hX;have HY:=aa (fun w' hh=>cm vs (.slice ao vs.length cap) y w' hl hh);have hY:=ja (ix HV.out y);generalize nth vs y=Y at *;obtain ⟨y1,y2⟩:=Y;unfold iG at HY
 simp only at HY hY ⊢
 obtain ⟨hY1,hY2⟩:=hY
 go_enter Tryz.func159,Tryz.ntmps159
 go_wp2_with fail;refine HA.out.mono ?_;rintro e w1 ⟨rfl,hb⟩;have HB:=aa hb;clear hb HA;have hsz:w.heap.size+3≤w1.heap.size:=by
  have:=HB.out.size
  simp only [World.size_alloc] at this;omega
 obtain ⟨hc,hf⟩:=rules HB;obtain ⟨hc2,hf2⟩:=rules (nxta HB (.cells #[.int .i64 x1,.int .i64 x2] 41));have hS0:fb (w1.alloc (.cells #[.int .i64 x1,.int .i64 x2] 41)) (w.heap.size+1+1) { (w1.alloc (.cells #[.int .i64 x1,.int .i64 x2] 41)) with drawn:=(w1.alloc (.cells #[.int .i64 x1,.int .i64 x2] 41)).drawn+1 }:=fun _ _ _ _=>rfl
 have HB0:Hid (Below (w1.alloc (.cells #[.int .i64 x1,.int .i64 x2] 41)).heap.size (w1.alloc (.cells #[.int .i64 x1,.int .i64 x2] 41)) { (w1.alloc (.cells #[.int .i64 x1,.int .i64 x2] 41)) with drawn:=(w1.alloc (.cells #[.int .i64 x1,.int .i64 x2] 41)).drawn+1 }):=(Below.refl _ _).drew;have zx:(w1.alloc (.cells #[.int .i64 x1,.int .i64 x2] 41)).heap.size=w1.heap.size+1:=by simp
 have x0:(w1.alloc (.cells #[.int .i64 x1,.int .i64 x2] 41)).cell? ⟨w1.heap.size,0,none⟩=some (.int .i64 x1):=by go_simp
 have x1':(w1.alloc (.cells #[.int .i64 x1,.int .i64 x2] 41)).cell? ⟨w1.heap.size,1,none⟩=some (.int .i64 x2):=by go_simp
 have n0:(w1.alloc (.cells #[.int .i64 x1,.int .i64 x2] 41)).cell? ⟨w.heap.size,0,none⟩=some (.int .i64 op):=by rw [hc2 _ _ (by simp only [World.size_alloc];omega)];go_simp
 have n2:(w1.alloc (.cells #[.int .i64 x1,.int .i64 x2] 41)).cell? ⟨w.heap.size,2,none⟩=some (.int .i64 y):=by rw [hc2 _ _ (by simp only [World.size_alloc];omega)];go_simp
 have n3:(w1.alloc (.cells #[.int .i64 x1,.int .i64 x2] 41)).cell? ⟨w.heap.size,3,none⟩=some (.int .i64 nn):=by rw [hc2 _ _ (by simp only [World.size_alloc];omega)];go_simp
 go_wp2_with fail;refine wp_region_held (S:=fb (w1.alloc (.cells #[.int .i64 x1,.int .i64 x2] 41)) (w.heap.size+1+1)) (by kernel_rfl) ?_;generalize hw0:({ (w1.alloc (.cells #[.int .i64 x1,.int .i64 x2] 41)) with drawn:=(w1.alloc (.cells #[.int .i64 x1,.int .i64 x2] 41)).drawn+1 }:World)=w0 at *;refine wpAnyH_take (i:=0) (v:=.pointer (some ⟨w.heap.size,0,none⟩)) rfl (by kernel_rfl) (by kernel_rfl) (by kernel_rfl) (fun c a w h=>h) (Or.inl ⟨by kernel_rfl,fun wq h=>by go_simp⟩) hS0 ?_;refine wpAnyH_take (i:=1) (v:=.int .i64 op) rfl (by kernel_rfl) (by kernel_rfl) (by kernel_rfl) (fun c a w h=>h) (Or.inl ⟨by kernel_rfl,fun wq h=>by have q:=h w.heap.size 0 (by rw [zx];omega) (by omega);rw [n0] at q;go_simp⟩) hS0 ?_;refine wpAnyH_take (i:=2) (v:=.agg #[.int .i64 x1,.int .i64 x2]) rfl (by kernel_rfl) (by kernel_rfl) (by kernel_rfl) (fun c a w h=>h) (Or.inl ⟨by kernel_rfl,fun wq h=>by have q:=h w1.heap.size 0 (by rw [zx];omega) (by omega);rw [x0] at q;have r:=h w1.heap.size 1 (by rw [zx];omega) (by omega);rw [x1'] at r;go_simp⟩) hS0 ?_;refine wpAnyH_take (i:=3) (v:=.slice ao vs.length cap) rfl (by kernel_rfl) (by kernel_rfl) (by kernel_rfl) (fun c a w h=>h) (Or.inl ⟨by kernel_rfl,fun wq h=>by go_simp⟩) hS0 ?_;refine wpAnyH_take (i:=4) (v:=.pointer (some ⟨w.heap.size,2,none⟩)) rfl (by kernel_rfl) (by kernel_rfl) (by kernel_rfl) (fun c a w h=>h) (Or.inl ⟨by kernel_rfl,fun wq h=>by go_simp⟩) hS0 ?_;refine wpAnyH_take (i:=5) (v:=.int .i64 y) rfl (by kernel_rfl) (by kernel_rfl) (by kernel_rfl) (fun c a w h=>h) (Or.inl ⟨by kernel_rfl,fun wq h=>by have q:=h w.heap.size 2 (by rw [zx];omega) (by omega);rw [n2] at q;go_simp⟩) hS0 ?_;refine wpAnyH_all (rs:=[6]) (by kernel_rfl) (by simp) ?_;intro i hi;simp only [List.mem_cons,List.not_mem_nil,or_false] at hi;subst hi;refine wpOp_step rfl ?_;intro K' hK;rw [if_pos (by kernel_rfl)];go_simp;refine (HY.out _ (aA (aA (aA HR.out H3.out) (nxta HB (.cells #[.int .i64 x1,.int .i64 x2] 41)).out) HB0.out)).mono ?_;rintro e w2 ⟨rfl,hb⟩;have HB2:=aa (HB0.out.trans (hb.mono HB0.out.size));clear hb;refine hK _ _ ⟨cO _ HB2.out,?_⟩;clear hK;refine wpAnyH_all (rs:=[7]) (by kernel_rfl) (by simp) ?_;intro i hi;simp only [List.mem_cons,List.not_mem_nil,or_false] at hi;subst hi;refine wpOp_step rfl ?_;intro K' hK;rw [if_pos (by kernel_rfl)];go_simp;refine (do_any _ _ _ _ _ _ hX1 hX2 hY1 hY2).mono ?_;rintro e w3 ⟨rfl,hb⟩;have HB3:=aa (HB2.out.trans (hb.mono HB2.out.size));clear hb;refine hK _ _ ⟨cO _ HB3.out,?_⟩;clear hK;have HBf:=nxt (nxta HB (.cells #[.int .i64 x1,.int .i64 x2] 41)) HB3.out;obtain ⟨hc,hf⟩:=rules HBf;refine wpAnyH_all (rs:=[8]) (by kernel_rfl) (by simp) ?_;intro i hi;simp only [List.mem_cons,List.not_mem_nil,or_false] at hi;subst hi;refine wpOp_step rfl ?_;intro K' hK;rw [if_pos (by kernel_rfl)];go_simp;refine hK _ _ ⟨bo (bo (cO _ HB3.out) _ _) _ _,?_⟩;clear hK;refine wpAnyH_done (by kernel_rfl) ?_ _;go_wp2_with fail;exact bodyPost_ret (v:=.agg #[.int .i64 (doV op x1 x2 y1 y2).1,.int .i64 (doV op x1 x2 y1 y2).2]) (by simp [results,Tryz.results159,go_sem,hc,hf]) rfl ⟨rfl,ended HBf H3.out _ _⟩
theorem evalNode_any (n:Nd) (t1 t2 k1 k2 a1 a2 b1 b2:Int) (vs:List V2) (v:Value) (w:World) (hl:vs.length≤1000) (hr:bK w v 2 vs.length (bW vs)) (hv:∀ p∈vs,okV p) :
  Calls Tryz.prog 159 #[fT n,mO t1 t2 k1 k2 a1 a2 b1 b2,v] w fun e w'=>e=.returned (iG (evN opV [(t1,t2),(k1,k2),(a1,a2),(b1,b2)] n vs))∧Below w.heap.size w w':=by
 obtain ⟨op,x,y,nn,k,nv⟩:=n
 by_cases h1:op=1
 ·have e:evN opV [(t1,t2),(k1,k2),(a1,a2),(b1,b2)] ⟨op,x,y,nn,k,nv⟩ vs=(k,nv):=by unfold evN;rw [if_pos h1]
  rw [e];exact ev_1 op x y nn k nv t1 t2 k1 k2 a1 a2 b1 b2 vs v w hl hr hv (by simp [h1])
 by_cases h2:op=2
 ·have e:evN opV [(t1,t2),(k1,k2),(a1,a2),(b1,b2)] ⟨op,x,y,nn,k,nv⟩ vs=nth [(t1,t2),(k1,k2),(a1,a2),(b1,b2)] nn:=by unfold evN;rw [if_neg h1,if_pos h2]
  rw [e];exact ev_2 op x y nn k nv t1 t2 k1 k2 a1 a2 b1 b2 vs v w hl hr hv (by simp [h1]) (by simp [h2])
 by_cases h3:op=3
 ·have e:evN opV [(t1,t2),(k1,k2),(a1,a2),(b1,b2)] ⟨op,x,y,nn,k,nv⟩ vs=nU (nth vs x).1 (nth vs x).2:=by subst h3;rfl
  rw [e];exact ev_3 op x y nn k nv t1 t2 k1 k2 a1 a2 b1 b2 vs v w hl hr hv (by simp [h1]) (by simp [h2]) (by simp [h3])
 by_cases h4:op=4
 ·have e:evN opV [(t1,t2),(k1,k2),(a1,a2),(b1,b2)] ⟨op,x,y,nn,k,nv⟩ vs=nX (nth vs x).1 (nth vs x).2:=by subst h4;rfl
  rw [e];exact ev_4 op x y nn k nv t1 t2 k1 k2 a1 a2 b1 b2 vs v w hl hr hv (by simp [h1]) (by simp [h2]) (by simp [h3]) (by simp [h4])
 by_cases h5:op=5
 ·have e:evN opV [(t1,t2),(k1,k2),(a1,a2),(b1,b2)] ⟨op,x,y,nn,k,nv⟩ vs=tru ((nth vs x).1 == 0 && (nth vs x).2 == 0):=by subst h5;rfl
  rw [e];exact ev_5 op x y nn k nv t1 t2 k1 k2 a1 a2 b1 b2 vs v w hl hr hv (by simp [h1]) (by simp [h2]) (by simp [h3]) (by simp [h4]) (by simp [h5])
 ·have hne:ar op≠1:=by
   unfold ar;rw [if_neg (by omega),if_neg (by omega)]
   split <;> decide
  have e:evN opV [(t1,t2),(k1,k2),(a1,a2),(b1,b2)] ⟨op,x,y,nn,k,nv⟩ vs=doV op (nth vs x).1 (nth vs x).2 (nth vs y).1 (nth vs y).2:=by
   unfold evN opV;simp only [h1,h2,h3,h4,h5,hne,if_false]
  rw [e];exact ev_6 op x y nn k nv t1 t2 k1 k2 a1 a2 b1 b2 vs v w hl hr hv (by simp [h1]) (by simp [h2]) (by simp [h3]) (by simp [h4]) (by simp [h5])
end Go.Proofs.YtcgjflamgnjhcaaGreatDoor
