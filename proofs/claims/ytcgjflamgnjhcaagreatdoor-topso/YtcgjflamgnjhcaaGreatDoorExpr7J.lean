/- Own texts in one. Conditions: as named in each. -/
import Derived.Test.YtcgjflamgnjhcaaGreatDoorExpr6
import Derived.Test.YtcgjflamgnjhcaaGreatDoorKinJ
import Derived.WalkKit
import Derived.Lib.Strings
import Derived.Lib.IndexBytes
import Derived.Test.YtcgjflamgnjhcaaGreatDoorRows
import Derived.ProofKit
import Derived.OwnWalk
import Derived.Outline
import Derived.WalkSpells
import Derived.Lib.Bytealg
set_option linter.unusedVariables false
set_option linter.unusedSimpArgs false
set_option maxRecDepth 100000
set_option maxHeartbeats 8000000
namespace Go.Proofs.YtcgjflamgnjhcaaGreatDoor
open Go.ChangeShapes Go.WideShapes Go.ChangeAt Go.RowKit
def qL (t k1 k2 a1 a2 b1 b2:Int):Value:=.agg #[.int .i64 t,.int .i64 k1,.int .i64 k2,.int .i64 a1,.int .i64 a2,.int .i64 b1,.int .i64 b2]
def evE (t k1 k2 a1 a2 b1 b2:Int):List V2:=[pA t,(k1,k2),(a1,a2),(b1,b2)]
theorem infoV:(Tryz.prog.info? 41).map (fun i=>(i.zero,i.size,i.bytes))=some (some (.agg #[.int .i64 0,.int .i64 0]),2,16):=by kernel_rfl
theorem kM (l:List Nd) (v:Value) (t k1 k2 a1 a2 b1 b2:Int) (w:World) (hl:l.length≤1000) (hr:bK w v 6 l.length (f9 l)) (hok:∀ n∈l,okN n=0) (hev:∀ p∈evE t k1 k2 a1 a2 b1 b2,okV p) :
  Calls Tryz.prog 123 #[v,qL t k1 k2 a1 a2 b1 b2] w fun e w'=>e=.returned (iG (evL opV (evE t k1 k2 a1 a2 b1 b2) l))∧Below w.heap.size w w':=by
 obtain ⟨ao,cap,rfl⟩:=am hr;obtain ⟨i0,hi0,hz0,hz1,hz2⟩:=info_parts infoV;have HR:=aa hr;have HOK:=aa hok;have HEV:=aa hev;clear hr hok hev;have H2:Hid (Below w.heap.size w ((w.alloc (.cells #[.int .i64 t,.int .i64 k1,.int .i64 k2,.int .i64 a1,.int .i64 a2,.int .i64 b1,.int .i64 b2] 43)).alloc (.cells #[.int .i64 0,.int .i64 0] 41))):=((Below.refl _ _).alloc (Nat.le_refl _) _).alloc (by simp) _;have HB0:Hid (Below ((w.alloc (.cells #[.int .i64 t,.int .i64 k1,.int .i64 k2,.int .i64 a1,.int .i64 a2,.int .i64 b1,.int .i64 b2] 43)).alloc (.cells #[.int .i64 0,.int .i64 0] 41)).heap.size ((w.alloc (.cells #[.int .i64 t,.int .i64 k1,.int .i64 k2,.int .i64 a1,.int .i64 a2,.int .i64 b1,.int .i64 b2] 43)).alloc (.cells #[.int .i64 0,.int .i64 0] 41)) { ((w.alloc (.cells #[.int .i64 t,.int .i64 k1,.int .i64 k2,.int .i64 a1,.int .i64 a2,.int .i64 b1,.int .i64 b2] 43)).alloc (.cells #[.int .i64 0,.int .i64 0] 41)) with drawn:=((w.alloc (.cells #[.int .i64 t,.int .i64 k1,.int .i64 k2,.int .i64 a1,.int .i64 a2,.int .i64 b1,.int .i64 b2] 43)).alloc (.cells #[.int .i64 0,.int .i64 0] 41)).drawn+1 }):=(Below.refl _ _).drew;have n0:((w.alloc (.cells #[.int .i64 t,.int .i64 k1,.int .i64 k2,.int .i64 a1,.int .i64 a2,.int .i64 b1,.int .i64 b2] 43)).alloc (.cells #[.int .i64 0,.int .i64 0] 41)).cell? ⟨w.heap.size,0,none⟩=some (.int .i64 t):=by go_simp
 have n1:((w.alloc (.cells #[.int .i64 t,.int .i64 k1,.int .i64 k2,.int .i64 a1,.int .i64 a2,.int .i64 b1,.int .i64 b2] 43)).alloc (.cells #[.int .i64 0,.int .i64 0] 41)).cell? ⟨w.heap.size,1,none⟩=some (.int .i64 k1):=by go_simp
 have n2:((w.alloc (.cells #[.int .i64 t,.int .i64 k1,.int .i64 k2,.int .i64 a1,.int .i64 a2,.int .i64 b1,.int .i64 b2] 43)).alloc (.cells #[.int .i64 0,.int .i64 0] 41)).cell? ⟨w.heap.size,2,none⟩=some (.int .i64 k2):=by go_simp
 have n3:((w.alloc (.cells #[.int .i64 t,.int .i64 k1,.int .i64 k2,.int .i64 a1,.int .i64 a2,.int .i64 b1,.int .i64 b2] 43)).alloc (.cells #[.int .i64 0,.int .i64 0] 41)).cell? ⟨w.heap.size,3,none⟩=some (.int .i64 a1):=by go_simp
 have n4:((w.alloc (.cells #[.int .i64 t,.int .i64 k1,.int .i64 k2,.int .i64 a1,.int .i64 a2,.int .i64 b1,.int .i64 b2] 43)).alloc (.cells #[.int .i64 0,.int .i64 0] 41)).cell? ⟨w.heap.size,4,none⟩=some (.int .i64 a2):=by go_simp
 have n5:((w.alloc (.cells #[.int .i64 t,.int .i64 k1,.int .i64 k2,.int .i64 a1,.int .i64 a2,.int .i64 b1,.int .i64 b2] 43)).alloc (.cells #[.int .i64 0,.int .i64 0] 41)).cell? ⟨w.heap.size,5,none⟩=some (.int .i64 b1):=by go_simp
 have n6:((w.alloc (.cells #[.int .i64 t,.int .i64 k1,.int .i64 k2,.int .i64 a1,.int .i64 a2,.int .i64 b1,.int .i64 b2] 43)).alloc (.cells #[.int .i64 0,.int .i64 0] 41)).cell? ⟨w.heap.size,6,none⟩=some (.int .i64 b2):=by go_simp
 have hT:evL opV (evE t k1 k2 a1 a2 b1 b2) l=nth (evF opV (evE t k1 k2 a1 a2 b1 b2) l []) ((l.length:Int) - 1):=rfl;rw [hT];clear hT;generalize hF:evF opV (evE t k1 k2 a1 a2 b1 b2) l []=T;have HF:=aa hF;clear hF;unfold qL
 go_enter Tryz.func123,Tryz.ntmps123
 go_wp2_with fail;refine wp_region_held (S:=Below ((w.alloc (.cells #[.int .i64 t,.int .i64 k1,.int .i64 k2,.int .i64 a1,.int .i64 a2,.int .i64 b1,.int .i64 b2] 43)).alloc (.cells #[.int .i64 0,.int .i64 0] 41)).heap.size ((w.alloc (.cells #[.int .i64 t,.int .i64 k1,.int .i64 k2,.int .i64 a1,.int .i64 a2,.int .i64 b1,.int .i64 b2] 43)).alloc (.cells #[.int .i64 0,.int .i64 0] 41))) (by kernel_rfl) ?_;generalize hw0:({ ((w.alloc (.cells #[.int .i64 t,.int .i64 k1,.int .i64 k2,.int .i64 a1,.int .i64 a2,.int .i64 b1,.int .i64 b2] 43)).alloc (.cells #[.int .i64 0,.int .i64 0] 41)) with drawn:=((w.alloc (.cells #[.int .i64 t,.int .i64 k1,.int .i64 k2,.int .i64 a1,.int .i64 a2,.int .i64 b1,.int .i64 b2] 43)).alloc (.cells #[.int .i64 0,.int .i64 0] 41)).drawn+1 }:World)=w0 at *;clear hw0;refine wpAnyH_take (i:=0) (v:=.pointer (some ⟨w.heap.size,0,none⟩)) rfl (by kernel_rfl) (by kernel_rfl) (by kernel_rfl) (fun c a w h=>h) (Or.inl ⟨by kernel_rfl,fun wq h=>by go_simp⟩) HB0.out ?_;refine wpAnyH_take (i:=1) (v:=.int .i64 t) rfl (by kernel_rfl) (by kernel_rfl) (by kernel_rfl) (fun c a w h=>h) (Or.inl ⟨by kernel_rfl,fun wq h=>by have q:=h.cell (p:=⟨w.heap.size,0,none⟩) (by simp only [World.size_alloc];omega);rw [n0] at q;go_simp⟩) HB0.out ?_;refine wpAnyH_take (i:=3) (v:=.pointer (some ⟨w.heap.size,1,none⟩)) rfl (by kernel_rfl) (by kernel_rfl) (by kernel_rfl) (fun c a w h=>h) (Or.inl ⟨by kernel_rfl,fun wq h=>by go_simp⟩) HB0.out ?_;refine wpAnyH_take (i:=4) (v:=.agg #[.int .i64 k1,.int .i64 k2]) rfl (by kernel_rfl) (by kernel_rfl) (by kernel_rfl) (fun c a w h=>h) (Or.inl ⟨by kernel_rfl,fun wq h=>by have q:=h.cell (p:=⟨w.heap.size,1,none⟩) (by simp only [World.size_alloc];omega);have r:=h.cell (p:=⟨w.heap.size,2,none⟩) (by simp only [World.size_alloc];omega);rw [n1] at q;rw [n2] at r;go_simp⟩) HB0.out ?_;refine wpAnyH_take (i:=5) (v:=.pointer (some ⟨w.heap.size,3,none⟩)) rfl (by kernel_rfl) (by kernel_rfl) (by kernel_rfl) (fun c a w h=>h) (Or.inl ⟨by kernel_rfl,fun wq h=>by go_simp⟩) HB0.out ?_;refine wpAnyH_take (i:=6) (v:=.agg #[.int .i64 a1,.int .i64 a2]) rfl (by kernel_rfl) (by kernel_rfl) (by kernel_rfl) (fun c a w h=>h) (Or.inl ⟨by kernel_rfl,fun wq h=>by have q:=h.cell (p:=⟨w.heap.size,3,none⟩) (by simp only [World.size_alloc];omega);have r:=h.cell (p:=⟨w.heap.size,4,none⟩) (by simp only [World.size_alloc];omega);rw [n3] at q;rw [n4] at r;go_simp⟩) HB0.out ?_;refine wpAnyH_take (i:=7) (v:=.pointer (some ⟨w.heap.size,5,none⟩)) rfl (by kernel_rfl) (by kernel_rfl) (by kernel_rfl) (fun c a w h=>h) (Or.inl ⟨by kernel_rfl,fun wq h=>by go_simp⟩) HB0.out ?_;refine wpAnyH_take (i:=8) (v:=.agg #[.int .i64 b1,.int .i64 b2]) rfl (by kernel_rfl) (by kernel_rfl) (by kernel_rfl) (fun c a w h=>h) (Or.inl ⟨by kernel_rfl,fun wq h=>by have q:=h.cell (p:=⟨w.heap.size,5,none⟩) (by simp only [World.size_alloc];omega);have r:=h.cell (p:=⟨w.heap.size,6,none⟩) (by simp only [World.size_alloc];omega);rw [n5] at q;rw [n6] at r;go_simp⟩) HB0.out ?_
 refine wpAnyH_all (rs:=[2,10]) (by kernel_rfl) (by simp) ?_;intro i hi;simp only [List.mem_cons,List.not_mem_nil,or_false] at hi
 rcases hi with rfl | rfl
 case' inl =>
  refine wpOp_step rfl ?_;intro K' hK;rw [if_pos (by kernel_rfl)];go_simp;refine (bN _ _).mono ?_;rintro e w1 ⟨rfl,hb⟩;have HB1:=aa (HB0.out.trans (hb.mono HB0.out.size));clear hb;refine hK _ _ ⟨HB1.out,?_⟩;clear hK;refine wpAnyH_take (i:=9) (v:=.agg #[.int .i64 (numK t),.int .i64 (numN t),.int .i64 (k1),.int .i64 (k2),.int .i64 (a1),.int .i64 (a2),.int .i64 (b1),.int .i64 (b2)]) rfl (by kernel_rfl) (by kernel_rfl) (by kernel_rfl) (fun c a w h=>h) (Or.inl ⟨by kernel_rfl,fun wq h=>by go_simp⟩) HB1.out ?_;refine wpAnyH_all (rs:=[10]) (by kernel_rfl) (by simp) ?_;intro i hi;simp only [List.mem_cons,List.not_mem_nil,or_false] at hi;subst hi;refine wpOp_step rfl ?_;intro K' hK;rw [if_pos (by kernel_rfl)];go_simp;have HB2:Hid (Below ((w.alloc (.cells #[.int .i64 t,.int .i64 k1,.int .i64 k2,.int .i64 a1,.int .i64 a2,.int .i64 b1,.int .i64 b2] 43)).alloc (.cells #[.int .i64 0,.int .i64 0] 41)).heap.size ((w.alloc (.cells #[.int .i64 t,.int .i64 k1,.int .i64 k2,.int .i64 a1,.int .i64 a2,.int .i64 b1,.int .i64 b2] 43)).alloc (.cells #[.int .i64 0,.int .i64 0] 41)) (w1.alloc (.cells #[.int .i64 0,.int .i64 0,.int .i64 0,.int .i64 0,.int .i64 0,.int .i64 0,.int .i64 0,.int .i64 0] 215))):=HB1.out.alloc HB1.out.size _;refine hK _ _ ⟨HB2.out,?_⟩;clear hK;refine wpAnyH_all (rs:=[11]) (by kernel_rfl) (by simp) ?_;intro i hi;simp only [List.mem_cons,List.not_mem_nil,or_false] at hi;subst hi;refine wpOp_step rfl ?_;intro K' hK;rw [if_pos (by kernel_rfl)];go_simp;have HBx:Hid (Below ((w.alloc (.cells #[.int .i64 t,.int .i64 k1,.int .i64 k2,.int .i64 a1,.int .i64 a2,.int .i64 b1,.int .i64 b2] 43)).alloc (.cells #[.int .i64 0,.int .i64 0] 41)).heap.size ((w.alloc (.cells #[.int .i64 t,.int .i64 k1,.int .i64 k2,.int .i64 a1,.int .i64 a2,.int .i64 b1,.int .i64 b2] 43)).alloc (.cells #[.int .i64 0,.int .i64 0] 41)) (w1.alloc (.cells #[.int .i64 (numK t),.int .i64 (numN t),.int .i64 k1,.int .i64 k2,.int .i64 a1,.int .i64 a2,.int .i64 b1,.int .i64 b2] 215))):=HB1.out.alloc HB1.out.size _;refine hK _ _ ⟨HBx.out,?_⟩;clear hK;refine wpAnyH_done (by kernel_rfl) ?_ _;have c0:(w1.alloc (.cells #[.int .i64 (numK t),.int .i64 (numN t),.int .i64 k1,.int .i64 k2,.int .i64 a1,.int .i64 a2,.int .i64 b1,.int .i64 b2] 215)).cell? ⟨w1.heap.size,0,none⟩=some (.int .i64 (numK t)):=by go_simp
  have c1:(w1.alloc (.cells #[.int .i64 (numK t),.int .i64 (numN t),.int .i64 k1,.int .i64 k2,.int .i64 a1,.int .i64 a2,.int .i64 b1,.int .i64 b2] 215)).cell? ⟨w1.heap.size,1,none⟩=some (.int .i64 (numN t)):=by go_simp
  have c2:(w1.alloc (.cells #[.int .i64 (numK t),.int .i64 (numN t),.int .i64 k1,.int .i64 k2,.int .i64 a1,.int .i64 a2,.int .i64 b1,.int .i64 b2] 215)).cell? ⟨w1.heap.size,2,none⟩=some (.int .i64 (k1)):=by go_simp
  have c3:(w1.alloc (.cells #[.int .i64 (numK t),.int .i64 (numN t),.int .i64 k1,.int .i64 k2,.int .i64 a1,.int .i64 a2,.int .i64 b1,.int .i64 b2] 215)).cell? ⟨w1.heap.size,3,none⟩=some (.int .i64 (k2)):=by go_simp
  have c4:(w1.alloc (.cells #[.int .i64 (numK t),.int .i64 (numN t),.int .i64 k1,.int .i64 k2,.int .i64 a1,.int .i64 a2,.int .i64 b1,.int .i64 b2] 215)).cell? ⟨w1.heap.size,4,none⟩=some (.int .i64 (a1)):=by go_simp
  have c5:(w1.alloc (.cells #[.int .i64 (numK t),.int .i64 (numN t),.int .i64 k1,.int .i64 k2,.int .i64 a1,.int .i64 a2,.int .i64 b1,.int .i64 b2] 215)).cell? ⟨w1.heap.size,5,none⟩=some (.int .i64 (a2)):=by go_simp
  have c6:(w1.alloc (.cells #[.int .i64 (numK t),.int .i64 (numN t),.int .i64 k1,.int .i64 k2,.int .i64 a1,.int .i64 a2,.int .i64 b1,.int .i64 b2] 215)).cell? ⟨w1.heap.size,6,none⟩=some (.int .i64 (b1)):=by go_simp
  have c7:(w1.alloc (.cells #[.int .i64 (numK t),.int .i64 (numN t),.int .i64 k1,.int .i64 k2,.int .i64 a1,.int .i64 a2,.int .i64 b1,.int .i64 b2] 215)).cell? ⟨w1.heap.size,7,none⟩=some (.int .i64 (b2)):=by go_simp
  have hgl:w1.heap.size < (w1.alloc (.cells #[.int .i64 (numK t),.int .i64 (numN t),.int .i64 k1,.int .i64 k2,.int .i64 a1,.int .i64 a2,.int .i64 b1,.int .i64 b2] 215)).heap.size:=by simp
  generalize (w1.alloc (.cells #[.int .i64 (numK t),.int .i64 (numN t),.int .i64 k1,.int .i64 k2,.int .i64 a1,.int .i64 a2,.int .i64 b1,.int .i64 b2] 215))=wx at *;generalize w1.heap.size=gh at *;clear HB1 HB2 HB0 n0 n1 n2 n3 n4 n5 n6 w1 w0
 case' inr =>
  refine wpOp_step rfl ?_;intro K' hK;rw [if_pos (by kernel_rfl)];go_simp;have HB1:Hid (Below ((w.alloc (.cells #[.int .i64 t,.int .i64 k1,.int .i64 k2,.int .i64 a1,.int .i64 a2,.int .i64 b1,.int .i64 b2] 43)).alloc (.cells #[.int .i64 0,.int .i64 0] 41)).heap.size ((w.alloc (.cells #[.int .i64 t,.int .i64 k1,.int .i64 k2,.int .i64 a1,.int .i64 a2,.int .i64 b1,.int .i64 b2] 43)).alloc (.cells #[.int .i64 0,.int .i64 0] 41)) (w0.alloc (.cells #[.int .i64 0,.int .i64 0,.int .i64 0,.int .i64 0,.int .i64 0,.int .i64 0,.int .i64 0,.int .i64 0] 215))):=HB0.out.alloc HB0.out.size _;have hsz0:w.heap.size+2≤w0.heap.size:=by
   have:=HB0.out.size
   simp only [World.size_alloc] at this;omega
  refine hK _ _ ⟨HB1.out,?_⟩;clear hK;refine wpAnyH_all (rs:=[2]) (by kernel_rfl) (by simp) ?_;intro i hi;simp only [List.mem_cons,List.not_mem_nil,or_false] at hi;subst hi;refine wpOp_step rfl ?_;intro K' hK;rw [if_pos (by kernel_rfl)];go_simp;refine (bN _ _).mono ?_;rintro e w1 ⟨rfl,hb⟩;have HB2:=aa (HB1.out.trans (hb.mono HB1.out.size));obtain ⟨hc,hf⟩:=bcell hb;have hgl0:w0.heap.size < w1.heap.size:=by
   have:=hb.size
   simp only [World.size_alloc] at this;omega
  clear hb;refine hK _ _ ⟨HB2.out,?_⟩;clear hK;refine wpAnyH_take (i:=9) (v:=.agg #[.int .i64 (numK t),.int .i64 (numN t),.int .i64 (k1),.int .i64 (k2),.int .i64 (a1),.int .i64 (a2),.int .i64 (b1),.int .i64 (b2)]) rfl (by kernel_rfl) (by kernel_rfl) (by kernel_rfl) (fun c a w h=>h) (Or.inl ⟨by kernel_rfl,fun wq h=>by go_simp⟩) HB2.out ?_;refine wpAnyH_all (rs:=[11]) (by kernel_rfl) (by simp) ?_;intro i hi;simp only [List.mem_cons,List.not_mem_nil,or_false] at hi;subst hi;refine wpOp_step rfl ?_;intro K' hK;rw [if_pos (by kernel_rfl)];go_simp;have HBx:Hid (Below ((w.alloc (.cells #[.int .i64 t,.int .i64 k1,.int .i64 k2,.int .i64 a1,.int .i64 a2,.int .i64 b1,.int .i64 b2] 43)).alloc (.cells #[.int .i64 0,.int .i64 0] 41)).heap.size ((w.alloc (.cells #[.int .i64 t,.int .i64 k1,.int .i64 k2,.int .i64 a1,.int .i64 a2,.int .i64 b1,.int .i64 b2] 43)).alloc (.cells #[.int .i64 0,.int .i64 0] 41)) ((((((((w1.setCell ⟨w0.heap.size,0,none⟩ (.int .i64 (numK t))).setCell ⟨w0.heap.size,1,none⟩ (.int .i64 (numN t))).setCell ⟨w0.heap.size,2,none⟩ (.int .i64 (k1))).setCell ⟨w0.heap.size,3,none⟩ (.int .i64 (k2))).setCell ⟨w0.heap.size,4,none⟩ (.int .i64 (a1))).setCell ⟨w0.heap.size,5,none⟩ (.int .i64 (a2))).setCell ⟨w0.heap.size,6,none⟩ (.int .i64 (b1))).setCell ⟨w0.heap.size,7,none⟩ (.int .i64 (b2)))):=((((((((HB2.out.setCell (p:=⟨w0.heap.size,0,none⟩) (by simp only [World.size_alloc];omega) _).setCell (p:=⟨w0.heap.size,1,none⟩) (by simp only [World.size_alloc];omega) _).setCell (p:=⟨w0.heap.size,2,none⟩) (by simp only [World.size_alloc];omega) _).setCell (p:=⟨w0.heap.size,3,none⟩) (by simp only [World.size_alloc];omega) _).setCell (p:=⟨w0.heap.size,4,none⟩) (by simp only [World.size_alloc];omega) _).setCell (p:=⟨w0.heap.size,5,none⟩) (by simp only [World.size_alloc];omega) _).setCell (p:=⟨w0.heap.size,6,none⟩) (by simp only [World.size_alloc];omega) _).setCell (p:=⟨w0.heap.size,7,none⟩) (by simp only [World.size_alloc];omega) _);refine hK _ _ ⟨HBx.out,?_⟩;clear hK;refine wpAnyH_done (by kernel_rfl) ?_ _;have c0:((((((((w1.setCell ⟨w0.heap.size,0,none⟩ (.int .i64 (numK t))).setCell ⟨w0.heap.size,1,none⟩ (.int .i64 (numN t))).setCell ⟨w0.heap.size,2,none⟩ (.int .i64 (k1))).setCell ⟨w0.heap.size,3,none⟩ (.int .i64 (k2))).setCell ⟨w0.heap.size,4,none⟩ (.int .i64 (a1))).setCell ⟨w0.heap.size,5,none⟩ (.int .i64 (a2))).setCell ⟨w0.heap.size,6,none⟩ (.int .i64 (b1))).setCell ⟨w0.heap.size,7,none⟩ (.int .i64 (b2))).cell? ⟨w0.heap.size,0,none⟩=some (.int .i64 (numK t)):=by go_simp
  have c1:((((((((w1.setCell ⟨w0.heap.size,0,none⟩ (.int .i64 (numK t))).setCell ⟨w0.heap.size,1,none⟩ (.int .i64 (numN t))).setCell ⟨w0.heap.size,2,none⟩ (.int .i64 (k1))).setCell ⟨w0.heap.size,3,none⟩ (.int .i64 (k2))).setCell ⟨w0.heap.size,4,none⟩ (.int .i64 (a1))).setCell ⟨w0.heap.size,5,none⟩ (.int .i64 (a2))).setCell ⟨w0.heap.size,6,none⟩ (.int .i64 (b1))).setCell ⟨w0.heap.size,7,none⟩ (.int .i64 (b2))).cell? ⟨w0.heap.size,1,none⟩=some (.int .i64 (numN t)):=by go_simp
  have c2:((((((((w1.setCell ⟨w0.heap.size,0,none⟩ (.int .i64 (numK t))).setCell ⟨w0.heap.size,1,none⟩ (.int .i64 (numN t))).setCell ⟨w0.heap.size,2,none⟩ (.int .i64 (k1))).setCell ⟨w0.heap.size,3,none⟩ (.int .i64 (k2))).setCell ⟨w0.heap.size,4,none⟩ (.int .i64 (a1))).setCell ⟨w0.heap.size,5,none⟩ (.int .i64 (a2))).setCell ⟨w0.heap.size,6,none⟩ (.int .i64 (b1))).setCell ⟨w0.heap.size,7,none⟩ (.int .i64 (b2))).cell? ⟨w0.heap.size,2,none⟩=some (.int .i64 (k1)):=by go_simp
  have c3:((((((((w1.setCell ⟨w0.heap.size,0,none⟩ (.int .i64 (numK t))).setCell ⟨w0.heap.size,1,none⟩ (.int .i64 (numN t))).setCell ⟨w0.heap.size,2,none⟩ (.int .i64 (k1))).setCell ⟨w0.heap.size,3,none⟩ (.int .i64 (k2))).setCell ⟨w0.heap.size,4,none⟩ (.int .i64 (a1))).setCell ⟨w0.heap.size,5,none⟩ (.int .i64 (a2))).setCell ⟨w0.heap.size,6,none⟩ (.int .i64 (b1))).setCell ⟨w0.heap.size,7,none⟩ (.int .i64 (b2))).cell? ⟨w0.heap.size,3,none⟩=some (.int .i64 (k2)):=by go_simp
  have c4:((((((((w1.setCell ⟨w0.heap.size,0,none⟩ (.int .i64 (numK t))).setCell ⟨w0.heap.size,1,none⟩ (.int .i64 (numN t))).setCell ⟨w0.heap.size,2,none⟩ (.int .i64 (k1))).setCell ⟨w0.heap.size,3,none⟩ (.int .i64 (k2))).setCell ⟨w0.heap.size,4,none⟩ (.int .i64 (a1))).setCell ⟨w0.heap.size,5,none⟩ (.int .i64 (a2))).setCell ⟨w0.heap.size,6,none⟩ (.int .i64 (b1))).setCell ⟨w0.heap.size,7,none⟩ (.int .i64 (b2))).cell? ⟨w0.heap.size,4,none⟩=some (.int .i64 (a1)):=by go_simp
  have c5:((((((((w1.setCell ⟨w0.heap.size,0,none⟩ (.int .i64 (numK t))).setCell ⟨w0.heap.size,1,none⟩ (.int .i64 (numN t))).setCell ⟨w0.heap.size,2,none⟩ (.int .i64 (k1))).setCell ⟨w0.heap.size,3,none⟩ (.int .i64 (k2))).setCell ⟨w0.heap.size,4,none⟩ (.int .i64 (a1))).setCell ⟨w0.heap.size,5,none⟩ (.int .i64 (a2))).setCell ⟨w0.heap.size,6,none⟩ (.int .i64 (b1))).setCell ⟨w0.heap.size,7,none⟩ (.int .i64 (b2))).cell? ⟨w0.heap.size,5,none⟩=some (.int .i64 (a2)):=by go_simp
  have c6:((((((((w1.setCell ⟨w0.heap.size,0,none⟩ (.int .i64 (numK t))).setCell ⟨w0.heap.size,1,none⟩ (.int .i64 (numN t))).setCell ⟨w0.heap.size,2,none⟩ (.int .i64 (k1))).setCell ⟨w0.heap.size,3,none⟩ (.int .i64 (k2))).setCell ⟨w0.heap.size,4,none⟩ (.int .i64 (a1))).setCell ⟨w0.heap.size,5,none⟩ (.int .i64 (a2))).setCell ⟨w0.heap.size,6,none⟩ (.int .i64 (b1))).setCell ⟨w0.heap.size,7,none⟩ (.int .i64 (b2))).cell? ⟨w0.heap.size,6,none⟩=some (.int .i64 (b1)):=by go_simp
  have c7:((((((((w1.setCell ⟨w0.heap.size,0,none⟩ (.int .i64 (numK t))).setCell ⟨w0.heap.size,1,none⟩ (.int .i64 (numN t))).setCell ⟨w0.heap.size,2,none⟩ (.int .i64 (k1))).setCell ⟨w0.heap.size,3,none⟩ (.int .i64 (k2))).setCell ⟨w0.heap.size,4,none⟩ (.int .i64 (a1))).setCell ⟨w0.heap.size,5,none⟩ (.int .i64 (a2))).setCell ⟨w0.heap.size,6,none⟩ (.int .i64 (b1))).setCell ⟨w0.heap.size,7,none⟩ (.int .i64 (b2))).cell? ⟨w0.heap.size,7,none⟩=some (.int .i64 (b2)):=by go_simp
  have hgl:w0.heap.size < ((((((((w1.setCell ⟨w0.heap.size,0,none⟩ (.int .i64 (numK t))).setCell ⟨w0.heap.size,1,none⟩ (.int .i64 (numN t))).setCell ⟨w0.heap.size,2,none⟩ (.int .i64 (k1))).setCell ⟨w0.heap.size,3,none⟩ (.int .i64 (k2))).setCell ⟨w0.heap.size,4,none⟩ (.int .i64 (a1))).setCell ⟨w0.heap.size,5,none⟩ (.int .i64 (a2))).setCell ⟨w0.heap.size,6,none⟩ (.int .i64 (b1))).setCell ⟨w0.heap.size,7,none⟩ (.int .i64 (b2))).heap.size:=by simpa using hgl0
  clear hc hf;generalize ((((((((w1.setCell ⟨w0.heap.size,0,none⟩ (.int .i64 (numK t))).setCell ⟨w0.heap.size,1,none⟩ (.int .i64 (numN t))).setCell ⟨w0.heap.size,2,none⟩ (.int .i64 (k1))).setCell ⟨w0.heap.size,3,none⟩ (.int .i64 (k2))).setCell ⟨w0.heap.size,4,none⟩ (.int .i64 (a1))).setCell ⟨w0.heap.size,5,none⟩ (.int .i64 (a2))).setCell ⟨w0.heap.size,6,none⟩ (.int .i64 (b1))).setCell ⟨w0.heap.size,7,none⟩ (.int .i64 (b2)))=wx at *;generalize w0.heap.size=gh at *;clear HB1 HB2 HB0 n0 n1 n2 n3 n4 n5 n6 hgl0 hsz0 w1 w0
 all_goals
  have hx2:w.heap.size+2≤wx.heap.size:=by
   have:=HBx.out.size
   simp only [World.size_alloc] at this;omega
  have HR:=aa (aA (aA HR.out H2.out) HBx.out)
  go_wp2_with (at_make;go_must (refine wpList_make_own _ rfl _ _ 76 rfl wx.heap.size 41 i0 (.agg #[.int .i64 0,.int .i64 0]) 2 Tryz.underlying76 hi0 hz0 hz1 .i64 .i64 _ l.length rfl rfl rfl (by rw [hz2];omega) (by show _≤2 ^ 63 - 1;omega) (Nat.le_refl _) ?_))
  intro w3 ho3 hg3;have HB3:Hid (Below wx.heap.size wx w3):=(Below.refl _ _).grown hg3 (Nat.le_refl _) (fun k hk=>by cases hk);have HO3:=aa ho3;clear ho3 hg3;go_wp2_with fail
  go_loopw [6,24] (fun v i wr=>∃ (m:Nat) (vs:List V2),m≤l.length∧vs.length=m∧i=.int .i64 m∧Hid (wr.ownsRow wx.heap.size 41 2 v vs.length (bW vs))∧Hid (Below wx.heap.size wx wr)∧Hid (∀ p∈vs,okV p)∧Hid (evF opV (evE t k1 k2 a1 a2 b1 b2) (l.drop m) vs=T)) (fun _ i _=>l.length - (intOf i).toNat)
  case atStart=>exact ⟨0,[],Nat.zero_le _,rfl,rfl,HO3,HB3,fun p hp=>absurd hp (by simp),HF⟩
  case round =>
   clear HF HB3 HO3;obtain ⟨m,vs,hm,rfl,rfl,HO,HB,HV,HS⟩:=hrel;obtain ⟨ao2,cap2,rfl⟩:=ax HO.out
   by_cases hlt:vs.length < l.length
   ·obtain ⟨g,off,rfl,hnode,l1,l2,l3⟩:=gD HR.out _ hlt;have hS:=HS.out;rw [List.drop_eq_getElem_cons hlt] at hS;have hon:=HOK.out _ (List.getElem_mem hlt);generalize l[vs.length]=nd at *;obtain ⟨n0,n1,n2,n3,n4,n5⟩:=ez hnode HB.out l3;clear hnode;unfold maxLen at l2;simp only [evF] at hS;have HN:=aa (evalNode_any nd (numK t) (numN t) k1 k2 a1 a2 b1 b2 vs (.slice ao2 vs.length cap2) (wr.alloc (.cells #[.int .i64 nd.op,.int .i64 nd.x,.int .i64 nd.y,.int .i64 nd.n,.int .i64 nd.k,.int .i64 nd.v] 153)) (by omega) (aD (HO.out.alloc _)) HV.out);have hp:=ok_evN (n:=nd) (vs:=vs) HEV.out hon;have HP:=aa hp;have HS:=aa hS;clear hp hS hon;have he:evN opV [(numK t,numN t),(k1,k2),(a1,a2),(b1,b2)] nd vs=evN opV (evE t k1 k2 a1 a2 b1 b2) nd vs:=rfl;rw [he] at HN;clear he;generalize evN opV (evE t k1 k2 a1 a2 b1 b2) nd vs=p at *;obtain ⟨p1,p2⟩:=p;unfold fT mO iG at HN
    simp only at HN
    obtain ⟨hc,hf⟩:=rules HB;obtain ⟨hc2,hf2⟩:=rules (nxta HB (.cells #[.int .i64 nd.op,.int .i64 nd.x,.int .i64 nd.y,.int .i64 nd.n,.int .i64 nd.k,.int .i64 nd.v] 153));go_wp2_with fail;refine HN.out.mono ?_;rintro e w4 ⟨rfl,hb⟩;have HB4:=nxt (nxta HB (.cells #[.int .i64 nd.op,.int .i64 nd.x,.int .i64 nd.y,.int .i64 nd.n,.int .i64 nd.k,.int .i64 nd.v] 153)) hb;have HO4:=aa (aB (HO.out.alloc _) hb (Nat.le_refl _));clear hb hc hf hc2 hf2 HN
    go_wp2_with (at_builtin;go_must (refine wpList_append_own _ rfl (.tmp 28) (.tmp 33) 76 rfl wx.heap.size 41 i0 (.agg #[.int .i64 0,.int .i64 0]) 2 16 Tryz.underlying76 hi0 hz0 hz1 hz2 rfl (by decide) _ _ _ rfl (HO4.out.alloc _) ⟨w4.heap.size,0,none⟩ 1 1 [.int .i64 p1,.int .i64 p2] rfl rfl (cell_two_newE _ _ _ _) (by intro u hu;simp at hu;rcases hu with rfl | rfl <;> rfl) (by show _≤2 ^ 63 - 1;omega) (by omega) (by have:=HB4.out.size;simp;omega) ?_))
    intro v' w5 ho5 hg5 _;have ho6:w5.ownsRow wx.heap.size 41 2 v' (vs++[(p1,p2)]).length (bW (vs++[(p1,p2)])):=by
     have e1:bW [(p1,p2)]=[.int .i64 p1,.int .i64 p2]:=rfl;rw [rowV_app,e1,List.length_append];exact ho5
    have HO5:=aa ho6;have HB5:Hid (Below wx.heap.size wx w5):=(HB4.out.alloc HB4.out.size _).grown hg5 (by have:=HB4.out.size;simp;omega) (fun k hk=>(HO4.out.lt k hk).1);clear ho5 hg5 ho6;go_wp2_with fail;go_roundw
    case rel=>exact ⟨vs.length+1,vs++[(p1,p2)],by omega,by simp,by go_num,HO5,HB5,fun q hq=>by
     simp only [List.mem_append,List.mem_cons,List.not_mem_nil,or_false] at hq
     rcases hq with hq | rfl
     ·exact HV.out q hq
     ·exact HP.out,HS⟩
    case measure=>simp [intOf];omega
   ·have hml:vs.length=l.length:=by omega
    have hS:=HS.out;rw [List.drop_eq_nil_of_le (by omega)] at hS;simp only [evF] at hS;subst hS;have HN:=aa (cm vs (.slice ao2 vs.length cap2) ((l.length:Int) - 1) wr (by omega) (aD HO.out));have HB:=aa (HBx.out.trans (HB.out.mono HBx.out.size));generalize hq:nth vs ((l.length:Int) - 1)=q at *;have HQ:=aa hq;clear hq;obtain ⟨q1,q2⟩:=q;unfold iG at HN
    simp only at HN
    have hge:¬ ((vs.length:Int) < (l.length:Int)):=by omega
    clear HS HV HO hml hlt hm;have ww:IntKind.i64.wrap ((l.length:Int) - 1)=(l.length:Int) - 1:=by unfold IntKind.wrap;simp [IntKind.bits,IntKind.signed];omega
    go_wp2_with fail;refine HN.out.mono ?_;rintro e w6 ⟨rfl,hb⟩;have HB6:=nxt HB hb;clear hb;obtain ⟨hc,hf⟩:=rules HB6;go_wp2_with fail;exact bodyPost_ret (v:=.agg #[.int .i64 q1,.int .i64 q2]) (by simp [results,Tryz.results123,go_sem,hc,hf]) rfl ⟨by rw [HQ.out];rfl,ended HB6 H2.out _ _⟩
end Go.Proofs.YtcgjflamgnjhcaaGreatDoor
namespace Go.Proofs.YtcgjflamgnjhcaaGreatDoor
def bt (s:ByteArray) (k:Nat):Int:=((s.data.toList.getD k 0).toNat:Int)
def db (c:Int):Bool:=decide (97≤c∧c≤122)
def dh (c:Int):Bool:=decide (48≤c∧c≤57)
def iV (c:Int):Bool:=c == 40 || c == 41 || c == 44 || c == 42 || c == 43 || c == 45 || c == 60 || c == 62 || c == 61
def hZ (a b:Int):Bool:=(a == 60 && b == 61) || (a == 62 && b == 61) || (a == 60 && b == 62)
def nQ (p:Int→Bool) (s:ByteArray):Nat→Nat→Nat
 | 0,_=>0
 | f+1,at_=>if at_ < s.size∧p (bt s at_)=true then nQ p s f (at_+1)+1 else 0
def run (p:Int→Bool) (s:ByteArray) (at_:Nat):Nat:=nQ p s (s.size - at_) at_
theorem oW (p:Int→Bool) (s:ByteArray):∀ f a,nQ p s f a≤f
 | 0,_=>Nat.le_refl _
 | f+1,a=>by
  unfold nQ
  have:=oW p s f (a+1)
  split <;> omega
theorem pU (p:Int→Bool) (s:ByteArray) (a:Nat):run p s a≤s.size - a:=oW p s _ _
theorem oq (p:Int→Bool) (s:ByteArray):∀ f a n,s.size - a≤f→a≤n→n≤s.size→(∀ j,a≤j→j < n→p (bt s j)=true)→(n=s.size∨p (bt s n)=false)→nQ p s f a=n - a
 | 0,a,n,hf,h1,h2,_,_=>by unfold nQ;omega
 | f+1,a,n,hf,h1,h2,h3,h4=>by
  unfold nQ
  by_cases h:a=n
  ·subst h;rw [if_neg]
   ·omega
   ·rintro ⟨q1,q2⟩
    rcases h4 with h4 | h4
    ·omega
    ·rw [h4] at q2;cases q2
  ·rw [if_pos ⟨by omega,h3 a (Nat.le_refl _) (by omega)⟩,oq p s f (a+1) n (by omega) (by omega) h2 (fun j q1 q2=>h3 j (by omega) q2) h4];omega
theorem nG (p:Int→Bool) (s:ByteArray) (a n:Nat) (h1:a≤n) (h2:n≤s.size) (h3:∀ j,a≤j→j < n→p (bt s j)=true) (h4:n=s.size∨p (bt s n)=false):run p s a=n - a :=
 oq p s _ a n (Nat.le_refl _) h1 h2 h3 h4
def wl (s:ByteArray) (a:Nat):Nat :=
 if db (bt s a) then run db s a else if dh (bt s a) then run dh s a else
 if a+1 < s.size∧hZ (bt s a) (bt s (a+1))=true then 2 else if iV (bt s a) then 1 else 0
theorem qn (s:ByteArray) (a:Nat) (h:a < s.size):a+wl s a≤s.size:=by
 unfold wl
 split
 ·have:=pU db s a;omega
 ·split
  ·have:=pU dh s a;omega
  ·split
   ·omega
   ·split <;> omega
def mj (s:ByteArray):Nat→Nat→List ByteArray→Int×List ByteArray
 | 0,_,ws=>(0,ws)
 | f+1,a,ws =>
  if a < s.size then
   if bt s a=32 then mj s f (a+1) ws else
   if wl s a=0 then (4,[]) else if ws.length=80 then (2,[]) else mj s f (a+wl s a) (ws++[s.extract a (a+wl s a)])
  else (0,ws)
def jL (s:ByteArray) (a:Nat) (ws:List ByteArray) (T:Int×List ByteArray):Prop:=∃ f,s.size - a≤f∧mj s f a ws=T
def lexT (s:ByteArray):Int×List ByteArray:=if s.size≤240 then mj s s.size 0 [] else (2,[])
theorem left_start (s:ByteArray) (h:s.size≤240):jL s 0 [] (lexT s):=⟨s.size,by omega,by unfold lexT;rw [if_pos h]⟩
theorem left_end {s:ByteArray} {a:Nat} {ws:List ByteArray} {T:Int×List ByteArray} (h:jL s a ws T) (ha:s.size≤a):T=(0,ws):=by
 obtain ⟨f,hf,rfl⟩:=h;cases f with
 | zero=>rfl
 | succ f=>unfold mj;rw [if_neg (by omega)]
theorem left_blank {s:ByteArray} {a:Nat} {ws:List ByteArray} {T:Int×List ByteArray} (h:jL s a ws T) (ha:a < s.size) (hb:bt s a=32):jL s (a+1) ws T:=by
 obtain ⟨f,hf,rfl⟩:=h;cases f with
 | zero=>omega
 | succ f=>exact ⟨f,by omega,by conv=>rhs;unfold mj;rw [if_pos ha,if_pos hb]⟩
theorem left_none {s:ByteArray} {a:Nat} {ws:List ByteArray} {T:Int×List ByteArray} (h:jL s a ws T) (ha:a < s.size) (hb:bt s a≠32) (hw:wl s a=0):T=(4,[]):=by
 obtain ⟨f,hf,rfl⟩:=h;cases f with
 | zero=>omega
 | succ f=>unfold mj;rw [if_pos ha,if_neg hb,if_pos hw]
theorem left_many {s:ByteArray} {a:Nat} {ws:List ByteArray} {T:Int×List ByteArray} (h:jL s a ws T) (ha:a < s.size) (hb:bt s a≠32) (hw:wl s a≠0) (hn:ws.length=80):T=(2,[]):=by
 obtain ⟨f,hf,rfl⟩:=h;cases f with
 | zero=>omega
 | succ f=>unfold mj;rw [if_pos ha,if_neg hb,if_neg hw,if_pos hn]
theorem left_word {s:ByteArray} {a:Nat} {ws:List ByteArray} {T:Int×List ByteArray} (h:jL s a ws T) (ha:a < s.size) (hb:bt s a≠32) (hw:wl s a≠0) (hn:ws.length≠80) :
  jL s (a+wl s a) (ws++[s.extract a (a+wl s a)]) T:=by
 obtain ⟨f,hf,rfl⟩:=h;cases f with
 | zero=>omega
 | succ f=>exact ⟨f,by omega,by conv=>rhs;unfold mj;rw [if_pos ha,if_neg hb,if_neg hw,if_neg hn]⟩
end Go.Proofs.YtcgjflamgnjhcaaGreatDoor
namespace Go.Proofs.YtcgjflamgnjhcaaGreatDoor
open Go.RowKit
theorem pF {k:IntKind} {a b:Int} (h:a=b):Ending.returned (.int k a)=.returned (.int k b):=by rw [h]
theorem fH (c:Int) (w:World):Calls Tryz.prog 142 #[.int .u8 c] w fun e w'=>e=.returned (.bool (db c))∧w'=w:=by
 by_cases h1:97≤c
 ·by_cases h2:c≤122
  ·have e:db c=true:=decide_eq_true ⟨h1,h2⟩;rw [e];clear e
   go_enter Tryz.func142,Tryz.ntmps142
   go_wp2
   go_ret
   exact ⟨rfl,rfl⟩
  ·have e:db c=false:=decide_eq_false (by omega);have hd:decide (c≤122)=false:=decide_eq_false h2;rw [e];clear e
   go_enter Tryz.func142,Tryz.ntmps142
   go_wp2
   go_ret
   exact ⟨rfl,rfl⟩
 ·have e:db c=false:=decide_eq_false (by omega);have hd:decide (97≤c)=false:=decide_eq_false h1;rw [e];clear e
  go_enter Tryz.func142,Tryz.ntmps142
  go_wp2
  go_ret
  exact ⟨rfl,rfl⟩
theorem jx (c:Int) (w:World):Calls Tryz.prog 144 #[.int .u8 c] w fun e w'=>e=.returned (.bool (dh c))∧w'=w:=by
 by_cases h1:48≤c
 ·by_cases h2:c≤57
  ·have e:dh c=true:=decide_eq_true ⟨h1,h2⟩;rw [e];clear e
   go_enter Tryz.func144,Tryz.ntmps144
   go_wp2
   go_ret
   exact ⟨rfl,rfl⟩
  ·have e:dh c=false:=decide_eq_false (by omega);have hd:decide (c≤57)=false:=decide_eq_false h2;rw [e];clear e
   go_enter Tryz.func144,Tryz.ntmps144
   go_wp2
   go_ret
   exact ⟨rfl,rfl⟩
 ·have e:dh c=false:=decide_eq_false (by omega);have hd:decide (48≤c)=false:=decide_eq_false h1;rw [e];clear e
  go_enter Tryz.func144,Tryz.ntmps144
  go_wp2
  go_ret
  exact ⟨rfl,rfl⟩
theorem gw (s:ByteArray) (k:Nat) (h:k < s.size):(s[k].toNat:Int)=bt s k:=by
 unfold bt;have h2:k < s.data.toList.length:=by simpa using h
 simp only [List.getD,List.getElem?_eq_getElem h2,Option.getD_some]
 rfl
theorem runLet (s:ByteArray) (w:World) (hs:s.size≤maxLen) :
  Calls Tryz.prog 143 #[.string s,.func (Fn.func 142) #[] #[]] w fun e w'=>e=.returned (.int .i64 (run db s 0))∧w'=w:=by
 unfold maxLen at hs;generalize hr:((run db s 0:Nat):Int)=r;have HR:Hid (((run db s 0:Nat):Int)=r):=hr;clear hr
 go_enter Tryz.func143,Tryz.ntmps143
 go_wp2_with fail
 go_loop [5] (fun i=>∃ k:Nat,k≤s.size∧i=.int .i64 k∧Hid (∀ j,j < k→db (bt s j)=true)) (fun i=>s.size - (intOf i).toNat)
 case atStart=>exact ⟨0,Nat.zero_le _,rfl,fun j hj=>absurd hj (by omega)⟩
 case round =>
  obtain ⟨k,hk,rfl,HA⟩:=hrel
  by_cases hlt:k < s.size
  ·go_wp2_with (go_at_call 142;refine (fH _ _).mono ?_;rintro e w' ⟨rfl,rfl⟩)
   ·have q:db (s[k].toNat:Int)=true:=by assumption
    rw [gw s k hlt] at q
    go_round
    case rel=>exact ⟨k+1,by omega,by go_num,fun j hj=>by
     by_cases hjk:j=k
     ·subst hjk;exact q
     ·exact HA.out j (by omega)⟩
    case measure=>simp [intOf];omega
   ·have q:db (s[k].toNat:Int)=false:=by assumption
    rw [gw s k hlt] at q;have e:run db s 0=k:=by rw [nG db s 0 k (by omega) (by omega) (fun j _ hj=>HA.out j hj) (.inr q)];omega
    go_ret
    exact ⟨pF (by rw [← HR.out,e]),rfl⟩
  ·have e:run db s 0=k:=by rw [nG db s 0 k (by omega) (by omega) (fun j _ hj=>HA.out j hj) (.inl (by omega))];omega
   have E:Hid (run db s 0=k):=e;clear e;go_wp2_with fail
   go_ret
   exact ⟨pF (by rw [← HR.out,E.out]),rfl⟩
theorem runDig (s:ByteArray) (w:World) (hs:s.size≤maxLen) :
  Calls Tryz.prog 143 #[.string s,.func (Fn.func 144) #[] #[]] w fun e w'=>e=.returned (.int .i64 (run dh s 0))∧w'=w:=by
 unfold maxLen at hs;generalize hr:((run dh s 0:Nat):Int)=r;have HR:Hid (((run dh s 0:Nat):Int)=r):=hr;clear hr
 go_enter Tryz.func143,Tryz.ntmps143
 go_wp2_with fail
 go_loop [5] (fun i=>∃ k:Nat,k≤s.size∧i=.int .i64 k∧Hid (∀ j,j < k→dh (bt s j)=true)) (fun i=>s.size - (intOf i).toNat)
 case atStart=>exact ⟨0,Nat.zero_le _,rfl,fun j hj=>absurd hj (by omega)⟩
 case round =>
  obtain ⟨k,hk,rfl,HA⟩:=hrel
  by_cases hlt:k < s.size
  ·go_wp2_with (go_at_call 144;refine (jx _ _).mono ?_;rintro e w' ⟨rfl,rfl⟩)
   ·have q:dh (s[k].toNat:Int)=true:=by assumption
    rw [gw s k hlt] at q
    go_round
    case rel=>exact ⟨k+1,by omega,by go_num,fun j hj=>by
     by_cases hjk:j=k
     ·subst hjk;exact q
     ·exact HA.out j (by omega)⟩
    case measure=>simp [intOf];omega
   ·have q:dh (s[k].toNat:Int)=false:=by assumption
    rw [gw s k hlt] at q;have e:run dh s 0=k:=by rw [nG dh s 0 k (by omega) (by omega) (fun j _ hj=>HA.out j hj) (.inr q)];omega
    go_ret
    exact ⟨pF (by rw [← HR.out,e]),rfl⟩
  ·have e:run dh s 0=k:=by rw [nG dh s 0 k (by omega) (by omega) (fun j _ hj=>HA.out j hj) (.inl (by omega))];omega
   have E:Hid (run dh s 0=k):=e;clear e;go_wp2_with fail
   go_ret
   exact ⟨pF (by rw [← HR.out,E.out]),rfl⟩
theorem idx_call (s:ByteArray) (c:Int) (w:World):(callFunc 189 #[.string s,.int .u8 c]).run Tryz.prog w=.ok (.value (.int .i64 (Lib.indexByte s.data.toList c.toNat.toUInt8))) w:=by
 rw [run_callFunc_extern Tryz.func189 (by kernel_rfl) (by kernel_rfl) (by kernel_rfl) (e:=Extern.BytealgIndexByte.indexByte) (by kernel_rfl),Lib.run_indexByteString]
 rfl
theorem pr (c:Int) (h0:0≤c) (h1:c≤255):decide (0≤Lib.indexByte [40,41,44,42,43,45,60,62,61] c.toNat.toUInt8)=iV c:=by
 obtain ⟨n,rfl⟩:=Int.eq_ofNat_of_zero_le h0;have hn:n < 256:=by omega
 clear h0 h1
 revert n
 decide +kernel
theorem oN (c:Int) (w:World) (h0:0≤c) (h1:c≤255):Calls Tryz.prog 164 #[.string ⟨#[40,41,44,42,43,45,60,62,61]⟩,.int .u8 c] w fun e w'=>e=.returned (.int .i64 (Lib.indexByte [40,41,44,42,43,45,60,62,61] c.toNat.toUInt8))∧w'=w:=by
 have hd:=idx_call ⟨#[40,41,44,42,43,45,60,62,61]⟩ c w
 go_enter Tryz.func164,Tryz.ntmps164
 go_wp2
 go_ret
 exact ⟨rfl,rfl⟩
theorem u8_eq (a b:UInt8):(a == b)=((a.toNat:Int) == (b.toNat:Int)):=by
 rw [Bool.eq_iff_iff];simp only [beq_iff_eq]
 constructor
 ·rintro rfl;rfl
 ·intro h;exact UInt8.toNat_inj.1 (by omega)
theorem iy (s:ByteArray) (a b:UInt8) (h:2≤s.size):((s.extract 0 2).toList == [a,b])=(bt s 0 == (a.toNat:Int) && bt s 1 == (b.toNat:Int)):=by
 have e:(s.extract 0 2).toList=s.data.toList.take 2:=by
  rw [ByteArray.toList_eq,Lib.extract_data];simp
 rw [e];unfold bt;have hl:2≤s.data.toList.length:=by simpa using h
 generalize s.data.toList=l at hl
 match l,hl with
 | x :: y :: r,_=>simp [u8_eq]
end Go.Proofs.YtcgjflamgnjhcaaGreatDoor
