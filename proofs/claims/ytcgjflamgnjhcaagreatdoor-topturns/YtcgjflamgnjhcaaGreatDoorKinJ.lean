/- Own texts in one. Conditions: as named in each. -/
import Derived.WalkKit
import Derived.Below
import Derived.BigQuiet
import Derived.Deep.QuietTactic
import Derived.Test.YtcgjflamgnjhcaaGreatDoorRows
import Derived.ProofKit
import Derived.OpenShut
import Derived.ShutString
import Derived.ChangeOld
import Derived.Outline
import Derived.OwnWalk
import Derived.RegionTactic
import Derived.Deep.RegionWith
import Derived.Deep.DeepMust
import Derived.OrdersHeld
import Derived.Maps.AppendAt
import Derived.OneCell
import Derived.Lib.SmallJoins
set_option linter.unusedVariables false
set_option linter.unusedSimpArgs false
set_option maxRecDepth 100000
set_option maxHeartbeats 8000000
namespace Go.Proofs.YtcgjflamgnjhcaaGreatDoor
open Go.RowKit
structure Kin (W0:World) where
 w:World
 h:Below W0.heap.size W0 w
theorem aD {P:Program} {id:Nat} {Q:Exit→Act→World→Prop} {a:Act} {W0 w:World} {l:List Oper} (hb:Hid (Below W0.heap.size W0 w)) (hm:P.follows .mixedOrders=true) (hB:Region.lexB .any l.toArray=true)
  (h:wpQuiet P l.toArray (fun w'=>∃ p:Kin W0,w'=p.w) (fun a'=>∀ w',(∃ p:Kin W0,w'=p.w)→Q .normal a' w') l a):(Code.region id l.toArray true).wp P Q a w :=
 wp_region_quiet (C:=fun w'=>∃ p:Kin W0,w'=p.w) hm hB ⟨⟨_,hb.out.drew⟩,rfl⟩ (by simpa using h)
theorem co {P:Program} {f:FuncId} {args:Array Value} {W0:World} {p:Kin W0} {v:Value}
  (h:Calls P f args p.w fun e w'=>e=.returned v∧Below p.w.heap.size p.w w'):Calls P f args p.w fun e w''=>e=.returned v∧∃ q:Kin W0,w''=q.w :=
 h.mono fun _ w' ⟨he,hb⟩=>⟨he,⟨w',p.h.trans (hb.mono p.h.size)⟩,rfl⟩
theorem nG {P:Program} {f:FuncId} {args:Array Value} {W0:World} {p:Kin W0} {v:Value}
  (h:Calls P f args p.w fun e w'=>e=.returned v∧w'=p.w):Calls P f args p.w fun e w''=>e=.returned v∧∃ q:Kin W0,w''=q.w :=
 h.mono fun _ _ ⟨he,hb⟩=>⟨he,p,hb⟩
theorem bn (W0:World):(∀ (p:Kin W0) (b o:Nat),b < W0.heap.size→p.w.cell? ⟨b,o,none⟩=W0.cell? ⟨b,o,none⟩)∧(∀ (p:Kin W0) (b o:Nat),b < W0.heap.size→p.w.frozen? ⟨b,o,none⟩=W0.frozen? ⟨b,o,none⟩) :=
 ⟨fun p b o hb=>p.h.cell (p:=⟨b,o,none⟩) hb,fun p b o hb=>p.h.frozen (p:=⟨b,o,none⟩) hb⟩
theorem bG (W0:World):Nonempty (Kin W0):=⟨⟨W0,Below.refl _ _⟩⟩
end Go.Proofs.YtcgjflamgnjhcaaGreatDoor
namespace Go.Proofs.YtcgjflamgnjhcaaGreatDoor
open Go.ChangeShapes Go.WideShapes Go.ChangeAt Go.RowKit
theorem aa {p:Prop} (h:p):Hid p:=h
theorem bcell {W w1:World} (hb:Below W.heap.size W w1):(∀ b o,b < W.heap.size→w1.cell? ⟨b,o,none⟩=W.cell? ⟨b,o,none⟩)∧(∀ b o,b < W.heap.size→w1.frozen? ⟨b,o,none⟩=W.frozen? ⟨b,o,none⟩) :=
 ⟨fun b o h=>hb.cell (p:=⟨b,o,none⟩) h,fun b o h=>hb.frozen (p:=⟨b,o,none⟩) h⟩
theorem nxt {W0 wx wy:World} (h:Hid (Below W0.heap.size W0 wx)) (hb:Below wx.heap.size wx wy):Hid (Below W0.heap.size W0 wy):=h.out.trans (hb.mono h.out.size)
theorem nxta {W0 wx:World} (h:Hid (Below W0.heap.size W0 wx)) (o:Obj):Hid (Below W0.heap.size W0 (wx.alloc o)):=h.out.alloc h.out.size o
theorem rules {W0 wx:World} (h:Hid (Below W0.heap.size W0 wx)):(∀ b o,b < W0.heap.size→wx.cell? ⟨b,o,none⟩=W0.cell? ⟨b,o,none⟩)∧(∀ b o,b < W0.heap.size→wx.frozen? ⟨b,o,none⟩=W0.frozen? ⟨b,o,none⟩):=bcell h.out
theorem done {w W0 wx:World} (h0:Below w.heap.size w W0) (h:Hid (Below W0.heap.size W0 wx)):Below w.heap.size w wx:=h0.trans (h.out.mono h0.size)
theorem ended {w W0 wx:World} {g:Nat} (h:Hid (Below W0.heap.size W0 wx)) (h0:Below w.heap.size w W0) (x y:Value) (hg:w.heap.size≤g:=by omega):Below w.heap.size w ((wx.setCell ⟨g,0,none⟩ x).setCell ⟨g,1,none⟩ y) :=
 ((done h0 h).setCell (p:=⟨g,0,none⟩) hg x).setCell (p:=⟨g,1,none⟩) hg y
def bT (w:World) (v:Value) (size n:Nat) (xs:List Value):Prop :=
 xs.length=n * size∧(((∃ ao cap,v=.slice ao 0 cap)∧n=0)∨∃ g off cap,v=.slice (some ⟨g,off,none⟩) n cap∧n≤cap∧cap≤maxLen∧g < w.heap.size∧∀ j,j < n * size→w.cell? ⟨g,off+j,none⟩=xs[j]?)
theorem aE {w:World} {base size n:Nat} {e:TypeId} {v:Value} {xs:List Value} (h:w.ownsRow base e size v n xs):bT w v size n xs:=by
 obtain ⟨h0,h1⟩:=h;refine ⟨h0,?_⟩
 rcases h1 with ⟨rfl,hn⟩ | ⟨g,cap,cur,rfl,hb,hg,hle,hm,hs,ht⟩
 ·exact .inl ⟨⟨_,_,rfl⟩,hn⟩
 ·have hsz:g < w.heap.size:=(Array.getElem?_eq_some_iff.1 hg).1;refine .inr ⟨g,0,cap,rfl,hle,hm,hsz,fun i hi=>?_⟩;have hc:=World.ownsRow.cellAt (w:=w) (base:=base) (e:=e) (size:=size) (g:=g) (n:=n) (cap:=cap) ⟨h0,.inr ⟨g,cap,cur,rfl,hb,hg,hle,hm,hs,ht⟩⟩ i hi;rw [Nat.zero_add,hc]
theorem aA {w w':World} {size n:Nat} {v:Value} {xs:List Value} (h:bT w v size n xs) (hb:Below w.heap.size w w'):bT w' v size n xs:=by
 obtain ⟨h0,h⟩:=h;refine ⟨h0,?_⟩
 rcases h with h | ⟨g,off,cap,h1,h2,h3,h4,h5⟩
 ·exact .inl h
 ·exact .inr ⟨g,off,cap,h1,h2,h3,Nat.lt_of_lt_of_le h4 hb.size,fun i hi=>by rw [hb.cell (p:=⟨g,off+i,none⟩) h4];exact h5 i hi⟩
theorem aq {w:World} {size n:Nat} {v:Value} {xs:List Value} (h:bT w v size n xs):∃ ao cap,v=.slice ao n cap:=by
 rcases h.2 with ⟨⟨ao,cap,rfl⟩,rfl⟩ | ⟨g,off,cap,rfl,_⟩
 ·exact ⟨ao,cap,rfl⟩
 ·exact ⟨_,_,rfl⟩
theorem nt (w:World) (e:TypeId) (l:List Value) (g n:Nat) (hg:g=w.heap.size) (hn:n=l.length) (hm:n≤maxLen):bT (w.alloc (.cells l.toArray e)) (.slice (some ⟨g,0,none⟩) n n) 1 n l:=by
 subst hg hn;have h:=World.ownsRow_lit (base:=0) (size:=1) (e:=e) w l.toArray l.length (Nat.zero_le _) hm (by simp);exact aE (base:=0) (by simpa using h)
theorem db {w:World} {n:Nat} {ao:Option Addr} {cap:Nat} {xs:List Value} (h:bT w (.slice ao n cap) 1 n xs) (j:Nat) (hj:j < n) :
  ∃ g off x,ao=some ⟨g,off,none⟩∧xs[j]?=some x∧w.cell? ⟨g,off+j,none⟩=some x∧n≤cap∧cap≤maxLen∧g < w.heap.size:=by
 obtain ⟨h0,h⟩:=h
 rcases h with ⟨-,h⟩ | ⟨g,off,cap',e,h1,h2,h3,h4⟩
 ·omega
 ·simp only [Value.slice.injEq] at e;obtain ⟨rfl,-,rfl⟩:=e;have hx:=h4 j (by omega);rw [List.getElem?_eq_getElem (by omega)] at hx;exact ⟨g,off,_,rfl,List.getElem?_eq_getElem (by omega),hx,h1,h2,h3⟩
theorem aC {w w':World} {B base:Nat} {e:TypeId} {size n:Nat} {v:Value} {xs:List Value} (h:w.ownsRow base e size v n xs) (hb:Below B w w') (hB:w.heap.size≤B):w'.ownsRow base e size v n xs:=by
 obtain ⟨h0,h1⟩:=h;refine ⟨h0,?_⟩
 rcases h1 with h1 | ⟨g,cap,cur,e1,hb',hg,hle,hm,hs,ht⟩
 ·exact .inl h1
 ·have hsz:g < w.heap.size:=(Array.getElem?_eq_some_iff.1 hg).1;exact .inr ⟨g,cap,cur,e1,hb',by rw [hb.block g (by omega)];exact hg,hle,hm,hs,ht⟩
theorem ax {w:World} {base:Nat} {e:TypeId} {size:Nat} {v:Value} {n:Nat} {xs:List Value} (h:w.ownsRow base e size v n xs):∃ ao cap,v=.slice ao n cap:=by
 rcases h.2 with ⟨rfl,rfl⟩ | ⟨g,cap,cur,rfl,_⟩
 ·exact ⟨none,0,rfl⟩
 ·exact ⟨_,cap,rfl⟩
theorem infoI:(Tryz.prog.info? 3).map (fun i=>(i.zero,i.size,i.bytes))=some (some (.int .i64 0),1,8):=by kernel_rfl
theorem eW (w:World) (v:Value) (e:TypeId):∀ j u,([v]:List Value)[j]?=some u→(w.alloc (.cells #[v] e)).cell? ((⟨w.heap.size,0,none⟩:Addr).add j)=some u:=by
 intro j u h;have hj:j=0:=by
  have:=(List.getElem?_eq_some_iff.1 h).1
  simp at this;omega
 subst hj;simp at h;subst h
 have:=World.ownsRow_lit (base:=0) (size:=1) (e:=e) w #[v] 1 (Nat.zero_le _) (by decide) rfl
 have:=this.cellAt 0 (by omega)
 rw [show (⟨w.heap.size,0,none⟩:Addr).add 0=⟨w.heap.size,0,none⟩ from rfl,this]
 rfl
theorem cell_two_newE (w:World) (x y:Value) (e:TypeId):∀ j u,([x,y]:List Value)[j]?=some u→(w.alloc (.cells #[x,y] e)).cell? ((⟨w.heap.size,0,none⟩:Addr).add j)=some u:=by
 intro j u h;have hj:j < 2:=by simpa using (List.getElem?_eq_some_iff.1 h).1
 have:=World.ownsRow_lit (base:=0) (size:=2) (e:=e) w #[x,y] 1 (Nat.zero_le _) (by decide) rfl
 have:=this.cellAt j (by omega)
 rw [show (⟨w.heap.size,0,none⟩:Addr).add j=⟨w.heap.size,j,none⟩ from by rcases (by omega:j=0∨j=1) with rfl | rfl <;> rfl,this];exact h
def ik (c:Int):Value:=if c=0 then .nilIface else .iface 93 (.int .i64 c)
theorem oJ {P:Nat→Prop} {k:Nat} (h:P k):∀ i∈[k],P i:=fun i hi=>by rw [List.mem_singleton.1 hi];exact h
section
variable {P:Program} {md:Region.Mode} {ops:Array Oper} {Q:Exit→Act→World→Prop} {S:World→Prop}
theorem bD {i:Nat} {oi:Oper} {v:Value} {fuel:Nat} {listed L:Array Bool} {a:Act} {w:World} (hi:ops[i]?=some oi)
  (hs:Region.noSelect ops=true) (hf:Region.free md ops listed i=true) (hr:(Region.ready md ops listed).contains i=true)
  (hQ:∀ c a w,Q (.panic c) (a.put oi.dst v) w→Q (.panic c) a w) (hy:YieldsIf P ops S oi v a) (hS:S w) (hL:listed.setIfInBounds i true=L)
  (h:wpAnyH P md ops Q S fuel L (a.put oi.dst v) w):wpAnyH P md ops Q S (fuel+1) listed a w :=
 wpAnyH_take hi hs hf hr hQ hy hS (by rw [hL];exact h)
theorem held_go {i:Nat} {o:Oper} {fuel:Nat} {listed L:Array Bool} {a:Act} {w:World} (hr:Region.ready md ops listed=[i]) (ho:ops[i]?=some o)
  (hw:Region.wanted o (yielded ops a.tmps)=true) (hL:listed.setIfInBounds i true=L)
  (h:∀ K':Act→World→Prop,(∀ a' w',(S w'∧wpAnyH P md ops Q S fuel L a' w')→K' a' w')→Oper.wp P o a w K' Q):wpAnyH P md ops Q S (fuel+1) listed a w :=
 wpAnyH_all hr (by simp) (oJ (wpOp_step ho (fun K' hK=>by rw [if_pos hw];exact h K' (fun a' w' q=>hK a' w' ⟨q.1,by rw [hL];exact q.2⟩))))
theorem held_two {i j:Nat} {oi oj:Oper} {fuel:Nat} {listed Li Lj:Array Bool} {a:Act} {w:World} (hr:Region.ready md ops listed=[i,j]) (hoi:ops[i]?=some oi) (hoj:ops[j]?=some oj)
  (hwi:Region.wanted oi (yielded ops a.tmps)=true) (hwj:Region.wanted oj (yielded ops a.tmps)=true) (hLi:listed.setIfInBounds i true=Li) (hLj:listed.setIfInBounds j true=Lj)
  (hi:∀ K':Act→World→Prop,(∀ a' w',(S w'∧wpAnyH P md ops Q S fuel Li a' w')→K' a' w')→Oper.wp P oi a w K' Q)
  (hj:∀ K':Act→World→Prop,(∀ a' w',(S w'∧wpAnyH P md ops Q S fuel Lj a' w')→K' a' w')→Oper.wp P oj a w K' Q):wpAnyH P md ops Q S (fuel+1) listed a w :=
 wpAnyH_all hr (by simp) (fun x hx=>by
  rcases List.mem_cons.1 hx with rfl | hx
  ·exact wpOp_step hoi (fun K' hK=>by rw [if_pos hwi];exact hi K' (fun a' w' q=>hK a' w' ⟨q.1,by rw [hLi];exact q.2⟩))
  ·rw [List.mem_singleton] at hx;subst hx;exact wpOp_step hoj (fun K' hK=>by rw [if_pos hwj];exact hj K' (fun a' w' q=>hK a' w' ⟨q.1,by rw [hLj];exact q.2⟩)))
end
def fg (WX:World) (g:Nat) (w':World):Prop:=∀ b o,b < WX.heap.size→b≠g→w'.cell? ⟨b,o,none⟩=WX.cell? ⟨b,o,none⟩
theorem cK {WX w':World} (g:Nat) (h:Below WX.heap.size WX w'):fg WX g w':=fun b o hb _=>h.cell (p:=⟨b,o,none⟩) hb
theorem bi {WX w':World} {g:Nat} (h:fg WX g w') (o:Nat) (u:Value):fg WX g (w'.setCell ⟨g,o,none⟩ u):=fun b o' hb hn=>by
 rw [← h b o' hb hn];exact World.cell?_of_block (w:=w') (Below.heap_setCell w' _ u b hn)
section
variable {P:Program} {md:Region.Mode} {ops:Array Oper} {Q:Exit→Act→World→Prop} {S:World→Prop} {k:Nat}
def dP (P:Program) (md:Region.Mode) (ops:Array Oper) (Q:Exit→Act→World→Prop) (S:World→Prop) (k:Nat):Nat→Array Bool→Act→World→Prop
 | 0,listed,a,w=>Region.ready md ops listed=[]∧Q .normal a w
 | fuel+1,listed,a,w =>
  (Region.ready md ops listed=[]→Q .normal a w) ∧
  ∀ i∈Region.ready md ops listed,wpOp P ops Q i (fun a' w'=>(i≠k→S w')∧dP P md ops Q S k fuel (listed.setIfInBounds i true) a' w') a w
theorem wpAny_of_last:∀ (fuel:Nat) (listed:Array Bool) (a:Act) (w:World),dP P md ops Q S k fuel listed a w→wpAny P md ops Q fuel listed a w
 | 0,_,_,_,h=>h
 | fuel+1,_,_,_,h=>⟨h.1,fun i hi=>wpOp_mono (fun a' w' h'=>wpAny_of_last fuel _ a' w' h'.2) (h.2 i hi)⟩
def waits (md:Region.Mode) (ops:Array Oper) (listed:Array Bool) (i:Nat) (D:List Nat):Bool :=
 D.all fun d=>!listed.getD d true && match ops[d]? with
  | some o=>o.after.any fun e=>Region.binds md e && (e.on == i || D.contains e.on)
  | none=>false
theorem waits_not {listed:Array Bool} {i:Nat} {D:List Nat} (h:waits md ops listed i D=true) (hi:listed.getD i true=false) {j:Nat} (hj:j∈Region.ready md ops listed):j ∉ D:=fun hd=>by
 unfold waits at h;rw [List.all_eq_true] at h;have h1:=h j hd;obtain ⟨h0,o,ho,hall⟩:=mem_ready.1 hj;rw [ho] at h1;simp only [Bool.and_eq_true,Array.any_eq_true'] at h1;obtain ⟨-,e,he,hb,hor⟩:=h1;have h2:=hall e he hb;have h3:listed.getD e.on true=false:=by
  rw [Bool.or_eq_true] at hor
  rcases hor with hor | hor
  ·rw [beq_iff_eq] at hor;rw [hor];exact hi
  ·have h4:=h e.on (by simpa using hor);simp only [Bool.and_eq_true,Bool.not_eq_true'] at h4;exact h4.1
 rcases Nat.lt_or_ge e.on listed.size with h' | h'
 ·simp [h'] at h2 h3;rw [h2] at h3;cases h3
 ·simp [Array.getElem?_eq_none h'] at h2
theorem waits_set {listed:Array Bool} {i j:Nat} {D:List Nat} (h:waits md ops listed i D=true) (hj:j ∉ D):waits md ops (listed.setIfInBounds j true) i D=true:=by
 unfold waits at *;rw [List.all_eq_true] at *;intro d hd;have h1:=h d hd;have hne:j≠d:=fun e=>by subst e;exact hj hd
 rw [getD_set_ne true hne];exact h1
theorem last_first {i:Nat} {oi:Oper} {v:Value} {D:List Nat} (hi:ops[i]?=some oi) (hsel:∀ (j:Nat) (o:Oper) cs b,ops[j]?=some o→o.op≠.select cs b)
  (hQ:∀ c a w,Q (.panic c) (a.put oi.dst v) w→Q (.panic c) a w) (hkD:k∈D) :
  ∀ (fuel:Nat) (listed:Array Bool) (a:Act) (w:World),
   (∀ j oj,ops[j]?=some oj→j≠i→listed.getD j true=false→(∀ e∈oj.after,Region.binds md e=true→e.on≠i)→oi.apart ops oj=true) →
   i∈Region.ready md ops listed→waits md ops listed i D=true→YieldsIf P ops S oi v a→S w →
   dP P md ops Q S k fuel (listed.setIfInBounds i true) (a.put oi.dst v) w→dP P md ops Q S k (fuel+1) listed a w:=by
 intro fuel
 induction fuel with
 | zero =>
  intro listed a w _ hr _ hy hS H;refine ⟨fun h=>(by rw [h] at hr;cases hr),fun j hj=>?_⟩
  by_cases hji:j=i
  ·subst hji;exact hy.wpOp hi hS ⟨fun _=>hS,H⟩
  ·have:=ready_mono hj hji
   rw [H.1] at this;cases this
 | succ fuel ih =>
  intro listed a w hfree hr hD hy hS H;refine ⟨fun h=>(by rw [h] at hr;cases hr),fun j hj=>?_⟩
  by_cases hji:j=i
  ·subst hji;exact hy.wpOp hi hS ⟨fun _=>hS,H⟩
  ·have h1:=H.2 j (ready_mono hj hji);have hi0:=(mem_ready.1 hr).1;have hjD:=waits_not hD hi0 hj;have hjk:j≠k:=fun e=>hjD (e ▸ hkD)
   obtain ⟨hjun,oj,hoj,hall⟩:=mem_ready.1 hj;have hnot:∀ e∈oj.after,Region.binds md e=true→e.on≠i:=fun e he hb heq=>by
    have h1:=hall e he hb;have h0:=(mem_ready.1 hr).1;rw [heq] at h1
    rcases Nat.lt_or_ge i listed.size with h' | h'
    ·simp [h'] at h0 h1;rw [h0] at h1;cases h1
    ·simp [Array.getElem?_eq_none h'] at h1
   have h2:=wpOp_putIf hoj (hfree j oj hoj hji hjun hnot) (fun cs b=>hsel i oi cs b hi) (fun cs b=>hsel j oj cs b hoj) hQ hy h1;have hfree':∀ k ok,ops[k]?=some ok→k≠i→(listed.setIfInBounds j true).getD k true=false →
     (∀ e∈ok.after,Region.binds md e=true→e.on≠i)→oi.apart ops ok=true:=fun k ok hk hki hun hno=>by
    refine hfree k ok hk hki ?_ hno
    by_cases hjk:j=k
    ·subst hjk;exact hjun
    ·rw [getD_set_ne true hjk] at hun;exact hun
   refine wpOp_mono (fun a' w' h3=>⟨fun _=>h3.2.1 hjk,ih (listed.setIfInBounds j true) a' w' hfree' (ready_mono hr (Ne.symm hji)) (waits_set hD hjD) h3.1 (h3.2.1 hjk) ?_⟩) h2;rw [Array.setIfInBounds_comm _ _ hji];exact h3.2.2
theorem dI {i:Nat} {oi:Oper} {v:Value} {fuel:Nat} {listed L:Array Bool} {a:Act} {w:World} (D:List Nat) (hi:ops[i]?=some oi)
  (hs:Region.noSelect ops=true) (hf:Region.free md ops listed i=true) (hr:(Region.ready md ops listed).contains i=true) (hkD:D.contains k=true) (hD:waits md ops listed i D=true)
  (hQ:∀ c a w,Q (.panic c) (a.put oi.dst v) w→Q (.panic c) a w) (hy:YieldsIf P ops S oi v a) (hS:S w) (hL:listed.setIfInBounds i true=L)
  (h:dP P md ops Q S k fuel L (a.put oi.dst v) w):dP P md ops Q S k (fuel+1) listed a w :=
 last_first hi (Region.noSelect_spec hs) hQ (by simpa using hkD) fuel listed a w (Region.free_spec hi hf) (by simpa using hr) hD hy hS (by rw [hL];exact h)
theorem last_go {i:Nat} {o:Oper} {fuel:Nat} {listed L:Array Bool} {a:Act} {w:World} (hr:Region.ready md ops listed=[i]) (ho:ops[i]?=some o)
  (hw:Region.wanted o (yielded ops a.tmps)=true) (hL:listed.setIfInBounds i true=L)
  (h:∀ K':Act→World→Prop,(∀ a' w',((i≠k→S w')∧dP P md ops Q S k fuel L a' w')→K' a' w')→Oper.wp P o a w K' Q):dP P md ops Q S k (fuel+1) listed a w:=by
 refine ⟨fun h0=>(by rw [hr] at h0;cases h0),?_⟩;rw [hr];refine oJ (wpOp_step ho (fun K' hK=>by rw [if_pos hw];exact h K' (fun a' w' q=>hK a' w' ⟨q.1,by rw [hL];exact q.2⟩)))
theorem bI {listed:Array Bool} {a:Act} {w:World} (hr:Region.ready md ops listed=[]) (h:Q .normal a w):∀ fuel,dP P md ops Q S k fuel listed a w
 | 0=>⟨hr,h⟩
 | _+1=>⟨fun _=>h,by rw [hr];simp⟩
theorem aV {id:Nat} {a:Act} {w:World} (S:World→Prop) (k:Nat) (hm:P.follows .mixedOrders=true)
  (h:dP P .any ops Q S k ops.size (Array.replicate ops.size false) a { w with drawn:=w.drawn+1 }):(Code.region id ops true).wp P Q a w :=
 wp_region_any hm (wpAny_of_last _ _ _ _ h)
end
theorem cN {P:Program} {Q:Exit→Act→World→Prop} {K:Act→World→Prop} {o:Oper} {a:Act} {w:World} (s x:Operand) (t:TypeId) (hop:o.op=Op.call { callee:=Callee.builtin Builtin.append,args:=#[s,x],argTypes:=#[t,t] })
  (base:Nat) (e:TypeId) (i:TypeInfo) (z:Value) (size bytes:Nat) (ht:P.underlying t=some (.slice e)) (hi:P.info? e=some i) (hz:i.zero=some z) (hsize:i.size=size) (hby:i.bytes=bytes) (hzs:z.cells.size=size) (hsz:0 < size)
  (v:Value) (n:Nat) (xs:List Value) (hs:a.eval s=v) (hown:w.ownsRow base e size v n xs)
  (ad:Addr) (m c:Nat) (news:List Value) (hx:a.eval x=.slice (some ad) m c) (hl:news.length=m * size) (hnews:∀ j u,news[j]?=some u→w.cell? (ad.add j)=some u) (h1:∀ u∈news,u.oneCell'=true)
  (h63:n+m≤maxLen) (hbytes:(n+m) * bytes≤140737488355328) (hbase:base≤w.heap.size)
  (hK:∀ v' w',w'.ownsRow base e size v' (n+m) (xs++news)→w.grownBy w' v.ownBlock→(v'.ownBlock=v.ownBlock∨v'.ownBlock=some w.heap.size)→K (a.put o.dst v') w'):Oper.wp P o a w K Q:=by
 obtain ⟨v',w',hrun,r1,r2,_,r3⟩:=run_append_own_at (P:=P) w base t o.type e i z size bytes ht hi hz hsize hby hzs hsz v n xs hown ad m c news hl hnews h1 h63 hbytes hbase;unfold Oper.wp
 simp [execOp,hop,resolve,invoke,builtin,hs,hx,hrun,Result.andThen]
 exact hK v' w' r1 r2 r3
structure BlkAt (w:World) (g:Nat) (C:List Value):Prop where
 c:∀ j,j < C.length→w.cell? ⟨g,j,none⟩=C[j]?
 fz:∀ o,w.frozen? ⟨g,o,none⟩=false
 lt:g < w.heap.size
theorem ai {w w':World} {B g:Nat} {C:List Value} (h:BlkAt w g C) (hb:Below B w w') (hg:g < B):BlkAt w' g C :=
 ⟨fun j hj=>(hb.cell (p:=⟨g,j,none⟩) hg).trans (h.c j hj),fun o=>(hb.frozen (p:=⟨g,o,none⟩) hg).trans (h.fz o),Nat.lt_of_lt_of_le h.lt hb.size⟩
theorem ay {w:World} {g:Nat} {C:List Value} (h:BlkAt w g C) (k:Nat) (v:Value) (hk:k < C.length):BlkAt (w.setCell ⟨g,k,none⟩ v) g (C.set k v):=by
 refine ⟨fun j hj=>?_,fun o=>(World.frozen?_setCell _ _ _ _).trans (h.fz o),by simpa [World.setCell] using h.lt⟩;rw [List.length_set] at hj;rw [List.getElem?_set]
 by_cases e:k=j
 ·subst e;have h1:=h.c k hk;rw [List.getElem?_eq_getElem hk] at h1;rw [World.cell?_setCell_same _ _ _ h1]
  simp [hk]
 ·rw [World.cell?_setCell_other _ _ _ _ (by simp)]
  simp [e,h.c j hj]
theorem aR {w:World} {g g':Nat} {C:List Value} (h:BlkAt w g C) (hg:g'≠g) (o:Nat) (v:Value):BlkAt (w.setCell ⟨g',o,none⟩ v) g C :=
 ⟨fun j hj=>(World.cell?_of_block (w:=w) (Below.heap_setCell w _ v g (Ne.symm hg))).trans (h.c j hj),fun o=>(World.frozen?_setCell _ _ _ _).trans (h.fz o),by simpa [World.setCell] using h.lt⟩
theorem fB {w w':World} {g:Nat} {C:List Value} {row:Option Nat} (h:BlkAt w g C) (hg:w.grownBy w' row) (hr:row≠some g):BlkAt w' g C :=
 ⟨fun j hj=>(World.cell?_of_block (w:=w) (hg.block g h.lt hr.symm)).trans (h.c j hj),fun o=>(World.frozen?_of_block (w:=w) (hg.block g h.lt hr.symm)).trans (h.fz o),Nat.lt_of_lt_of_le h.lt hg.size⟩
structure KeptB (w w':World) (bad:Nat→Prop):Prop where
 b0:Below 0 w w'
 block:∀ k,k < w.heap.size→¬ bad k→w'.heap[k]?=w.heap[k]?
theorem ae {w w':World} {bad:Nat→Prop} (h:Below w.heap.size w w'):KeptB w w' bad:=⟨h.mono (Nat.zero_le _),fun k hk _=>h.block k hk⟩
theorem af {a b c:World} {bad:Nat→Prop} (h:KeptB a b bad) (k:KeptB b c bad):KeptB a c bad :=
 ⟨h.b0.trans k.b0,fun i hi hn=>(k.block i (Nat.lt_of_lt_of_le hi h.b0.size) hn).trans (h.block i hi hn)⟩
theorem cW {a b:World} {bad bad':Nat→Prop} (h:KeptB a b bad) (hm:∀ k,bad k→bad' k):KeptB a b bad':=⟨h.b0,fun i hi hn=>h.block i hi (fun hb=>hn (hm i hb))⟩
theorem ah {a b:World} {bad:Nat→Prop} (h:KeptB a b bad) {g:Nat} (hg:bad g) (o:Nat) (v:Value):KeptB a (b.setCell ⟨g,o,none⟩ v) bad :=
 ⟨h.b0.setCell (p:=⟨g,o,none⟩) (Nat.zero_le _) v,fun i hi hn=>(Below.heap_setCell b _ v i (fun e=>hn (e ▸ hg))).trans (h.block i hi hn)⟩
theorem cV {a b c:World} {bad:Nat→Prop} {row:Option Nat} (h:KeptB a b bad) (hg:b.grownBy c row) (hr:∀ k,row=some k→k < a.heap.size→bad k):KeptB a c bad :=
 ⟨h.b0.grown hg (Nat.zero_le _) (fun k _=>Nat.zero_le k),fun i hi hn=>(hg.block i (Nat.lt_of_lt_of_le hi h.b0.size) (fun e=>hn (hr i e.symm hi))).trans (h.block i hi hn)⟩
theorem aL {w w':World} {bad:Nat→Prop} (h:KeptB w w' bad) {B:Nat} (hB:B≤w.heap.size) (hb:∀ k,bad k→B≤k):Below B w w' :=
 ⟨h.b0.os,h.b0.tape,h.b0.output,h.b0.size,fun k hk=>h.block k (by omega) (fun hbk=>by have:=hb k hbk;omega)⟩
theorem aI {w w':World} {g:Nat} {C:List Value} {bad:Nat→Prop} (h:BlkAt w g C) (hk:KeptB w w' bad) (hb:¬ bad g):BlkAt w' g C :=
 ⟨fun j hj=>(World.cell?_of_block (w:=w) (hk.block g h.lt hb)).trans (h.c j hj),fun o=>(World.frozen?_of_block (w:=w) (hk.block g h.lt hb)).trans (h.fz o),Nat.lt_of_lt_of_le h.lt hk.b0.size⟩
theorem aB {w w':World} {bad:Nat→Prop} (h:KeptB w w' bad) {g:Nat} (o:Nat) (hg:g < w.heap.size) (hb:¬ bad g):w'.cell? ⟨g,o,none⟩=w.cell? ⟨g,o,none⟩:=World.cell?_of_block (w:=w) (h.block g hg hb)
theorem bg {w w':World} {base size n:Nat} {e:TypeId} {v:Value} {xs:List Value} {bad:Nat→Prop} (h:w.ownsRow base e size v n xs) (hk:KeptB w w' bad) (hb:∀ k,v.ownBlock=some k→¬ bad k):w'.ownsRow base e size v n xs:=by
 obtain ⟨h0,h1⟩:=h;refine ⟨h0,?_⟩
 rcases h1 with h1 | ⟨g,cap,cur,e1,hb',hg,hle,hm,hs,ht⟩
 ·exact .inl h1
 ·have hsz:g < w.heap.size:=(Array.getElem?_eq_some_iff.1 hg).1;exact .inr ⟨g,cap,cur,e1,hb',by rw [hk.block g hsz (hb g (by rw [e1];rfl))];exact hg,hle,hm,hs,ht⟩
theorem aJ {w:World} {base size n:Nat} {e:TypeId} {v:Value} {xs:List Value} (h:w.ownsRow base e size v n xs):∀ k,v.ownBlock=some k→base≤k∧k < w.heap.size:=by
 intro k hk
 rcases h.2 with ⟨rfl,-⟩ | ⟨g,cap,cur,rfl,hb,hg,-⟩
 ·simp [Value.ownBlock] at hk
 ·simp only [Value.ownBlock,Option.some.injEq] at hk;subst hk;exact ⟨hb,(Array.getElem?_eq_some_iff.1 hg).1⟩
theorem aN {w:World} {base base' n size:Nat} {e:TypeId} {v:Value} {xs:List Value} (h:w.ownsRow base e size v n xs) (hb:base'≤base):w.ownsRow base' e size v n xs:=by
 obtain ⟨h0,h1⟩:=h;refine ⟨h0,?_⟩
 rcases h1 with h1 | ⟨g,cap,cur,e1,hb',hg',hle,hm,hs,ht⟩
 ·exact .inl h1
 ·exact .inr ⟨g,cap,cur,e1,by omega,hg',hle,hm,hs,ht⟩
section
variable {α:Type} {S:Nat} {f:α→List Value}
def rowOf (f:α→List Value) (l:List α):List Value:=l.flatMap f
theorem bQ (a:α) (l:List α):rowOf f (a :: l)=f a++rowOf f l:=rfl
theorem bo (hf:∀ a,(f a).length=S) (l:List α):(rowOf f l).length=l.length * S:=by
 induction l with
 | nil=>simp [rowOf]
 | cons a l ih =>
  rw [bQ,List.length_append,ih,hf,List.length_cons,Nat.add_mul,Nat.one_mul,Nat.add_comm]
theorem cQ (l m:List α):rowOf f (l++m)=rowOf f l++rowOf f m:=by simp [rowOf]
theorem ly (a:α):rowOf f [a]=f a:=by simp [rowOf]
theorem bU (hf:∀ a,(f a).length=S):∀ (l:List α) (i j:Nat) (n:α),l[i]?=some n→j < S→(rowOf f l)[i * S+j]?=(f n)[j]?
 | [],i,j,n,h,_=>by simp at h
 | a :: l,0,j,n,h,hj=>by
  simp at h;subst h;rw [bQ,Nat.zero_mul,Nat.zero_add,List.getElem?_append_left (by rw [hf];exact hj)]
 | a :: l,i+1,j,n,h,hj=>by
  simp at h;have e:(i+1) * S+j=S+(i * S+j):=by rw [Nat.add_mul,Nat.one_mul];omega
  rw [bQ,e,List.getElem?_append_right (by rw [hf];omega),hf,show S+(i * S+j) - S=i * S+j from by omega];exact bU hf l i j n h hj
theorem nz {i j n S:Nat} (hi:i < n) (hj:j < S):i * S+j < n * S:=by
 have h:(i+1) * S≤n * S:=Nat.mul_le_mul_right S hi;rw [Nat.add_mul,Nat.one_mul] at h;omega
theorem bA (hf:∀ a,(f a).length=S) {w:World} {l:List α} {ao:Option Addr} {cap:Nat} (h:bT w (.slice ao l.length cap) S l.length (rowOf f l)) (i:Nat) (hi:i < l.length) :
  ∃ g off,ao=some ⟨g,off,none⟩∧(∀ j,j < S→w.cell? ⟨g,off+(i * S+j),none⟩=(f l[i])[j]?)∧l.length≤cap∧cap≤maxLen∧g < w.heap.size:=by
 obtain ⟨h0,h⟩:=h
 rcases h with ⟨-,h⟩ | ⟨g,off,cap',e,h1,h2,h3,h4⟩
 ·omega
 ·simp only [Value.slice.injEq] at e;obtain ⟨rfl,-,rfl⟩:=e;exact ⟨g,off,rfl,fun j hj=>by rw [h4 (i * S+j) (nz hi hj),bU hf l i j l[i] (List.getElem?_eq_getElem hi) hj],h1,h2,h3⟩
end
end Go.Proofs.YtcgjflamgnjhcaaGreatDoor
namespace Go.Proofs.YtcgjflamgnjhcaaGreatDoor
open Go.ChangeShapes Go.WideShapes Go.ChangeAt Go.RowKit Go.Joins
theorem own:ownKnob Tryz.prog.godebug=none:=by kernel_rfl
theorem laidOut:laidOutB Tryz.prog=true:=by kernel_rfl
theorem cellsInt:Tryz.prog.cellsOf 3=1:=by kernel_rfl
theorem cellsValue:Tryz.prog.cellsOf 41=2:=by kernel_rfl
theorem again {H:Type} {enc:TypeId×Value→H} {t:TypeId} (hr:Tryz.prog.readableRec t=true) (hrow:t < Tryz.prog.types.size) {W W':World} {v:Value} {d:DataW H} {ps:List MemPlace}
  (h:DataW.Trod enc Tryz.prog W 0 (fun _=>true) true t v d ps) (hb:Below W.heap.size W W') :
  DataW.Trod enc Tryz.prog W' 0 (fun b=>decide (b < W.heap.size)) true t v d ps :=
 Below.trod laidOut hr hrow h hb (by obtain ⟨m,hm⟩:=h;exact DataW.trod_lt m _ _ _ hm)
theorem mu {H:Type} {enc:TypeId×Value→H} {W:World} {sp:Nat→Bool} {hd:Bool} {fuel:Nat} {c:Value} {x:DataW H×List MemPlace}
  (h:DataW.trod enc Tryz.prog W 0 sp hd fuel 3 [c]=some x):∃ n:Int,c=.int .i64 n:=by
 obtain ⟨a,e,-,-⟩:=DataW.trod_int Tryz.underlying3 h;simp at e;exact ⟨a,e⟩
end Go.Proofs.YtcgjflamgnjhcaaGreatDoor
namespace Go.Proofs.YtcgjflamgnjhcaaGreatDoor
open Go.ChangeShapes Go.WideShapes Go.ChangeAt Go.RowKit
theorem fk {k:IntKind} {a b:Int} (h:a=b):Ending.returned (.int k a)=.returned (.int k b):=by rw [h]
def ms (a b:Int):Int:=if a < b then -1 else if b < a then 1 else 0
def vcmp (k1 n1 k2 n2:Int):Int:=if k1=k2 then ms n1 n2 else ms k1 k2
theorem mg (a b:Int) (w:World) :
  Calls Tryz.prog 136 #[.int .i64 a,.int .i64 b] w fun e w'=>e=.returned (.int .i64 (ms a b))∧w'=w:=by
 by_cases h1:a < b
 ·go_enter Tryz.func136,Tryz.ntmps136
  go_wp2
  go_ret
  exact ⟨fk (by unfold ms;rw [if_pos h1]),rfl⟩
 ·by_cases h2:b < a
  ·go_enter Tryz.func136,Tryz.ntmps136
   go_wp2
   go_ret
   exact ⟨fk (by unfold ms;rw [if_neg (by omega),if_pos h2]),rfl⟩
  ·go_enter Tryz.func136,Tryz.ntmps136
   go_wp2
   go_ret
   exact ⟨fk (by unfold ms;rw [if_neg (by omega),if_neg (by omega)]),rfl⟩
theorem compare_any (k1 n1 k2 n2:Int) (w:World) :
  Calls Tryz.prog 137 #[.agg #[.int .i64 k1,.int .i64 n1],.agg #[.int .i64 k2,.int .i64 n2]] w fun e w'=>e=.returned (.int .i64 (vcmp k1 n1 k2 n2))∧Below w.heap.size w w':=by
 by_cases h:k1=k2
 ·subst h;have hb:(k1 != k1)=false:=by simp
  go_enter Tryz.func137,Tryz.ntmps137
  go_wp2_with (go_at_call 136;refine (mg _ _ _).mono ?_;rintro e w' ⟨rfl,rfl⟩)
  go_ret
  exact ⟨fk (by unfold vcmp;rw [if_pos rfl]),((Below.refl _ _).alloc (Nat.le_refl _) _).alloc (by simp) _⟩
 ·have hb:(k1 != k2)=true:=by simp [h]
  go_enter Tryz.func137,Tryz.ntmps137
  go_wp2_with (go_at_call 136;refine (mg _ _ _).mono ?_;rintro e w' ⟨rfl,rfl⟩)
  go_ret
  exact ⟨fk (by unfold vcmp;rw [if_neg h]),((Below.refl _ _).alloc (Nat.le_refl _) _).alloc (by simp) _⟩
theorem cz (w:World) :
  Calls Tryz.prog 125 #[] w fun e w'=>e=.returned (.agg #[.int .i64 0,.int .i64 0])∧w'=w.alloc (.cells #[.int .i64 0,.int .i64 0] 41):=by
 go_enter Tryz.func125,Tryz.ntmps125
 go_wp2
 exact bodyPost_ret (v:=.agg #[.int .i64 0,.int .i64 0]) (by simp [results,Tryz.results125,go_sem]) rfl ⟨rfl,rfl⟩
theorem cR (b:Bool) (w:World) :
  Calls Tryz.prog 124 #[.bool b] w fun e w'=>e=.returned (.agg #[.int .i64 2,.int .i64 (if b then 1 else 0)])∧w'=w.alloc (.cells #[.int .i64 2,.int .i64 (if b then 1 else 0)] 41):=by
 cases b
 ·go_enter Tryz.func124,Tryz.ntmps124
  go_wp2
  exact bodyPost_ret (v:=.agg #[.int .i64 2,.int .i64 0]) (by simp [results,Tryz.results124,go_sem]) rfl ⟨rfl,rfl⟩
 ·go_enter Tryz.func124,Tryz.ntmps124
  go_wp2
  exact bodyPost_ret (v:=.agg #[.int .i64 2,.int .i64 1]) (by simp [results,Tryz.results124,go_sem]) rfl ⟨rfl,rfl⟩
theorem cX (w:World) :
  Calls Tryz.prog 125 #[] w fun e w'=>e=.returned (.agg #[.int .i64 0,.int .i64 0])∧Below w.heap.size w w' :=
 (cz w).mono fun e w' ⟨h1,h2⟩=>⟨h1,by rw [h2];exact (Below.refl _ _).alloc (Nat.le_refl _) _⟩
def numK (n:Int):Int:=if -1000000000≤n∧n≤1000000000 then 1 else 0
def numN (n:Int):Int:=if -1000000000≤n∧n≤1000000000 then n else 0
theorem bK (n:Int) (w:World) :
  Calls Tryz.prog 158 #[.int .i64 n] w fun e w'=>e=.returned (.agg #[.int .i64 (numK n),.int .i64 (numN n)])∧Below w.heap.size w w':=by
 by_cases h1:n < -1000000000
 ·have e1:numK n=0:=by unfold numK;rw [if_neg (by omega)]
  have e2:numN n=0:=by unfold numN;rw [if_neg (by omega)]
  rw [e1,e2];clear e1 e2
  go_enter Tryz.func158,Tryz.ntmps158
  go_wp2_with (go_at_call 125;refine (cz _).mono ?_;rintro e w' ⟨rfl,rfl⟩)
  refine bodyPost_ret (v:=.agg #[.int .i64 0,.int .i64 0]) (by simp [results,Tryz.results158,go_sem]) rfl ⟨rfl,?_⟩
  repeat (first | exact Below.refl _ _ | refine Below.alloc ?_ (by simp) _ | refine Below.setCell ?_ (by simp) _)
 ·by_cases h2:1000000000 < n
  ·have e1:numK n=0:=by unfold numK;rw [if_neg (by omega)]
   have e2:numN n=0:=by unfold numN;rw [if_neg (by omega)]
   rw [e1,e2];clear e1 e2
   go_enter Tryz.func158,Tryz.ntmps158
   go_wp2_with (go_at_call 125;refine (cz _).mono ?_;rintro e w' ⟨rfl,rfl⟩)
   refine bodyPost_ret (v:=.agg #[.int .i64 0,.int .i64 0]) (by simp [results,Tryz.results158,go_sem]) rfl ⟨rfl,?_⟩
   repeat (first | exact Below.refl _ _ | refine Below.alloc ?_ (by simp) _ | refine Below.setCell ?_ (by simp) _)
  ·have e1:numK n=1:=by unfold numK;rw [if_pos (by omega)]
   have e2:numN n=n:=by unfold numN;rw [if_pos (by omega)]
   rw [e1,e2];clear e1 e2
   go_enter Tryz.func158,Tryz.ntmps158
   go_wp2
   refine bodyPost_ret (v:=.agg #[.int .i64 1,.int .i64 n]) (by simp [results,Tryz.results158,go_sem]) rfl ⟨rfl,?_⟩
   repeat (first | exact Below.refl _ _ | refine Below.alloc ?_ (by simp) _ | refine Below.setCell ?_ (by simp) _)
def vok (k n:Int):Bool:=decide ((k=0∧n=0)∨(k=1∧-1000000000≤n∧n≤1000000000)∨(k=2∧(n=0∨n=1)))
theorem lZ (k n:Int) (w:World) (h:vok k n=true) :
  Calls Tryz.prog 122 #[.agg #[.int .i64 k,.int .i64 n]] w fun e w'=>e=.returned .nilIface∧Below w.heap.size w w':=by
 have h':=of_decide_eq_true h;clear h
 rcases h' with ⟨rfl,rfl⟩ | ⟨rfl,h1,h2⟩ | ⟨rfl,rfl | rfl⟩
 all_goals
  go_enter Tryz.func122,Tryz.ntmps122
  go_wp2
  go_ret
  exact ⟨rfl,(Below.refl _ _).alloc (Nat.le_refl _) _⟩
theorem no (k n:Int) (w:World) (h:vok k n=false) :
  Calls Tryz.prog 122 #[.agg #[.int .i64 k,.int .i64 n]] w fun e w'=>e=.returned (.iface 93 (.int .i64 3))∧Below w.heap.size w w':=by
 have h':=of_decide_eq_false h;clear h
 by_cases k0:k=0
 ·subst k0;have hn:(n == 0)=false:=by simp;omega
  clear h'
  go_enter Tryz.func122,Tryz.ntmps122
  go_wp2
  go_ret
  exact ⟨rfl,(Below.refl _ _).alloc (Nat.le_refl _) _⟩
 ·by_cases k1:k=1
  ·subst k1
   by_cases l:-1000000000≤n
   ·have l2:decide (n≤1000000000)=false:=by simp;omega
    clear h' k0
    go_enter Tryz.func122,Tryz.ntmps122
    go_wp2
    go_ret
    exact ⟨rfl,(Below.refl _ _).alloc (Nat.le_refl _) _⟩
   ·clear h' k0
    go_enter Tryz.func122,Tryz.ntmps122
    go_wp2
    go_ret
    exact ⟨rfl,(Below.refl _ _).alloc (Nat.le_refl _) _⟩
  ·by_cases k2:k=2
   ·subst k2;have a1:(n == 0)=false:=by simp;omega
    have a2:(n == 1)=false:=by simp;omega
    clear h' k0 k1
    go_enter Tryz.func122,Tryz.ntmps122
    go_wp2
    go_ret
    exact ⟨rfl,(Below.refl _ _).alloc (Nat.le_refl _) _⟩
   ·have a0:(k == 0)=false:=by simp;omega
    have a1:(k == 1)=false:=by simp;omega
    have a2:(k == 2)=false:=by simp;omega
    clear h' k0 k1 k2
    go_enter Tryz.func122,Tryz.ntmps122
    go_wp2
    go_ret
    exact ⟨rfl,(Below.refl _ _).alloc (Nat.le_refl _) _⟩
theorem cI (w:World) (a b c d:Int):(binOp .eql 41 (.agg #[.int .i64 a,.int .i64 b]) (.agg #[.int .i64 c,.int .i64 d])).run Tryz.prog w=.ok (.bool (a == c && b == d)) w:=by
 by_cases h:a=c
 ·subst h
  by_cases h2:b=d
  ·subst h2;go_simp
  ·have:(b == d)=false:=by simp [h2]
   go_simp
 ·have:(a == c)=false:=by simp [h]
  go_simp
theorem cD (w:World) (a b c d:Int):(binOp .neq 41 (.agg #[.int .i64 a,.int .i64 b]) (.agg #[.int .i64 c,.int .i64 d])).run Tryz.prog w=.ok (.bool (!(a == c && b == d))) w:=by
 by_cases h:a=c
 ·subst h
  by_cases h2:b=d
  ·subst h2;go_simp
  ·have:(b == d)=false:=by simp [h2]
   go_simp
 ·have:(a == c)=false:=by simp [h]
  go_simp
end Go.Proofs.YtcgjflamgnjhcaaGreatDoor
namespace Go.Proofs.YtcgjflamgnjhcaaGreatDoor
section
variable {P:Program} {md:Region.Mode} {ops:Array Oper} {Q:Exit→Act→World→Prop} {S:World→Prop} {k:Nat}
theorem HT (i:Nat) {oi:Oper} {v:Value} {fuel:Nat} {listed:Array Bool} {a:Act} {w:World} (hi:ops[i]?=some oi)
 (hQ:∀ c (a:Act) o v w, Q (.panic c) (a.put o v) w→Q (.panic c) a w) (hy:∀ w, S w→(execOp a.eval oi).run P w=.ok (.value v) w) (hS:S w)
 (h:wpAnyH P md ops Q S fuel (listed.setIfInBounds i true) (a.put oi.dst v) w) (hc:(Region.noSelect ops && (Region.free md ops listed i && ((Region.ready md ops listed).contains i && Region.wanted oi (yielded ops a.tmps))))=true := by kernel_rfl):wpAnyH P md ops Q S (fuel+1) listed a w := by
 simp only [Bool.and_eq_true] at hc;exact bD hi hc.1 hc.2.1 hc.2.2.1 (fun c a w h=>hQ c a _ _ w h) (.inl ⟨hc.2.2.2, hy⟩) hS rfl h
theorem HU (i:Nat) {oi:Oper} {v:Value} {fuel:Nat} {listed:Array Bool} {a:Act} {w:World} (hi:ops[i]?=some oi)
 (hy:∀ w, S w→(execOp a.eval oi).run P w=.ok (.value v) w) (hS:S w)
 (h:wpAnyH P md ops Q S fuel (listed.setIfInBounds i true) (a.put oi.dst v) w) (hQ:∀ c a w, Q (.panic c) (a.put oi.dst v) w→Q (.panic c) a w := by exact fun _ _ _ h=>h) (hc:(Region.noSelect ops && (Region.free md ops listed i && ((Region.ready md ops listed).contains i && Region.wanted oi (yielded ops a.tmps))))=true := by kernel_rfl):wpAnyH P md ops Q S (fuel+1) listed a w := by
 simp only [Bool.and_eq_true] at hc;exact bD hi hc.1 hc.2.1 hc.2.2.1 hQ (.inl ⟨hc.2.2.2, hy⟩) hS rfl h
theorem LU (i:Nat) {oi:Oper} {v:Value} {fuel:Nat} {listed:Array Bool} {a:Act} {w:World} (D:List Nat) (hi:ops[i]?=some oi)
 (hy:∀ w, S w→(execOp a.eval oi).run P w=.ok (.value v) w) (hS:S w)
 (h:dP P md ops Q S k fuel (listed.setIfInBounds i true) (a.put oi.dst v) w) (hQ:∀ c a w, Q (.panic c) (a.put oi.dst v) w→Q (.panic c) a w := by exact fun _ _ _ h=>h) (hc:(Region.noSelect ops && (Region.free md ops listed i && ((Region.ready md ops listed).contains i && (Region.wanted oi (yielded ops a.tmps) && (D.contains k && waits md ops listed i D)))))=true := by kernel_rfl):dP P md ops Q S k (fuel+1) listed a w := by
 simp only [Bool.and_eq_true] at hc;exact dI D hi hc.1 hc.2.1 hc.2.2.1 hc.2.2.2.2.1 hc.2.2.2.2.2 hQ (.inl ⟨hc.2.2.2.1, hy⟩) hS rfl h
theorem HG (i:Nat) {o:Oper} {fuel:Nat} {listed:Array Bool} {a:Act} {w:World} (ho:ops[i]?=some o)
 (h:∀ K':Act→World→Prop, (∀ a' w', (S w'∧wpAnyH P md ops Q S fuel (listed.setIfInBounds i true) a' w')→K' a' w')→Oper.wp P o a w K' Q) (hc:(Region.ready md ops listed == [i] && Region.wanted o (yielded ops a.tmps))=true := by kernel_rfl):wpAnyH P md ops Q S (fuel+1) listed a w := by
 simp only [Bool.and_eq_true, beq_iff_eq] at hc;exact held_go hc.1 ho hc.2 rfl h
theorem H2 (i j:Nat) {oi oj:Oper} {fuel:Nat} {listed:Array Bool} {a:Act} {w:World} (hoi:ops[i]?=some oi) (hoj:ops[j]?=some oj)
 (hi:∀ K':Act→World→Prop, (∀ a' w', (S w'∧wpAnyH P md ops Q S fuel (listed.setIfInBounds i true) a' w')→K' a' w')→Oper.wp P oi a w K' Q)
 (hj:∀ K':Act→World→Prop, (∀ a' w', (S w'∧wpAnyH P md ops Q S fuel (listed.setIfInBounds j true) a' w')→K' a' w')→Oper.wp P oj a w K' Q) (hc:(Region.ready md ops listed == [i, j] && (Region.wanted oi (yielded ops a.tmps) && Region.wanted oj (yielded ops a.tmps)))=true := by kernel_rfl):wpAnyH P md ops Q S (fuel+1) listed a w := by
 simp only [Bool.and_eq_true, beq_iff_eq] at hc;exact held_two hc.1 hoi hoj hc.2.1 hc.2.2 rfl rfl hi hj
theorem LT (i:Nat) {oi:Oper} {v:Value} {fuel:Nat} {listed:Array Bool} {a:Act} {w:World} (D:List Nat) (hi:ops[i]?=some oi)
 (hQ:∀ c (a:Act) o v w, Q (.panic c) (a.put o v) w→Q (.panic c) a w) (hy:∀ w, S w→(execOp a.eval oi).run P w=.ok (.value v) w) (hS:S w)
 (h:dP P md ops Q S k fuel (listed.setIfInBounds i true) (a.put oi.dst v) w) (hc:(Region.noSelect ops && (Region.free md ops listed i && ((Region.ready md ops listed).contains i && (Region.wanted oi (yielded ops a.tmps) && (D.contains k && waits md ops listed i D)))))=true := by kernel_rfl):dP P md ops Q S k (fuel+1) listed a w := by
 simp only [Bool.and_eq_true] at hc;exact dI D hi hc.1 hc.2.1 hc.2.2.1 hc.2.2.2.2.1 hc.2.2.2.2.2 (fun c a w h=>hQ c a _ _ w h) (.inl ⟨hc.2.2.2.1, hy⟩) hS rfl h
theorem LG (i:Nat) {o:Oper} {fuel:Nat} {listed:Array Bool} {a:Act} {w:World} (ho:ops[i]?=some o)
 (h:∀ K':Act→World→Prop, (∀ a' w', ((i≠k→S w')∧dP P md ops Q S k fuel (listed.setIfInBounds i true) a' w')→K' a' w')→Oper.wp P o a w K' Q) (hc:(Region.ready md ops listed == [i] && Region.wanted o (yielded ops a.tmps))=true := by kernel_rfl):dP P md ops Q S k (fuel+1) listed a w := by
 simp only [Bool.and_eq_true, beq_iff_eq] at hc;exact last_go hc.1 ho hc.2 rfl h
end
end Go.Proofs.YtcgjflamgnjhcaaGreatDoor
