/- Own texts in one. Conditions: as named in each. -/
import Derived.ProofKit
import Derived.Test.YtcgjflamgnjhcaaGreatDoorPane8
import Derived.Test.YtcgjflamgnjhcaaGreatDoorExpr6J
import Derived.Test.YtcgjflamgnjhcaaGreatDoorLexPureJ
import Derived.Test.YtcgjflamgnjhcaaGreatDoorSrc1J
import Derived.Test.YtcgjflamgnjhcaaGreatDoorExprPureJ
import Derived.Test.YtcgjflamgnjhcaaGreatDoorKinJ
import Derived.MapKept
import Derived.Laws.IdiomCopy
import Derived.Laws.IdiomStrings
import Derived.Lib.LazyBuf
import Derived.Deep.MidRow
set_option linter.unusedVariables false
set_option linter.unusedSimpArgs false
set_option maxRecDepth 100000
set_option maxHeartbeats 8000000
namespace Go.Proofs.YtcgjflamgnjhcaaGreatDoor
def nY (at_ size slide:Int):Prop:=0≤at_∧at_≤9999∧1≤slide∧slide≤size∧size≤1000∧size≤4 * slide
def mn (at_ size slide:Int):Int:=(size - 1 - at_.tmod slide).tdiv slide
def winF (at_ size slide:Int):Int:=at_ - at_.tmod slide - mn at_ size slide * slide
def winK (at_ size slide:Int):Nat:=(mn at_ size slide).toNat+1
def fY (f slide:Int) (n:Nat):List Int:=(List.range n).map (fun (i:Nat)=>f+(i:Int) * slide)
def nU (at_ size slide:Int):List Int:=fY (winF at_ size slide) slide (winK at_ size slide)
theorem lK (f slide:Int) (n:Nat):(fY f slide n).length=n:=by simp [fY]
theorem steps_succ (f slide:Int) (n:Nat):fY f slide (n+1)=fY f slide n++[f+(n:Int) * slide]:=by
 simp [fY,List.range_succ]
theorem jk {a s:Int} (ha:0≤a) (hs:1≤s):0≤a.tmod s∧a.tmod s < s∧a.tmod s≤a∧∃ c,0≤c∧a - a.tmod s=c * s:=by
 have h1:=Int.tmod_nonneg s ha;have h2:=Int.tmod_lt_of_pos a (by omega:0 < s);have h3:=Int.mul_tdiv_add_tmod a s;have h4:0≤a.tdiv s:=Int.tdiv_nonneg ha (by omega);have h5:0≤s * a.tdiv s:=Int.mul_nonneg (by omega) h4;refine ⟨h1,h2,by omega,a.tdiv s,h4,?_⟩;rw [Int.mul_comm];omega
theorem gC {a z s:Int} (h:nY a z s):0≤mn a z s∧mn a z s≤3∧0≤mn a z s * s∧mn a z s * s≤z - 1 - a.tmod s∧z - 1 - a.tmod s < mn a z s * s+s:=by
 obtain ⟨a0,a1,s1,sz,z1,z4⟩:=h;obtain ⟨m0,m1,m2,-⟩:=jk a0 s1;have h0:0≤z - 1 - a.tmod s:=by omega
 have h1:=Int.tmod_nonneg s h0;have h2:=Int.tmod_lt_of_pos (z - 1 - a.tmod s) (by omega:0 < s);have h3:=Int.mul_tdiv_add_tmod (z - 1 - a.tmod s) s;have h4:0≤(z - 1 - a.tmod s).tdiv s:=Int.tdiv_nonneg h0 (by omega);have h5:0≤s * (z - 1 - a.tmod s).tdiv s:=Int.mul_nonneg (by omega) h4;unfold mn;rw [Int.mul_comm];refine ⟨h4,?_,by omega,by omega,by omega⟩;have h6:s * (z - 1 - a.tmod s).tdiv s < s * 4:=by omega
 have:=Int.lt_of_mul_lt_mul_left h6 (by omega)
 omega
theorem mx {a z s:Int} (h:nY a z s):(winK a z s:Int)=mn a z s+1∧winK a z s≤4∧0 < winK a z s:=by
 have:=gC h
 unfold winK;omega
theorem winF_mul {a z s:Int} (h:nY a z s):∃ c,winF a z s=c * s:=by
 obtain ⟨a0,a1,s1,-⟩:=h;obtain ⟨-,-,-,c,-,hc⟩:=jk a0 s1;refine ⟨c - mn a z s,?_⟩;unfold winF;rw [hc,Int.sub_mul]
theorem mB {a z s:Int} (h:nY a z s) (i:Nat):winF a z s+(i:Int) * s≤a↔i < winK a z s:=by
 have hf:=gC h;have hk:=mx h;obtain ⟨a0,a1,s1,sz,z1,z4⟩:=h;obtain ⟨m0,m1,m2,-⟩:=jk a0 s1;unfold winF
 constructor
 ·intro hi
  by_cases hh:i < winK a z s
  ·exact hh
  ·exfalso
   have e:((i:Int) - (mn a z s+1)) * s ≥ 0:=Int.mul_nonneg (by omega) (by omega);rw [Int.sub_mul,Int.add_mul] at e;omega
 ·intro hi;have e:((mn a z s) - (i:Int)) * s ≥ 0:=Int.mul_nonneg (by omega) (by omega);rw [Int.sub_mul] at e;omega
theorem win_rest {a z s:Int} (h:nY a z s) (i:Nat) (hi:i < winK a z s):a < winF a z s+(i:Int) * s+z∧(winF a z s+(i:Int) * s).tmod s=0:=by
 have hf:=gC h;obtain ⟨c,hc⟩:=winF_mul h;obtain ⟨a0,a1,s1,sz,z1,z4⟩:=h;obtain ⟨m0,m1,m2,-⟩:=jk a0 s1;have h1:0≤(i:Int) * s:=Int.mul_nonneg (by omega) (by omega);refine ⟨?_,?_⟩
 ·unfold winF;omega
 ·rw [hc,← Int.add_mul];exact Int.mul_tmod_left _ _
end Go.Proofs.YtcgjflamgnjhcaaGreatDoor
namespace Go.Proofs.YtcgjflamgnjhcaaGreatDoor
open Go.ChangeShapes Go.WideShapes Go.ChangeAt Go.RowKit
structure Ct where
 st:Int
 key:V2
 vs:List V2
def ofK (st k n:Int) (cs:List Ct):List Ct:=cs.filter fun c=>decide (c.st=st∧c.key.1=k∧c.key.2=n)
def iu (ks:List Int) (cs:List Ct):List Ac:=cs.foldl (fun a c=>dD a c.vs) (ks.map iw)
structure OfT (ks:List Int) (cs:List Ct) (ps:List Pn):Prop where
 rise:jD ps
 acc:∀ p∈ps,p.told=false∧p.ac=iu ks (ofK p.st p.k p.n cs)∧ofK p.st p.k p.n cs≠[]
 all:∀ c∈cs,∃ p∈ps,p.st=c.st∧p.k=c.key.1∧p.n=c.key.2
 few:ps.length≤cs.length
theorem kg (st k n:Int) (a b:List Ct):ofK st k n (a++b)=ofK st k n a++ofK st k n b:=by simp [ofK]
theorem pb (st k n:Int) (c:Ct) (h:c.st=st∧c.key.1=k∧c.key.2=n):ofK st k n [c]=[c]:=by simp [ofK,h]
theorem mZ (st k n:Int) (c:Ct) (h:¬ (c.st=st∧c.key.1=k∧c.key.2=n)):ofK st k n [c]=[]:=by
 unfold ofK;simp only [List.filter_cons,List.filter_nil,decide_eq_false h,Bool.false_eq_true,if_false]
theorem ofK_len (st k n:Int) (cs:List Ct):(ofK st k n cs).length≤cs.length:=List.length_filter_le _ _
theorem gU (ks:List Int) (cs:List Ct) (c:Ct):iu ks (cs++[c])=dD (iu ks cs) c.vs:=by simp [iu]
theorem accOf_len (ks:List Int):∀ (cs:List Ct),(∀ c∈cs,c.vs.length=ks.length)→(iu ks cs).length=ks.length:=by
 intro cs
 induction cs using oI with
 | h0=>intro _;simp [iu]
 | h1 l c ih =>
  intro h;rw [gU,dD,List.length_zipWith,ih (fun c hc=>h c (by simp [hc])),h c (by simp)]
  simp
theorem nD {ac:List Ac} {vs:List V2} {a:Ac} (h:a∈dD ac vs):∃ b∈ac,∃ v∈vs,a=jE b v:=by
 unfold dD at h;obtain ⟨i,hi,rfl⟩:=List.mem_iff_getElem.1 h;simp only [List.length_zipWith] at hi;refine ⟨ac[i]'(by omega),List.getElem_mem _,vs[i]'(by omega),List.getElem_mem _,?_⟩;rw [List.getElem_zipWith]
theorem accOf_ok (ks:List Int) (hk:∀ x∈ks,1≤x∧x≤5):∀ (cs:List Ct),∀ a∈iu ks cs,1≤a.k∧a.k≤5∧0≤a.n∧a.n≤cs.length:=by
 intro cs
 induction cs using oI with
 | h0 =>
  intro a ha;simp only [iu,List.foldl_nil,List.mem_map] at ha;obtain ⟨x,hx,rfl⟩:=ha
  have:=hk x hx
  simp [iw,this]
 | h1 l c ih =>
  intro a ha;rw [gU] at ha;obtain ⟨b,hb,v,-,rfl⟩:=nD ha;obtain ⟨h1,h2,h3,h4⟩:=ih b hb
  have:=gstep_n b.k (b.n,b.s,b.b) v h3
  simp only at this
  simp only [jE,List.length_append,List.length_singleton];refine ⟨h1,h2,this.1,?_⟩;omega
theorem jh (a b c:Int):¬ lexlt a b c a b c:=by unfold lexlt;omega
theorem ky {ps:List Pn} (h:jD ps) {i j:Nat} {p q:Pn} (hi:ps[i]?=some p) (hj:ps[j]?=some q) (e:p.st=q.st∧p.k=q.k∧p.n=q.n):i=j:=by
 obtain ⟨li,rfl⟩:=List.getElem?_eq_some_iff.1 hi;obtain ⟨lj,rfl⟩:=List.getElem?_eq_some_iff.1 hj
 rcases Nat.lt_trichotomy i j with h1 | h1 | h1
 ·have:=List.pairwise_iff_getElem.1 h i j li lj h1
  rw [e.1,e.2.1,e.2.2] at this;exact absurd this (jh _ _ _)
 ·exact h1
 ·have:=List.pairwise_iff_getElem.1 h j i lj li h1
  rw [e.1,e.2.1,e.2.2] at this;exact absurd this (jh _ _ _)
def evX (x:Ev):List V2:=evE x.t x.k1 x.k2 x.a1 x.a2 x.b1 x.b2
def askQ (q:Qy) (x:Ev):Bool:=q.wh.length == 0 || decide (evL opV (evX x) q.wh=(2,1))
def qq (q:Qy) (x:Ev):V2:=if q.bys.length=0 then (0,0) else evL opV (evX x) q.bys
def qH (x:Ev) (a:AgQ):V2:=if a.kind=1 then (0,0) else evL opV (evX x) a.of
def valsQ (q:Qy) (x:Ev):List V2:=q.aggs.map (qH x)
def fx (q:Qy) (upto:Int) (known:Bool) (st:Int):Bool:=known && decide (st+q.size+q.late≤upto)
def kJ (q:Qy) (x:Ev) (upto:Int) (known:Bool) (l:List Int):List Ct:=(l.filter fun st=>!fx q upto known st).map fun st=>⟨st,qq q x,valsQ q x⟩
def gN (q:Qy) (upto:Int) (known:Bool) (l:List Int):Nat:=(l.filter fun st=>fx q upto known st).length
def takeC (q:Qy) (x:Ev) (upto:Int) (known:Bool):List Ct:=if askQ q x then kJ q x upto known (nU x.t q.size q.slide) else []
def takeN (q:Qy) (x:Ev) (upto:Int) (known:Bool):Nat:=if askQ q x then gN q upto known (nU x.t q.size q.slide) else 0
def dM (q:Qy):Int→Bool→List Ev→List Ct
 | _,_,[]=>[]
 | g,k,x :: l=>if evC x≠0 then dM q g k l else takeC q x (g - q.delay) k++dM q (max g x.t) true l
def eR (q:Qy):Int→Bool→List Ev→Nat
 | _,_,[]=>0
 | g,k,x :: l=>if evC x≠0 then eR q g k l else takeN q x (g - q.delay) k+eR q (max g x.t) true l
def nN (q:Qy) (l:List (List Ev)):List Ct:=l.flatMap (dM q 0 false)
def pA (q:Qy) (l:List (List Ev)):Nat:=(l.map (eR q 0 false)).sum
theorem putL_cons (q:Qy) (x:Ev) (upto:Int) (known:Bool) (st:Int) (l:List Int):kJ q x upto known (st :: l)=(if fx q upto known st then [] else [⟨st,qq q x,valsQ q x⟩])++kJ q x upto known l:=by
 unfold kJ;cases h:fx q upto known st <;> simp [h]
theorem lateL_cons (q:Qy) (upto:Int) (known:Bool) (st:Int) (l:List Int):gN q upto known (st :: l)=(if fx q upto known st then 1 else 0)+gN q upto known l:=by
 unfold gN;cases h:fx q upto known st <;> simp [h]
 omega
theorem putL_len (q:Qy) (x:Ev) (upto:Int) (known:Bool) (l:List Int):(kJ q x upto known l).length≤l.length:=by
 unfold kJ;rw [List.length_map];exact List.length_filter_le _ _
theorem lateL_len (q:Qy) (upto:Int) (known:Bool) (l:List Int):gN q upto known l≤l.length:=List.length_filter_le _ _
theorem putL_vs {q:Qy} {x:Ev} {upto:Int} {known:Bool} {l:List Int}:∀ c∈kJ q x upto known l,c.vs.length=q.aggs.length:=by
 intro c hc;unfold kJ at hc;simp only [List.mem_map] at hc;obtain ⟨st,-,rfl⟩:=hc
 simp [valsQ]
theorem infoN:(Tryz.prog.info? 153).map (fun i=>(i.zero,i.size,i.bytes))=some (some (.agg #[.int .i64 0,.int .i64 0,.int .i64 0,.int .i64 0,.int .i64 0,.int .i64 0]),6,48):=by kernel_rfl
theorem cL (w:World) (a b c d x y:Value) (e:TypeId):∀ j u,([a,b,c,d,x,y]:List Value)[j]?=some u→(w.alloc (.cells #[a,b,c,d,x,y] e)).cell? ((⟨w.heap.size,0,none⟩:Addr).add j)=some u:=by
 intro j u h;have hj:j < 6:=by simpa using (List.getElem?_eq_some_iff.1 h).1
 have:=World.ownsRow_lit (base:=0) (size:=6) (e:=e) w #[a,b,c,d,x,y] 1 (Nat.zero_le _) (by decide) rfl
 have:=this.cellAt j (by omega)
 rw [show (⟨w.heap.size,0,none⟩:Addr).add j=⟨w.heap.size,j,none⟩ from by rcases (by omega:j=0∨j=1∨j=2∨j=3∨j=4∨j=5) with rfl | rfl | rfl | rfl | rfl | rfl <;> rfl,this];exact h
def Mvb (n:Nd):Prop:=-1000≤n.x∧n.x≤1000∧-1000≤n.y∧n.y≤1000
theorem gl (B:Nat) (to l:List Nd) (u v:Value) (by_:Int) (w:World) (hB:B≤w.heap.size) (ho:w.ownsRow B 153 6 u to.length (eT to)) (hl:l.length≤1000) (ht:to.length≤1000)
  (hr:bT w v 6 l.length (eT l)) (hlo:∀ g off n c,v=.slice (some ⟨g,off,none⟩) n c→0 < n→g < B) (hm:∀ n∈l,Mvb n) (h1:-1000≤by_) (h2:by_≤1000) :
  Calls Tryz.prog 198 #[u,v,.int .i64 by_] w fun e w'=>∃ u',e=.returned u'∧w'.ownsRow B 153 6 u' (to++l.map (mv by_)).length (eT (to++l.map (mv by_)))∧Below B w w':=by
 obtain ⟨ao,cap,rfl⟩:=aq hr;obtain ⟨ao2,cap2,rfl⟩:=ax ho;obtain ⟨i0,hi0,hz0,hz1,hz2⟩:=info_parts infoN;have HR:=aa hr;have HO:=aa ho;have HLO:=aa hlo;have HM:=aa hm;clear hr ho hlo hm
 go_enter Tryz.func198,Tryz.ntmps198
 go_wp2_with fail
 go_loopw [0,11] (fun v i wr=>∃ (m:Nat) (us:List Nd),m≤l.length∧i=.int .i64 m∧us.length≤to.length+m∧Hid (wr.ownsRow B 153 6 v us.length (eT us))∧Hid (Below B w wr)∧Hid (us=to++(l.take m).map (mv by_))) (fun _ i _=>l.length - (intOf i).toNat)
 case atStart=>exact ⟨0,to,Nat.zero_le _,rfl,Nat.le_refl _,HO,Below.refl _ _,by show _=_;simp⟩
 case round =>
  clear HO;obtain ⟨m,us,hm,rfl,hus,HO,HB,HU⟩:=hrel;obtain ⟨ao3,cap3,rfl⟩:=ax HO.out
  by_cases hlt:m < l.length
  ·obtain ⟨g,off,rfl,hnode,l1,l2,l3⟩:=gE HR.out _ hlt;have hgB:=HLO.out g off _ _ rfl (by omega);obtain ⟨m1,m2,m3,m4⟩:=HM.out _ (List.getElem_mem hlt);have HTK:Hid (l.take (m+1)=l.take m++[l[m]]):=by show _=_;simp
   generalize l[m]=nd at *;obtain ⟨n0,n1,n2,n3,n4,n5⟩:=eE hnode HB.out hgB;clear hnode;unfold maxLen at l2;obtain ⟨op,x,y,nn,k,nv⟩:=nd
   simp only at n0 n1 n2 n3 n4 n5 m1 m2 m3 m4
   by_cases a1:ar op=1
   ·have b1:(ar op == 1)=true:=by simp [a1]
    have HMV:Hid (mv by_ ⟨op,x,y,nn,k,nv⟩=⟨op,x+by_,y,nn,k,nv⟩):=by show _=_;unfold mv;rw [if_pos a1]
    clear a1
    go_wp2_with (first | (go_at_call 184;refine (ch _ _).mono ?_;rintro e w' ⟨rfl,rfl⟩) | (at_builtin;go_must (refine wpList_append_own _ rfl (.tmp 37) (.tmp 39) 26 rfl B 153 i0 (.agg #[.int .i64 0,.int .i64 0,.int .i64 0,.int .i64 0,.int .i64 0,.int .i64 0]) 6 48 Tryz.underlying26 hi0 hz0 hz1 hz2 rfl (by decide) _ _ _ rfl ((HO.out.alloc _).alloc _) ⟨wr.heap.size+1,0,none⟩ 1 1 (cS (⟨op,x+by_,y,nn,k,nv⟩:Nd)) rfl rfl (by have q:=cL (wr.alloc (.cells (cS (⟨op,x+by_,y,nn,k,nv⟩:Nd)).toArray 153)) (.int .i64 ((⟨op,x+by_,y,nn,k,nv⟩:Nd)).op) (.int .i64 ((⟨op,x+by_,y,nn,k,nv⟩:Nd)).x) (.int .i64 ((⟨op,x+by_,y,nn,k,nv⟩:Nd)).y) (.int .i64 ((⟨op,x+by_,y,nn,k,nv⟩:Nd)).n) (.int .i64 ((⟨op,x+by_,y,nn,k,nv⟩:Nd)).k) (.int .i64 ((⟨op,x+by_,y,nn,k,nv⟩:Nd)).v) 153;simpa [cS] using q) (by intro u hu;simp [cS] at hu;rcases hu with rfl | rfl | rfl | rfl | rfl | rfl <;> rfl) (by show _≤2 ^ 63 - 1;omega) (by omega) (by have:=HB.out.size;simp;omega) ?_)))
    intro v' w5 ho5 hg5 _;have ho6:w5.ownsRow B 153 6 v' (us++[(⟨op,x+by_,y,nn,k,nv⟩:Nd)]).length (eT (us++[(⟨op,x+by_,y,nn,k,nv⟩:Nd)])):=by
     rw [gG,List.length_append];exact ho5
    have HO5:=aa ho6;have HB5:Hid (Below B w w5):=((HB.out.alloc (Nat.le_trans hB HB.out.size) _).alloc (by have:=HB.out.size;simp;omega) _).grown hg5 (by have:=HB.out.size;simp;omega) (fun k hk=>(HO.out.lt k hk).1);clear ho5 hg5 ho6;go_wp2_with fail;go_roundw
    case rel=>exact ⟨m+1,us++[(⟨op,x+by_,y,nn,k,nv⟩:Nd)],by omega,by go_num,by simp;omega,HO5,HB5,by show _=_;rw [HU.out,HTK.out];simp [HMV.out]⟩
    case measure=>simp [intOf];omega
   ·have b1:(ar op == 1)=false:=by simp [a1]
    by_cases a2:ar op=2
    ·have b2:(ar op == 2)=true:=by simp [a2]
     have HMV:Hid (mv by_ ⟨op,x,y,nn,k,nv⟩=⟨op,x+by_,y+by_,nn,k,nv⟩):=by show _=_;unfold mv;rw [if_neg a1,if_pos a2]
     clear a1 a2
     go_wp2_with (first | (go_at_call 184;refine (ch _ _).mono ?_;rintro e w' ⟨rfl,rfl⟩) | (at_builtin;go_must (refine wpList_append_own _ rfl (.tmp 37) (.tmp 39) 26 rfl B 153 i0 (.agg #[.int .i64 0,.int .i64 0,.int .i64 0,.int .i64 0,.int .i64 0,.int .i64 0]) 6 48 Tryz.underlying26 hi0 hz0 hz1 hz2 rfl (by decide) _ _ _ rfl ((HO.out.alloc _).alloc _) ⟨wr.heap.size+1,0,none⟩ 1 1 (cS (⟨op,x+by_,y+by_,nn,k,nv⟩:Nd)) rfl rfl (by have q:=cL (wr.alloc (.cells (cS (⟨op,x+by_,y+by_,nn,k,nv⟩:Nd)).toArray 153)) (.int .i64 ((⟨op,x+by_,y+by_,nn,k,nv⟩:Nd)).op) (.int .i64 ((⟨op,x+by_,y+by_,nn,k,nv⟩:Nd)).x) (.int .i64 ((⟨op,x+by_,y+by_,nn,k,nv⟩:Nd)).y) (.int .i64 ((⟨op,x+by_,y+by_,nn,k,nv⟩:Nd)).n) (.int .i64 ((⟨op,x+by_,y+by_,nn,k,nv⟩:Nd)).k) (.int .i64 ((⟨op,x+by_,y+by_,nn,k,nv⟩:Nd)).v) 153;simpa [cS] using q) (by intro u hu;simp [cS] at hu;rcases hu with rfl | rfl | rfl | rfl | rfl | rfl <;> rfl) (by show _≤2 ^ 63 - 1;omega) (by omega) (by have:=HB.out.size;simp;omega) ?_)))
     intro v' w5 ho5 hg5 _;have ho6:w5.ownsRow B 153 6 v' (us++[(⟨op,x+by_,y+by_,nn,k,nv⟩:Nd)]).length (eT (us++[(⟨op,x+by_,y+by_,nn,k,nv⟩:Nd)])):=by
      rw [gG,List.length_append];exact ho5
     have HO5:=aa ho6;have HB5:Hid (Below B w w5):=((HB.out.alloc (Nat.le_trans hB HB.out.size) _).alloc (by have:=HB.out.size;simp;omega) _).grown hg5 (by have:=HB.out.size;simp;omega) (fun k hk=>(HO.out.lt k hk).1);clear ho5 hg5 ho6;go_wp2_with fail;go_roundw
     case rel=>exact ⟨m+1,us++[(⟨op,x+by_,y+by_,nn,k,nv⟩:Nd)],by omega,by go_num,by simp;omega,HO5,HB5,by show _=_;rw [HU.out,HTK.out];simp [HMV.out]⟩
     case measure=>simp [intOf];omega
    ·have b2:(ar op == 2)=false:=by simp [a2]
     have HMV:Hid (mv by_ ⟨op,x,y,nn,k,nv⟩=⟨op,x,y,nn,k,nv⟩):=by show _=_;unfold mv;rw [if_neg a1,if_neg a2]
     clear a1 a2
     go_wp2_with (first | (go_at_call 184;refine (ch _ _).mono ?_;rintro e w' ⟨rfl,rfl⟩) | (at_builtin;go_must (refine wpList_append_own _ rfl (.tmp 37) (.tmp 39) 26 rfl B 153 i0 (.agg #[.int .i64 0,.int .i64 0,.int .i64 0,.int .i64 0,.int .i64 0,.int .i64 0]) 6 48 Tryz.underlying26 hi0 hz0 hz1 hz2 rfl (by decide) _ _ _ rfl ((HO.out.alloc _).alloc _) ⟨wr.heap.size+1,0,none⟩ 1 1 (cS (⟨op,x,y,nn,k,nv⟩:Nd)) rfl rfl (by have q:=cL (wr.alloc (.cells (cS (⟨op,x,y,nn,k,nv⟩:Nd)).toArray 153)) (.int .i64 ((⟨op,x,y,nn,k,nv⟩:Nd)).op) (.int .i64 ((⟨op,x,y,nn,k,nv⟩:Nd)).x) (.int .i64 ((⟨op,x,y,nn,k,nv⟩:Nd)).y) (.int .i64 ((⟨op,x,y,nn,k,nv⟩:Nd)).n) (.int .i64 ((⟨op,x,y,nn,k,nv⟩:Nd)).k) (.int .i64 ((⟨op,x,y,nn,k,nv⟩:Nd)).v) 153;simpa [cS] using q) (by intro u hu;simp [cS] at hu;rcases hu with rfl | rfl | rfl | rfl | rfl | rfl <;> rfl) (by show _≤2 ^ 63 - 1;omega) (by omega) (by have:=HB.out.size;simp;omega) ?_)))
     intro v' w5 ho5 hg5 _;have ho6:w5.ownsRow B 153 6 v' (us++[(⟨op,x,y,nn,k,nv⟩:Nd)]).length (eT (us++[(⟨op,x,y,nn,k,nv⟩:Nd)])):=by
      rw [gG,List.length_append];exact ho5
     have HO5:=aa ho6;have HB5:Hid (Below B w w5):=((HB.out.alloc (Nat.le_trans hB HB.out.size) _).alloc (by have:=HB.out.size;simp;omega) _).grown hg5 (by have:=HB.out.size;simp;omega) (fun k hk=>(HO.out.lt k hk).1);clear ho5 hg5 ho6;go_wp2_with fail;go_roundw
     case rel=>exact ⟨m+1,us++[(⟨op,x,y,nn,k,nv⟩:Nd)],by omega,by go_num,by simp;omega,HO5,HB5,by show _=_;rw [HU.out,HTK.out];simp [HMV.out]⟩
     case measure=>simp [intOf];omega
  ·have hml:m=l.length:=by omega
   have hU:=HU.out;rw [hml,List.take_length] at hU;have HU:=aa hU;clear hU;have hge:¬ ((m:Int) < (l.length:Int)):=by omega
   clear hml hlt;go_wp2_with fail
   go_ret
   have ho2:wr.ownsRow B 153 6 (.slice ao3 us.length cap3) (to++l.map (mv by_)).length (eT (to++l.map (mv by_))):=by rw [← HU.out];exact HO.out
   rw [List.length_append,List.length_map] at ho2;exact ⟨.slice ao3 us.length cap3,rfl,ho2,HB.out⟩
theorem good_mvb {l:List Nd} {bs:List Nat} (h:kh l bs) (hl:l.length≤100):∀ n∈l,Mvb n:=by
 intro n hn;obtain ⟨i,hi,rfl⟩:=List.getElem_of_mem hn;have hi':=List.getElem?_eq_getElem hi;obtain ⟨ok,a0,-⟩:=mm h hi';obtain ⟨p1,p2⟩:=good_part h hi';have hle:=qi l[i].op;unfold okN at ok
 by_cases hb:lG l[i]
 ·simp [hb] at ok
 unfold lG at hb;unfold Mvb
 rcases (by omega:ar l[i].op=0∨ar l[i].op=1∨ar l[i].op=2) with q | q | q
 ·omega
 ·have:=p1 (by omega);omega
 ·have:=p1 (by omega);have:=p2 q;omega
theorem mG {w:World} {base base':Nat} {e:TypeId} {size n:Nat} {v:Value} {xs:List Value} (h:w.ownsRow base e size v n xs) (hb:base'≤base):w.ownsRow base' e size v n xs :=
 ⟨h.1,h.2.imp id fun ⟨g,cap,cur,a,b,c⟩=>⟨g,cap,cur,a,Nat.le_trans hb b,c⟩⟩
theorem mp {w:World} {size n:Nat} {v:Value} {xs:List Value} (h:bT w v size n xs):∀ g off m c,v=.slice (some ⟨g,off,none⟩) m c→0 < m→g < w.heap.size:=by
 intro g off m c e hm
 rcases h.2 with ⟨⟨ao,cap,h1⟩,-⟩ | ⟨g',off',cap,h1,-,-,h4,-⟩
 ·rw [h1] at e;simp only [Value.slice.injEq] at e;omega
 ·rw [h1] at e;simp only [Value.slice.injEq,Option.some.injEq,Addr.mk.injEq] at e;omega
theorem join_two (op:Int) (l m:List Nd) (u v:Value) (w:World) (hl:l.length≤100) (hm:m.length≤100) (hu:bT w u 6 l.length (eT l)) (hv:bT w v 6 m.length (eT m)) (h1:∀ n∈l,Mvb n) (h2:∀ n∈m,Mvb n) (ha:ar op=2) :
  Calls Tryz.prog 190 #[.int .i64 op,u,v] w fun e w'=>∃ u',e=.returned u'∧w'.ownsRow w.heap.size 153 6 u' (gD op l m).length (eT (gD op l m))∧Below w.heap.size w w':=by
 obtain ⟨ao,cap,rfl⟩:=aq hu;obtain ⟨ao2,cap2,rfl⟩:=aq hv;obtain ⟨i0,hi0,hz0,hz1,hz2⟩:=info_parts infoN;have HU:=aa hu;have HV:=aa hv;have H1:=aa h1;have H2:=aa h2;clear hu hv h1 h2;have b1:(ar op == 1)=false:=by simp [ha]
 have b2:(ar op == 2)=true:=by simp [ha]
 have HA:=aa (fun w=>ch op w);clear ha;have HW:Hid (Below w.heap.size w (w.alloc (.cells #[.int .i64 op,.int .i64 ((l.length:Int) - 1),.int .i64 ((l.length:Int)+(m.length:Int) - 1),.int .i64 0,.int .i64 0,.int .i64 0] 153))):=(Below.refl _ _).alloc (Nat.le_refl _) _;have hsz:(w.alloc (.cells #[.int .i64 op,.int .i64 ((l.length:Int) - 1),.int .i64 ((l.length:Int)+(m.length:Int) - 1),.int .i64 0,.int .i64 0,.int .i64 0] 153)).heap.size=w.heap.size+1:=by simp
 go_enter Tryz.func190,Tryz.ntmps190
 go_wp2_with (first | (go_at_call 184;refine (HA.out _).mono ?_;rintro e w' ⟨rfl,rfl⟩) | (at_make;go_must (refine wpList_make_own _ rfl _ _ 26 rfl (w.heap.size+1) 153 i0 (.agg #[.int .i64 0,.int .i64 0,.int .i64 0,.int .i64 0,.int .i64 0,.int .i64 0]) 6 Tryz.underlying26 hi0 hz0 hz1 .i64 .i64 _ (l.length+m.length+1) rfl rfl (by omega) (by rw [hz2];omega) (by show _≤2 ^ 63 - 1;omega) (by simp) ?_)))
 intro w2 ho2 hg2;have HB2:Hid (Below (w.heap.size+1) (w.alloc (.cells #[.int .i64 op,.int .i64 ((l.length:Int) - 1),.int .i64 ((l.length:Int)+(m.length:Int) - 1),.int .i64 0,.int .i64 0,.int .i64 0] 153)) w2):=(Below.refl _ _).grown hg2 (by simp) (fun k hk=>by cases hk);have HBw:Hid (Below w.heap.size w w2):=HW.out.trans (HB2.out.mono (by omega));have HL:=aa (gl (w.heap.size+1) [] l _ (.slice ao l.length cap) 0 w2 (by have:=HB2.out.size;rw [hsz] at this;omega) ho2 (by omega) (by simp) (aA HU.out HBw.out) (fun g off n c e hn=>Nat.lt_succ_of_lt (mp HU.out g off n c e hn)) H1.out (by decide) (by decide));clear ho2 hg2;go_wp2_with fail;refine HL.out.mono ?_;rintro e w3 ⟨u1,rfl,ho3,hb3⟩;simp only [List.nil_append,jd] at ho3;obtain ⟨ao3,cap3,rfl⟩:=ax ho3;have HB3:=aa (HB2.out.trans hb3);have HBw:=aa (HBw.out.trans (hb3.mono (by omega)));have HM:=aa (gl (w.heap.size+1) l m _ (.slice ao2 m.length cap2) (l.length:Int) w3 (by have:=HB3.out.size;rw [hsz] at this;omega) ho3 (by omega) (by omega) (aA HV.out HBw.out) (fun g off n c e hn=>Nat.lt_succ_of_lt (mp HV.out g off n c e hn)) H2.out (by omega) (by omega));clear ho3 hb3 HL HB2;go_wp2_with fail;refine HM.out.mono ?_;rintro e w4 ⟨u2,rfl,ho4,hb4⟩;have HB4:=aa (HB3.out.trans hb4);have HO4:=aa ho4;obtain ⟨ao4,cap4,rfl⟩:=ax ho4;clear ho4 hb4 HM HB3 HBw;have hs4:w.heap.size+1≤w4.heap.size:=by have:=HB4.out.size;rw [hsz] at this;omega
 have hcc:∀ o,w4.cell? ⟨w.heap.size,o,none⟩=(w.alloc (.cells #[.int .i64 op,.int .i64 ((l.length:Int) - 1),.int .i64 ((l.length:Int)+(m.length:Int) - 1),.int .i64 0,.int .i64 0,.int .i64 0] 153)).cell? ⟨w.heap.size,o,none⟩:=fun o=>HB4.out.cell (p:=⟨w.heap.size,o,none⟩) (by simp)
 have c0:w4.cell? ⟨w.heap.size,0,none⟩=some (.int .i64 op):=by rw [hcc];go_simp
 have c1:w4.cell? ⟨w.heap.size,1,none⟩=some (.int .i64 ((l.length:Int) - 1)):=by rw [hcc];go_simp
 have c2:w4.cell? ⟨w.heap.size,2,none⟩=some (.int .i64 ((l.length:Int)+(m.length:Int) - 1)):=by rw [hcc];go_simp
 have c3:w4.cell? ⟨w.heap.size,3,none⟩=some (.int .i64 0):=by rw [hcc];go_simp
 have c4:w4.cell? ⟨w.heap.size,4,none⟩=some (.int .i64 0):=by rw [hcc];go_simp
 have c5:w4.cell? ⟨w.heap.size,5,none⟩=some (.int .i64 0):=by rw [hcc];go_simp
 have hus:(l++m.map (mv (l.length:Int))).length≤200:=by simp;omega
 have HJ:Hid (gD op l m=(l++m.map (mv (l.length:Int)))++[⟨op,(l.length:Int) - 1,((l.length:Int)+(m.length:Int) - 1),0,0,0⟩]):=rfl;clear hcc;generalize (l++m.map (mv (l.length:Int)))=us at *
 go_wp2_with (at_builtin;go_must (refine wpList_append_own _ rfl (.tmp 47) (.tmp 49) 26 rfl (w.heap.size+1) 153 i0 (.agg #[.int .i64 0,.int .i64 0,.int .i64 0,.int .i64 0,.int .i64 0,.int .i64 0]) 6 48 Tryz.underlying26 hi0 hz0 hz1 hz2 rfl (by decide) _ _ _ rfl (HO4.out.alloc _) ⟨w4.heap.size,0,none⟩ 1 1 [.int .i64 op,.int .i64 ((l.length:Int) - 1),.int .i64 ((l.length:Int)+(m.length:Int) - 1),.int .i64 0,.int .i64 0,.int .i64 0] rfl rfl (cL _ _ _ _ _ _ _ _) (by intro u hu;simp at hu;rcases hu with rfl | rfl | rfl | rfl <;> rfl) (by show _≤2 ^ 63 - 1;omega) (by omega) (by simp;omega) ?_))
 intro v' w5 ho5 hg5 _;have HB5:Hid (Below (w.heap.size+1) (w.alloc (.cells #[.int .i64 op,.int .i64 ((l.length:Int) - 1),.int .i64 ((l.length:Int)+(m.length:Int) - 1),.int .i64 0,.int .i64 0,.int .i64 0] 153)) w5):=(HB4.out.alloc (by omega) _).grown hg5 (by simp;omega) (fun k hk=>(HO4.out.lt k hk).1);have ho6:w5.ownsRow w.heap.size 153 6 v' (gD op l m).length (eT (gD op l m)):=by
  rw [HJ.out,gG,List.length_append];exact mG ho5 (by omega)
 have HO6:=aa ho6;have HBf:=aa (HW.out.trans (HB5.out.mono (by omega)));clear ho5 hg5 ho6 HB5 HB4 HO4;go_wp2_with fail
 go_ret
 exact ⟨v',rfl,HO6.out,HBf.out⟩
theorem join_one (op:Int) (l m:List Nd) (u v:Value) (w:World) (hl:l.length≤100) (hu:bT w u 6 l.length (eT l)) (hv:bT w v 6 m.length (eT m)) (h1:∀ n∈l,Mvb n) (ha:ar op=1) :
  Calls Tryz.prog 190 #[.int .i64 op,u,v] w fun e w'=>∃ u',e=.returned u'∧w'.ownsRow w.heap.size 153 6 u' (fF op l).length (eT (fF op l))∧Below w.heap.size w w':=by
 obtain ⟨ao,cap,rfl⟩:=aq hu;obtain ⟨ao2,cap2,rfl⟩:=aq hv;obtain ⟨i0,hi0,hz0,hz1,hz2⟩:=info_parts infoN;have HU:=aa hu;have H1:=aa h1;clear hu hv h1;have b1:(ar op == 1)=true:=by simp [ha]
 have HA:=aa (fun w=>ch op w);clear ha;have HW:Hid (Below w.heap.size w (w.alloc (.cells #[.int .i64 op,.int .i64 ((l.length:Int) - 1),.int .i64 0,.int .i64 0,.int .i64 0,.int .i64 0] 153))):=(Below.refl _ _).alloc (Nat.le_refl _) _;have hsz:(w.alloc (.cells #[.int .i64 op,.int .i64 ((l.length:Int) - 1),.int .i64 0,.int .i64 0,.int .i64 0,.int .i64 0] 153)).heap.size=w.heap.size+1:=by simp
 go_enter Tryz.func190,Tryz.ntmps190
 go_wp2_with (first | (go_at_call 184;refine (HA.out _).mono ?_;rintro e w' ⟨rfl,rfl⟩) | (at_make;go_must (refine wpList_make_own _ rfl _ _ 26 rfl (w.heap.size+1) 153 i0 (.agg #[.int .i64 0,.int .i64 0,.int .i64 0,.int .i64 0,.int .i64 0,.int .i64 0]) 6 Tryz.underlying26 hi0 hz0 hz1 .i64 .i64 _ (l.length+1) rfl rfl (by omega) (by rw [hz2];omega) (by show _≤2 ^ 63 - 1;omega) (by simp) ?_)))
 intro w2 ho2 hg2;have HB2:Hid (Below (w.heap.size+1) (w.alloc (.cells #[.int .i64 op,.int .i64 ((l.length:Int) - 1),.int .i64 0,.int .i64 0,.int .i64 0,.int .i64 0] 153)) w2):=(Below.refl _ _).grown hg2 (by simp) (fun k hk=>by cases hk);have HBw:Hid (Below w.heap.size w w2):=HW.out.trans (HB2.out.mono (by omega));have HL:=aa (gl (w.heap.size+1) [] l _ (.slice ao l.length cap) 0 w2 (by have:=HB2.out.size;rw [hsz] at this;omega) ho2 (by omega) (by simp) (aA HU.out HBw.out) (fun g off n c e hn=>Nat.lt_succ_of_lt (mp HU.out g off n c e hn)) H1.out (by decide) (by decide));clear ho2 hg2;go_wp2_with fail;refine HL.out.mono ?_;rintro e w3 ⟨u1,rfl,ho3,hb3⟩;simp only [List.nil_append,jd] at ho3;obtain ⟨ao3,cap3,rfl⟩:=ax ho3;have HB3:=aa (HB2.out.trans hb3);have HBw:=aa (HBw.out.trans (hb3.mono (by omega)));have HM:=aa (gl (w.heap.size+1) l [] _ (.slice none 0 0) (l.length:Int) w3 (by have:=HB3.out.size;rw [hsz] at this;omega) ho3 (by simp) (by omega) ⟨rfl,.inl ⟨⟨_,_,rfl⟩,rfl⟩⟩ (fun g off n c e=>by cases e) (fun n hn=>by cases hn) (by omega) (by omega));clear ho3 hb3 HL HB2;go_wp2_with fail;refine HM.out.mono ?_;rintro e w4 ⟨u2,rfl,ho4,hb4⟩;have HB4:=aa (HB3.out.trans hb4);have HO4:=aa ho4;obtain ⟨ao4,cap4,rfl⟩:=ax ho4;clear ho4 hb4 HM HB3 HBw;have hs4:w.heap.size+1≤w4.heap.size:=by have:=HB4.out.size;rw [hsz] at this;omega
 have hcc:∀ o,w4.cell? ⟨w.heap.size,o,none⟩=(w.alloc (.cells #[.int .i64 op,.int .i64 ((l.length:Int) - 1),.int .i64 0,.int .i64 0,.int .i64 0,.int .i64 0] 153)).cell? ⟨w.heap.size,o,none⟩:=fun o=>HB4.out.cell (p:=⟨w.heap.size,o,none⟩) (by simp)
 have c0:w4.cell? ⟨w.heap.size,0,none⟩=some (.int .i64 op):=by rw [hcc];go_simp
 have c1:w4.cell? ⟨w.heap.size,1,none⟩=some (.int .i64 ((l.length:Int) - 1)):=by rw [hcc];go_simp
 have c2:w4.cell? ⟨w.heap.size,2,none⟩=some (.int .i64 0):=by rw [hcc];go_simp
 have c3:w4.cell? ⟨w.heap.size,3,none⟩=some (.int .i64 0):=by rw [hcc];go_simp
 have c4:w4.cell? ⟨w.heap.size,4,none⟩=some (.int .i64 0):=by rw [hcc];go_simp
 have c5:w4.cell? ⟨w.heap.size,5,none⟩=some (.int .i64 0):=by rw [hcc];go_simp
 have hus:(l++([]:List Nd).map (mv (l.length:Int))).length≤200:=by simp;omega
 have HJ:Hid (fF op l=(l++([]:List Nd).map (mv (l.length:Int)))++[⟨op,(l.length:Int) - 1,0,0,0,0⟩]):=by show _=_;simp [fF]
 clear hcc;generalize (l++([]:List Nd).map (mv (l.length:Int)))=us at *
 go_wp2_with (at_builtin;go_must (refine wpList_append_own _ rfl (.tmp 47) (.tmp 49) 26 rfl (w.heap.size+1) 153 i0 (.agg #[.int .i64 0,.int .i64 0,.int .i64 0,.int .i64 0,.int .i64 0,.int .i64 0]) 6 48 Tryz.underlying26 hi0 hz0 hz1 hz2 rfl (by decide) _ _ _ rfl (HO4.out.alloc _) ⟨w4.heap.size,0,none⟩ 1 1 [.int .i64 op,.int .i64 ((l.length:Int) - 1),.int .i64 0,.int .i64 0,.int .i64 0,.int .i64 0] rfl rfl (cL _ _ _ _ _ _ _ _) (by intro u hu;simp at hu;rcases hu with rfl | rfl | rfl | rfl <;> rfl) (by show _≤2 ^ 63 - 1;omega) (by omega) (by simp;omega) ?_))
 intro v' w5 ho5 hg5 _;have HB5:Hid (Below (w.heap.size+1) (w.alloc (.cells #[.int .i64 op,.int .i64 ((l.length:Int) - 1),.int .i64 0,.int .i64 0,.int .i64 0,.int .i64 0] 153)) w5):=(HB4.out.alloc (by omega) _).grown hg5 (by simp;omega) (fun k hk=>(HO4.out.lt k hk).1);have ho6:w5.ownsRow w.heap.size 153 6 v' (fF op l).length (eT (fF op l)):=by
  rw [HJ.out,gG,List.length_append];exact mG ho5 (by omega)
 have HO6:=aa ho6;have HBf:=aa (HW.out.trans (HB5.out.mono (by omega)));clear ho5 hg5 ho6 HB5 HB4 HO4;go_wp2_with fail
 go_ret
 exact ⟨v',rfl,HO6.out,HBf.out⟩
def sgV (s:Sg):Value:=.agg #[.int .i64 s.rank,.int .i64 s.op,.bool s.turned,.bool s.denied]
def sg0:Sg:=⟨0,0,false,false⟩
def oL (w:World) (g:Nat) (L:List (ByteArray×Sg)):Prop:=∃ es clock,w.heap[g]?=some (.map es clock)∧es.toList.map (fun e=>(e.key,e.val))=L.map (fun p=>(Value.string p.1,sgV p.2))
theorem di {w:World} {g:Nat} {L:List (ByteArray×Sg)} (h:oL w g L):g < w.heap.size:=by
 obtain ⟨es,clock,h,_⟩:=h;exact (Array.getElem?_eq_some_iff.1 h).1
theorem fo {w w':World} {g:Nat} {L:List (ByteArray×Sg)} {bad:Nat→Prop} (h:oL w g L) (hk:KeptB w w' bad) (hb:¬ bad g):oL w' g L:=by
 have hg:=di h;obtain ⟨es,clock,h,hE⟩:=h;exact ⟨es,clock,(hk.block g hg hb).trans h,hE⟩
theorem underSg:Tryz.prog.underlying 131=some (.map 9 176):=by kernel_rfl
theorem ckS (b:Bool) (k:ByteArray) (w:World):(Instr.checkKey b 10000 9 (.string k)).run Tryz.prog w=.ok () w:=by kernel_rfl
theorem zeroSg (w:World):(zeroValue 176).run Tryz.prog w=.ok (sgV sg0) w:=by kernel_rfl
theorem ba_same (a:ByteArray):(a == a)=true:=by
 show (a.data == a.data)=true
 simp
theorem ba_other {a b:ByteArray} (h:a≠b):(a == b)=false:=by
 have e:(a == b)=(a.data == b.data):=rfl;rw [e,beq_eq_false_iff_ne];intro hd
 apply h
 cases a;cases b;simp at hd;rw [hd]
theorem qh (k:ByteArray):∀ (es:List MapEntry) (L:List (ByteArray×Sg)) (i:Nat),es.map (fun e=>(e.key,e.val))=L.map (fun p=>(Value.string p.1,sgV p.2)) →
  (sgIn L k=none→Instr.findNow .string (.string k) es i=some none)∧(∀ s,sgIn L k=some s→∃ j,Instr.findNow .string (.string k) es i=some (some (j,sgV s)))
 | [],[],i,_=>⟨fun _=>rfl,fun s h=>by simp [sgIn] at h⟩
 | [],_ :: _,i,h=>by simp at h
 | _ :: _,[],i,h=>by simp at h
 | e :: es,p :: L,i,h=>by
  simp only [List.map_cons,List.cons.injEq,Prod.mk.injEq] at h;obtain ⟨⟨h1,h2⟩,h3⟩:=h;have ih:=qh k es L (i+1) h3
  by_cases hq:k=p.1
  ·refine ⟨fun h=>?_,fun s h=>?_⟩
   ·simp only [sgIn,if_pos hq] at h;cases h
   ·simp only [sgIn,if_pos hq] at h;cases h;refine ⟨i,?_⟩
    simp [Instr.findNow,Instr.sameNow,h1,h2,hq,ba_same]
  ·have hne:(k == p.1)=false:=ba_other hq;refine ⟨fun h=>?_,fun s h=>?_⟩
   ·simp only [sgIn,if_neg hq] at h
    simp [Instr.findNow,Instr.sameNow,h1,hne,ih.1 h]
   ·simp only [sgIn,if_neg hq] at h;obtain ⟨j,hj⟩:=ih.2 s h;exact ⟨j,by simp [Instr.findNow,Instr.sameNow,h1,hne,hj]⟩
theorem underStr:Tryz.prog.underlying 9=some .string:=Tryz.underlying9
theorem qG {w:World} {g:Nat} {L:List (ByteArray×Sg)} (h:oL w g L) (k:ByteArray):(Instr.lookup 131 (.map (some g)) (.string k) true).run Tryz.prog w=.ok (.tuple #[sgV ((sgIn L k).getD sg0),.bool (sgIn L k).isSome]) w:=by
 obtain ⟨es,clock,hg,hE⟩:=h;have hf:=qh k es.toList L 0 hE;cases hk:sgIn L k with
 | none =>
  have hrun:=hf.1 hk
  simp [Instr.lookup,Instr.findKey,run_underlying underSg,run_underlying underStr,MapKept.run_getObj_map hg,ckS,hrun,zeroSg]
  rfl
 | some s =>
  obtain ⟨j,hrun⟩:=hf.2 s hk
  simp [Instr.lookup,Instr.findKey,run_underlying underSg,run_underlying underStr,MapKept.run_getObj_map hg,ckS,hrun]
def qe (w:World) (r:Nat) (o:Obj):World:={ w with heap:=w.heap.setIfInBounds r o }
theorem putM_kept (w:World) (r:Nat) (o:Obj):KeptB w (qe w r o) (fun k=>k=r):=by
 refine ⟨⟨rfl,rfl,rfl,by simp [qe],fun k hk=>absurd hk (by omega)⟩,fun k hk hn=>?_⟩;simp only [qe];rw [Array.getElem?_setIfInBounds_ne (by omega)]
theorem putM_at (w:World) (r:Nat) (o:Obj) (h:r < w.heap.size):(qe w r o).heap[r]?=some o:=by
 simp [qe,h]
theorem oA {w:World} {g:Nat} {L:List (ByteArray×Sg)} (h:oL w g L) (k:ByteArray) (s:Sg) (hk:sgIn L k=none):∃ w',(Instr.mapUpdate 131 (.map (some g)) (.string k) (sgV s)).run Tryz.prog w=.ok () w'∧oL w' g (L++[(k,s)])∧KeptB w w' (fun q=>q=g):=by
 have hlt:=di h;obtain ⟨es,clock,hg,hE⟩:=h;have hrun:=(qh k es.toList L 0 hE).1 hk;refine ⟨qe w g (.map (es.push { key:=.string k,val:=sgV s,born:=clock }) (clock+1)),?_,⟨_,_,putM_at _ _ _ hlt,?_⟩,putM_kept _ _ _⟩
 ·simp [Instr.mapUpdate,Instr.findKey,run_underlying underSg,run_underlying underStr,MapKept.run_getObj_map hg,ckS,hrun,MapKept.run_setObj_map _ hg,qe]
 ·simp [hE]
theorem mapL_new (w:World):oL (w.alloc (.map #[] 0)) w.heap.size []:=⟨#[],0,heap_alloc_new w _,rfl⟩
theorem cf {w w':World} {v:Value} {size n:Nat} {xs:List Value} {bad:Nat→Prop} (h:bT w v size n xs) (hk:KeptB w w' bad) (hb:∀ g off m c,v=.slice (some ⟨g,off,none⟩) m c→¬ bad g):bT w' v size n xs:=by
 obtain ⟨h0,h⟩:=h;refine ⟨h0,?_⟩
 rcases h with h | ⟨g,off,cap,h1,h2,h3,h4,h5⟩
 ·exact .inl h
 ·exact .inr ⟨g,off,cap,h1,h2,h3,Nat.lt_of_lt_of_le h4 hk.b0.size,fun i hi=>by rw [aB hk (off+i) h4 (hb g off n cap h1)];exact h5 i hi⟩
structure PS (w:World) (gp gm:Nat) (wv:Value) (ws:Ws) (d e:Int):Prop where
 bd:BlkAt w gp [wv,.map (some gm),.int .i64 d,errC e]
 row:bT w wv 1 ws.length (ws.map Value.string)
 far:∀ g off m c,wv=.slice (some ⟨g,off,none⟩) m c→g < gp
 sg:oL w gm sgL
 lt:gm < gp
 e0:e≠0→ws=[]
 few:ws.length≤100
theorem PS.ne {w:World} {gp gm:Nat} {wv:Value} {ws:Ws} {d e:Int} (h:PS w gp gm wv ws d e):gm≠gp:=Nat.ne_of_lt h.lt
theorem ow {w w':World} {gp gm:Nat} {wv:Value} {ws:Ws} {d e:Int} {bad:Nat→Prop} (h:PS w gp gm wv ws d e) (hk:KeptB w w' bad) (hb:∀ k,bad k→gp < k):PS w' gp gm wv ws d e :=
 ⟨aI h.bd hk (fun e9=>by have:=hb _ e9;omega),cf h.row hk (fun g off m c e9 e8=>by have:=hb _ e8;have:=h.far g off m c e9;omega),h.far,fo h.sg hk (fun e9=>by have:=hb _ e9;have:=h.lt;omega),h.lt,h.e0,h.few⟩
theorem bz {w w':World} {gp gm:Nat} {wv:Value} {ws:Ws} {d e:Int} (h:PS w gp gm wv ws d e) (hb:Below w.heap.size w w'):PS w' gp gm wv ws d e :=
 ⟨ai h.bd hb h.bd.lt,aA h.row hb,h.far,fo (bad:=fun _=>False) h.sg (ae hb) id,h.lt,h.e0,h.few⟩
theorem nu {w:World} {gp gm:Nat} {wv:Value} {ws:Ws} {d e:Int} (h:PS w gp gm wv ws d e) (k:Nat) (u:Value) {wv':Value} {ws':Ws} {d' e':Int}
  (hb:BlkAt (w.setCell ⟨gp,k,none⟩ u) gp [wv',.map (some gm),.int .i64 d',errC e']) (hr:bT w wv' 1 ws'.length (ws'.map Value.string)) (hf:∀ g off m c,wv'=.slice (some ⟨g,off,none⟩) m c→g < gp) (he:e'≠0→ws'=[]) (hl:ws'.length≤100) :
  PS (w.setCell ⟨gp,k,none⟩ u) gp gm wv' ws' d' e'∧KeptB w (w.setCell ⟨gp,k,none⟩ u) (fun q=>q=gp):=by
 have ks:KeptB w (w.setCell ⟨gp,k,none⟩ u) (fun q=>q=gp):=ah (ae (bad:=fun q=>q=gp) (Below.refl w.heap.size w)) rfl k u;exact ⟨⟨hb,cf hr ks (fun g off m c e9 e8=>by have:=hf g off m c e9;omega),hf,fo h.sg ks h.ne,h.lt,he,hl⟩,ks⟩
theorem nF {w:World} {v:Value} {x:ByteArray} {ws:Ws} (h:bT w v 1 (x :: ws).length ((x :: ws).map Value.string)):∃ g off cap,v=.slice (some ⟨g,off,none⟩) (ws.length+1) cap∧ws.length+1≤cap∧cap≤maxLen∧g < w.heap.size∧w.cell? ⟨g,off,none⟩=some (.string x)∧bT w (.slice (some ⟨g,off+1,none⟩) ws.length (cap - 1)) 1 ws.length (ws.map Value.string):=by
 obtain ⟨h0,h⟩:=h
 rcases h with ⟨-,h⟩ | ⟨g,off,cap,h1,h2,h3,h4,h5⟩
 ·simp at h
 ·simp only [List.length_cons] at h1 h2;refine ⟨g,off,cap,h1,h2,h3,h4,?_,by simp,.inr ⟨g,off+1,cap - 1,rfl,by omega,by omega,h4,fun j hj=>?_⟩⟩
  ·have:=h5 0 (by simp)
   simpa using this
  ·have:=h5 (j+1) (by simp;omega)
   rw [show off+1+j=off+(j+1) from by omega,this]
   simp
theorem tl_same (a:ByteArray):(a.toList == a.toList)=true:=by simp
theorem mO {a b:ByteArray} (h:a≠b):(a.toList == b.toList)=false:=by
 rw [beq_eq_false_iff_ne];intro e
 apply h
 rw [Lib.toList_data,Lib.toList_data] at e;cases a;cases b;simp at e;rw [e]
def oP (e c:Int):Int:=if e=0 then c else e
theorem mP (c:Int):oP 0 c=c:=rfl
theorem gZ {e:Int} (h:e≠0) (c:Int):oP e c=e:=by unfold oP;rw [if_neg h]
def hdW (ws:Ws):ByteArray:=match ws with
 | []=>⟨#[]⟩
 | x :: _=>x
theorem iF (gp gm:Nat) (wv:Value) (ws:Ws) (d e:Int) (w:World) (h:PS w gp gm wv ws d e) :
  Calls Tryz.prog 147 #[.pointer (some ⟨gp,0,none⟩)] w fun r w'=>r=.returned (.string (hdW ws))∧Below w.heap.size w w':=by
 have c0:w.cell? ⟨gp,0,none⟩=some wv:=h.bd.c 0 (by simp);cases ws with
 | nil =>
  obtain ⟨ao,cap,rfl⟩:=aq h.row;clear h
  go_enter Tryz.func147,Tryz.ntmps147
  go_wp2_with fail
  go_ret
  exact ⟨rfl,Below.refl _ _⟩
 | cons x ws =>
  obtain ⟨g,off,cap,rfl,h1,h2,h3,h4,h5⟩:=nF h.row;have hf:=h.few;have hn:(((ws.length:Int)+1) == 0)=false:=by simp;omega
  have hn2:(0:Int) < (ws.length:Int)+1:=by omega
  unfold maxLen at h2;clear h h5
  go_enter Tryz.func147,Tryz.ntmps147
  go_wp2_with fail
  go_ret
  exact ⟨rfl,Below.refl _ _⟩
theorem kx (gp gm:Nat) (wv:Value) (x:ByteArray) (ws:Ws) (d e:Int) (w:World) (h:PS w gp gm wv (x :: ws) d e) :
  Calls Tryz.prog 148 #[.pointer (some ⟨gp,0,none⟩)] w fun r w'=>r=.returned (.tuple #[])∧KeptB w w' (fun q=>q=gp)∧∃ wv',PS w' gp gm wv' ws d e:=by
 have c0:w.cell? ⟨gp,0,none⟩=some wv:=h.bd.c 0 (by simp);obtain ⟨g,off,cap,rfl,h1,h2,h3,h4,h5⟩:=nF h.row;have f0:=h.bd.fz 0;have hg:g < gp:=h.far g off _ cap rfl;have he:e=0:=Classical.byContradiction fun he=>by have:=h.e0 he;cases this
 have hle:(1:Int)≤(ws.length:Int)+1:=by omega
 have hcp:(ws.length:Int)+1≤(cap:Int):=by omega
 have far2:∀ (o m c:Nat) g' off' m' c',Value.slice (some ⟨g,o,none⟩) m c=.slice (some ⟨g',off',none⟩) m' c'→g' < gp:=fun o m c g' off' m' c' hq=>by
  simp only [Value.slice.injEq,Option.some.injEq,Addr.mk.injEq] at hq;rw [← hq.1.1];exact hg
 have hfw:ws.length≤100:=by have:=h.few;simp at this;omega
 by_cases hc1:cap=1
 ·have hw0:ws=[]:=List.eq_nil_of_length_eq_zero (by omega);subst hc1 hw0;have B0:=ay h.bd 0 (.slice (some ⟨g,off,none⟩) 0 0) (by simp);have PS0:=aa (nu h 0 (.slice (some ⟨g,off,none⟩) 0 0) (ws':=[]) (d':=d) (e':=e) (by simpa using B0) ⟨rfl,.inl ⟨⟨_,_,rfl⟩,rfl⟩⟩ (far2 off 0 0) (fun h9=>absurd he h9) (by simp));clear h h5 B0 far2
  go_enter Tryz.func148,Tryz.ntmps148
  go_wp2_with fail;refine ⟨rfl,_,by simp [results],rfl,PS0.out.2,_,PS0.out.1⟩
 ·have B0:=ay h.bd 0 (.slice (some ⟨g,off+1,none⟩) ws.length (cap - 1)) (by simp);have PS0:=aa (nu h 0 (.slice (some ⟨g,off+1,none⟩) ws.length (cap - 1)) (d':=d) (e':=e) (by simpa using B0) h5 (far2 _ _ _) (fun h9=>absurd he h9) hfw);unfold maxLen at h2;have hc2:¬ (cap:Int)=1:=by omega
  have hc3:0 < cap - 1:=by omega
  clear h h5 B0 far2
  go_enter Tryz.func148,Tryz.ntmps148
  go_wp2_with fail;refine ⟨rfl,_,by simp [results],rfl,PS0.out.2,_,PS0.out.1⟩
def ol (w w':World) (gp gm:Nat) (word:ByteArray) (wv:Value) (ws:Ws) (d e:Int) (r:Ending):Prop :=
 match tk word ws with
 | some ws1=>r=.returned (.bool true)∧KeptB w w' (fun q=>q=gp)∧∃ wv',PS w' gp gm wv' ws1 d e
 | none=>r=.returned (.bool false)∧KeptB w w' (fun q=>q=gp)∧PS w' gp gm wv ws d e
theorem ku (gp gm:Nat) (word:ByteArray) (hw0:word≠⟨#[]⟩) (wv:Value) (ws:Ws) (d e:Int) (w:World) (h:PS w gp gm wv ws d e) :
  Calls Tryz.prog 109 #[.pointer (some ⟨gp,0,none⟩),.string word] w fun r w'=>ol w w' gp gm word wv ws d e r:=by
 have NX:=aa (iF gp gm wv ws d e w h);have H:=aa h;unfold ol;cases ht:tk word ws with
 | none =>
  have hne:((hdW ws).toList == word.toList)=false:=by
   cases ws with
   | nil=>exact mO (fun e9=>hw0 e9.symm)
   | cons x r =>
    simp only [tk] at ht
    by_cases e9:x=word
    ·rw [if_pos e9] at ht;cases ht
    ·exact mO e9
  clear h ht hw0;generalize hdW ws=x at *
  go_enter Tryz.func109,Tryz.ntmps109
  go_wp2_with fail;refine NX.out.mono ?_;rintro r w1 ⟨rfl,hb⟩;have HB:=aa hb;clear hb NX;go_wp2_with fail
  go_ret
  exact ⟨rfl,ae HB.out,bz H.out HB.out⟩
 | some ws1 =>
  cases ws with
  | nil=>simp [tk] at ht
  | cons x r =>
   simp only [tk] at ht
   by_cases e9:x=word
   ·rw [if_pos e9] at ht;cases ht;subst e9;have hx:hdW (x :: ws1)=x:=rfl;rw [hx] at NX;have hne:(x.toList == x.toList)=true:=tl_same x;clear h hx hw0
    go_enter Tryz.func109,Tryz.ntmps109
    go_wp2_with fail;refine NX.out.mono ?_;rintro r w1 ⟨rfl,hb⟩;have HB:=aa hb;have SK:=aa (kx gp gm wv x ws1 d e w1 (bz H.out hb));clear hb NX;go_wp2_with fail;refine SK.out.mono ?_;rintro r w2 ⟨rfl,hk,wv',hp⟩;have HK:=aa hk;have HP:=aa hp;clear hk hp SK;go_wp2_with fail
    go_ret
    exact ⟨rfl,af (ae HB.out) HK.out,wv',HP.out⟩
   ·rw [if_neg e9] at ht;cases ht
theorem fL (gp gm:Nat) (c:Int) (hc:0 < c) (wv:Value) (ws:Ws) (d e:Int) (w:World) (h:PS w gp gm wv ws d e) :
  Calls Tryz.prog 112 #[.pointer (some ⟨gp,0,none⟩),.iface 93 (.int .i64 c)] w fun r w'=>r=.returned (.tuple #[])∧KeptB w w' (fun q=>q=gp)∧PS w' gp gm (.slice none 0 0) [] d (oP e c):=by
 have c3:w.cell? ⟨gp,3,none⟩=some (errC e):=h.bd.c 3 (by simp);have c0:w.cell? ⟨gp,0,none⟩=some wv:=h.bd.c 0 (by simp);have f3:=h.bd.fz 3;have f0:=h.bd.fz 0;have nilrow:∀ w:World,bT w (.slice none 0 0) 1 ([]:Ws).length (([]:Ws).map Value.string):=fun w=>⟨rfl,.inl ⟨⟨_,_,rfl⟩,rfl⟩⟩
 have nofar:∀ g off m c',Value.slice none 0 0=.slice (some ⟨g,off,none⟩) m c'→g < gp:=fun g off m c' hq=>by simp at hq
 by_cases he:e=0
 ·subst he;have ec:errC 0=.nilIface:=rfl;rw [ec] at c3;have B3:=ay h.bd 3 (.iface 93 (.int .i64 c)) (by simp);have c0b:(w.setCell ⟨gp,3,none⟩ (.iface 93 (.int .i64 c))).cell? ⟨gp,0,none⟩=some wv:=B3.c 0 (by simp);have f0b:=B3.fz 0;have B0:=ay B3 0 (.slice none 0 0) (by simp);have cne:errC c=.iface 93 (.int .i64 c):=by unfold errC;rw [if_neg (by omega)]
  have ks:KeptB w ((w.setCell ⟨gp,3,none⟩ (.iface 93 (.int .i64 c))).setCell ⟨gp,0,none⟩ (.slice none 0 0)) (fun q=>q=gp):=ah (ah (ae (bad:=fun q=>q=gp) (Below.refl w.heap.size w)) rfl 3 _) rfl 0 _;have P0:Hid (PS ((w.setCell ⟨gp,3,none⟩ (.iface 93 (.int .i64 c))).setCell ⟨gp,0,none⟩ (.slice none 0 0)) gp gm (.slice none 0 0) [] d c):=by
   refine ⟨?_,nilrow _,nofar,fo h.sg ks h.ne,h.lt,fun _=>rfl,by simp⟩;rw [cne]
   simpa using B0
  have KS:=aa ks;clear h B3 B0 ks cne ec
  go_enter Tryz.func112,Tryz.ntmps112
  go_wp2_with fail;refine ⟨rfl,_,by simp [results],rfl,KS.out,by rw [mP];exact P0.out⟩
 ·have ec:errC e=.iface 93 (.int .i64 e):=by unfold errC;rw [if_neg he]
  rw [ec] at c3;have B0:=ay h.bd 0 (.slice none 0 0) (by simp);have P0:=aa (nu h 0 (.slice none 0 0) (ws':=[]) (d':=d) (e':=e) (by simpa using B0) (nilrow _) nofar (fun _=>rfl) (by simp));have HE:=aa he;clear h B0 ec he
  go_enter Tryz.func112,Tryz.ntmps112
  go_wp2_with fail;refine ⟨rfl,_,by simp [results],rfl,P0.out.2,by rw [gZ HE.out];exact P0.out.1⟩
theorem nl (gp gm:Nat) (word:ByteArray) (hw0:word≠⟨#[]⟩) (wv:Value) (ws:Ws) (d e:Int) (w:World) (h:PS w gp gm wv ws d e) :
  Calls Tryz.prog 107 #[.pointer (some ⟨gp,0,none⟩),.string word] w fun r w'=>r=.returned (.tuple #[])∧KeptB w w' (fun q=>q=gp)∧∃ wv',match tk word ws with
   | some ws1=>PS w' gp gm wv' ws1 d e
   | none=>PS w' gp gm wv' [] d (oP e 4):=by
 have TK:=ku gp gm word hw0 wv ws d e w h;unfold ol at TK;clear h;cases ht:tk word ws with
 | some ws1 =>
  rw [ht] at TK;have TK:=aa TK
  go_enter Tryz.func107,Tryz.ntmps107
  go_wp2_with fail;refine TK.out.mono ?_;rintro r w1 ⟨rfl,hk,wv',hp⟩;have HK:=aa hk;have HP:=aa hp;clear hk hp TK;go_wp2_with fail;refine ⟨rfl,_,by simp [results],rfl,HK.out,wv',HP.out⟩
 | none =>
  rw [ht] at TK;have TK:=aa TK
  go_enter Tryz.func107,Tryz.ntmps107
  go_wp2_with fail;refine TK.out.mono ?_;rintro r w1 ⟨rfl,hk,hp⟩;have HK:=aa hk;have FL:=aa (fL gp gm 4 (by decide) wv ws d e w1 hp);clear hk hp TK;go_wp2_with fail;refine FL.out.mono ?_;rintro r w2 ⟨rfl,hk,hp⟩;have HK2:=aa hk;have HP:=aa hp;clear hk hp FL;go_wp2_with fail;refine ⟨rfl,_,by simp [results],rfl,af HK.out HK2.out,_,HP.out⟩
def lead:Code→Option Nat
 | .region id _ _=>some id
 | .seq a _=>lead a
 | .cond _ a _=>lead a
 | .block _ b=>lead b
 | .loop b=>lead b
 | .scope b=>lead b
 | _=>none
def stm (n:Nat):Code→Option Code
 | .seq a b=>(stm n a).or (stm n b)
 | .region id ops d=>if id=n then some (.region id ops d) else none
 | .cond c a b=>if lead a=some n then some (.cond c a b) else (stm n a).or (stm n b)
 | .block i b=>if lead b=some n then some (.block i b) else stm n b
 | .loop b=>if lead b=some n then some (.loop b) else stm n b
 | .scope b=>if lead b=some n then some (.scope b) else stm n b
 | _=>none
def rgn (n:Nat):Code→Option Code
 | .region id ops d=>if id=n then some (.region id ops d) else none
 | .seq a b=>(rgn n a).or (rgn n b)
 | .cond _ a b=>(rgn n a).or (rgn n b)
 | .block _ b=>rgn n b
 | .loop b=>rgn n b
 | .scope b=>rgn n b
 | _=>none
theorem aP {next:Act→World→Prop} {Q:Exit→Act→World→Prop} {a:Act} {w:World} (h:next a w):Exit.then next Q .normal a w:=h
theorem in_normal {Q:Exit→Act→World→Prop} {id:Nat} {a:Act} {w:World} (h:Q .normal a w):Exit.inBlock id Q .normal a w:=h
theorem lz {K:Act→World→Prop} {Q:Exit→Act→World→Prop} {id:Nat} {a:Act} {w:World} (h:Q (.exit id) a w):Exit.then K Q (.exit id) a w:=h
theorem in_exit {Q:Exit→Act→World→Prop} {id:Nat} {a:Act} {w:World} (h:Q .normal a w):Exit.inBlock id Q (.exit id) a w:=by
 simp only [Exit.inBlock,if_true];exact h
theorem am {t:List Value} {f:Nat→Value} {i:Nat} {v:Value} (h:t[i]?=some (f i)) (hv:t[i]?=some v):f i=v:=Option.some.inj (h.symm.trans hv)
theorem pan_put {Q:Exit→Act→World→Prop} (h:∀ c (a a':Act) w,a.defers=a'.defers→Q (.panic c) a w→Q (.panic c) a' w):∀ c (a:Act) o v w,Q (.panic c) (a.put o v) w→Q (.panic c) a w:=fun c a o v w hq=>h c _ _ w (by cases o <;> rfl) hq
theorem eX {P:Program} {fn:Func} {R:Ending→World→Prop}:∀ c (a:Act) o v w,bodyPost P fn R (.panic c) (a.put o v) w→bodyPost P fn R (.panic c) a w:=pan_put (fun c a a' w he h=>⟨he ▸ h.1,h.2⟩)
theorem bX {K:Act→World→Prop} {Q:Exit→Act→World→Prop} (h:∀ c (a:Act) o v w,Q (.panic c) (a.put o v) w→Q (.panic c) a w):∀ c (a:Act) o v w,Exit.then K Q (.panic c) (a.put o v) w→Exit.then K Q (.panic c) a w:=h
theorem pan_block {id:Nat} {Q:Exit→Act→World→Prop} (h:∀ c (a:Act) o v w,Q (.panic c) (a.put o v) w→Q (.panic c) a w):∀ c (a:Act) o v w,Exit.inBlock id Q (.panic c) (a.put o v) w→Exit.inBlock id Q (.panic c) a w:=h
theorem aj (w:World) (o:Obj):Below w.heap.size w (w.alloc o):=(Below.refl _ _).alloc (Nat.le_refl _) o
theorem az (w:World) (cs:List Value) (e:TypeId):BlkAt (w.alloc (.cells cs.toArray e)) w.heap.size cs:=by
 refine ⟨fun j hj=>?_,fun o=>by go_simp,by simp⟩
 simp
theorem jW (g o j:Nat):(⟨g,o,none⟩:Addr).add j=⟨g,o+j,none⟩:=by unfold Addr.add;split <;> simp_all
theorem kM (n:Int) (h0:-9223372036854775808≤n) (h1:n≤9223372036854775807):IntKind.i64.wrap n=n:=by
 rw [IntKind.wrap_i64];omega
end Go.Proofs.YtcgjflamgnjhcaaGreatDoor
