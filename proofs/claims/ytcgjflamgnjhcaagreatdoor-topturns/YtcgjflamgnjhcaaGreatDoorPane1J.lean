/- Own texts in one. Conditions: as named in each. -/
import Derived.Test.YtcgjflamgnjhcaaGreatDoorSrc1J
import Derived.Test.YtcgjflamgnjhcaaGreatDoorKinJ
import Derived.OneCell
import Derived.Test.YtcgjflamgnjhcaaGreatDoorGather1
set_option linter.unusedVariables false
set_option linter.unusedSimpArgs false
set_option maxRecDepth 100000
set_option maxHeartbeats 8000000
namespace Go.Proofs.YtcgjflamgnjhcaaGreatDoor
open Go.ChangeShapes Go.WideShapes Go.ChangeAt Go.RowKit
def gi (w:World) (v:Value) (size n:Nat) (xs:List Value):Prop :=
 xs.length=n * size∧((v=.slice none 0 0∧n=0)∨∃ g off cap,v=.slice (some ⟨g,off,none⟩) n cap∧n≤cap∧cap≤maxLen∧g < w.heap.size∧∀ j,j < n * size→w.cell? ⟨g,off+j,none⟩=xs[j]?)
theorem bc {w:World} {base size n:Nat} {e:TypeId} {v:Value} {xs:List Value} (h:w.ownsRow base e size v n xs):gi w v size n xs:=by
 obtain ⟨h0,h1⟩:=h;refine ⟨h0,?_⟩
 rcases h1 with ⟨rfl,hn⟩ | ⟨g,cap,cur,rfl,hb,hg,hle,hm,hs,ht⟩
 ·exact .inl ⟨rfl,hn⟩
 ·have hsz:g < w.heap.size:=(Array.getElem?_eq_some_iff.1 hg).1;refine .inr ⟨g,0,cap,rfl,hle,hm,hsz,fun i hi=>?_⟩;have hc:=World.ownsRow.cellAt (w:=w) (base:=base) (e:=e) (size:=size) (g:=g) (n:=n) (cap:=cap) ⟨h0,.inr ⟨g,cap,cur,rfl,hb,hg,hle,hm,hs,ht⟩⟩ i hi;rw [Nat.zero_add,hc]
theorem bJ {w w':World} {size n:Nat} {v:Value} {xs:List Value} (h:gi w v size n xs) (hb:Below w.heap.size w w'):gi w' v size n xs:=by
 obtain ⟨h0,h⟩:=h;refine ⟨h0,?_⟩
 rcases h with h | ⟨g,off,cap,h1,h2,h3,h4,h5⟩
 ·exact .inl h
 ·exact .inr ⟨g,off,cap,h1,h2,h3,Nat.lt_of_lt_of_le h4 hb.size,fun i hi=>by rw [hb.cell (p:=⟨g,off+i,none⟩) h4];exact h5 i hi⟩
theorem ce {w:World} {size n:Nat} {v:Value} {xs:List Value} (h:gi w v size n xs):bT w v size n xs:=by
 obtain ⟨h0,h⟩:=h;refine ⟨h0,?_⟩
 rcases h with ⟨h1,h2⟩ | h
 ·exact .inl ⟨⟨_,_,h1⟩,h2⟩
 ·exact .inr h
theorem aF {w:World} {size n:Nat} {v:Value} {xs:List Value} (h:gi w v size n xs):∃ ao cap,v=.slice ao n cap:=aq (ce h)
theorem aM (w:World) (cs:List Value) (e:TypeId) (h:cs.length≤1000):BlkAt (w.alloc (.cells cs.toArray e)) w.heap.size cs:=by
 have ho:=World.ownsRow_lit (base:=0) (size:=1) (e:=e) w cs.toArray cs.length (Nat.zero_le _) (by show _≤2 ^ 63 - 1;omega) (by simp);refine ⟨fun j hj=>?_,fun o=>by go_simp,by simp⟩
 simp
structure Ac where
 (k n s b:Int)
def bM (a:Ac):List Value:=[.int .i64 a.k,.int .i64 a.n,.int .i64 a.s,.int .i64 a.b]
theorem bV (a:Ac):(bM a).length=4:=rfl
structure Pn where
 (st k n:Int)
 told:Bool
 ac:List Ac
 av:Value
def aG (p:Pn):List Value:=[.int .i64 p.st,.int .i64 p.k,.int .i64 p.n,p.av,.bool p.told]
def eJ (p:Pn):Value:=.agg #[.int .i64 p.st,.int .i64 p.k,.int .i64 p.n,p.av,.bool p.told]
theorem aW (p:Pn):(aG p).length=5:=rfl
def jF (w:World) (p:Pn):Prop:=gi w p.av 4 p.ac.length (rowOf bM p.ac)
theorem bp {w w':World} {p:Pn} (h:jF w p) (hb:Below w.heap.size w w'):jF w' p:=bJ h hb
structure TblR (w:World) (v:Value) (ps:List Pn):Prop where
 row:gi w v 5 ps.length (rowOf aG ps)
 acc:∀ p∈ps,jF w p
theorem d7 {w w':World} {v:Value} {ps:List Pn} (h:TblR w v ps) (hb:Below w.heap.size w w'):TblR w' v ps:=⟨bJ h.row hb,fun p hp=>bp (h.acc p hp) hb⟩
theorem infoA:(Tryz.prog.info? 192).map (fun i=>(i.zero,i.size,i.bytes))=some (some (.agg #[.int .i64 0,.int .i64 0,.int .i64 0,.int .i64 0]),4,32):=by kernel_rfl
theorem infoP:(Tryz.prog.info? 84).map (fun i=>(i.zero,i.size,i.bytes))=some (some (.agg #[.int .i64 0,.int .i64 0,.int .i64 0,.slice none 0 0,.bool false]),5,56):=by kernel_rfl
theorem eql_accs_nil (w:World) (a:Addr) (n c:Nat):(binOp .eql 82 (.slice (some a) n c) (.slice none 0 0)).run Tryz.prog w=.ok (.bool false) w:=by kernel_rfl
theorem eql_accs_nil2 (w:World):(binOp .eql 82 (.slice none 0 0) (.slice none 0 0)).run Tryz.prog w=.ok (.bool true) w:=by kernel_rfl
theorem eql_panes_nil (w:World) (a:Addr) (n c:Nat):(binOp .eql 64 (.slice (some a) n c) (.slice none 0 0)).run Tryz.prog w=.ok (.bool false) w:=by kernel_rfl
theorem eql_panes_nil2 (w:World):(binOp .eql 64 (.slice none 0 0) (.slice none 0 0)).run Tryz.prog w=.ok (.bool true) w:=by kernel_rfl
theorem cellsA_one:∀ (r:List Ac),∀ u∈rowOf bM r,u.oneCell'=true:=by
 intro r u hu;unfold rowOf at hu;rw [List.mem_flatMap] at hu;obtain ⟨e,-,h⟩:=hu;simp only [bM,List.mem_cons,List.not_mem_nil,or_false] at h
 rcases h with rfl | rfl | rfl | rfl <;> rfl
theorem fh {ps:List Pn} (hs:∀ p∈ps,∃ ao n cap,p.av=.slice ao n cap):∀ u∈rowOf aG ps,u.oneCell'=true:=by
 intro u hu;unfold rowOf at hu;rw [List.mem_flatMap] at hu;obtain ⟨e,he,h⟩:=hu;obtain ⟨ao,n,cap,hav⟩:=hs e he;simp only [aG,List.mem_cons,List.not_mem_nil,or_false,hav] at h
 rcases h with rfl | rfl | rfl | rfl | rfl <;> rfl
theorem dv {w:World} {v:Value} {ps:List Pn} (h:TblR w v ps):∀ p∈ps,∃ ao n cap,p.av=.slice ao n cap:=fun p hp=>by
 obtain ⟨ao,cap,e⟩:=aF (h.acc p hp);exact ⟨ao,_,cap,e⟩
theorem cloneA_any (r:List Ac) (v:Value) (w:World) (hl:r.length≤1000) (hr:gi w v 4 r.length (rowOf bM r)) :
  Calls Tryz.prog 141 #[v] w fun e w'=>∃ u,e=.returned u∧w'.ownsRow w.heap.size 192 4 u r.length (rowOf bM r)∧Below w.heap.size w w':=by
 obtain ⟨i0,hi,hz0,hz1,hz2⟩:=info_parts infoA;obtain ⟨h0,h1⟩:=hr
 rcases h1 with ⟨rfl,hn⟩ | ⟨g,off,cap,rfl,hle,hm,hgl,hcell⟩
 ·have en:=eql_accs_nil2
  go_enter Tryz.func141,Tryz.ntmps141
  go_wp2_with fail
  go_ret
  have:r=[]:=List.eq_nil_of_length_eq_zero hn;subst this;exact ⟨_,rfl,World.ownsRow_nil _ _ _ _,Below.refl _ _⟩
 ·have HC:=aa hcell;clear hcell h0;unfold maxLen at hm;have en:=fun w=>eql_accs_nil w ⟨g,off,none⟩ r.length cap
  have HO:Hid ((w.alloc (.cells #[] 192)).ownsRow w.heap.size 192 4 (.slice (some ⟨w.heap.size,0,none⟩) 0 0) 0 []):=by
   have h:=World.ownsRow_lit (base:=w.heap.size) (size:=4) (e:=192) w #[] 0 (Nat.le_refl _) (by decide) rfl;exact aa (by simpa using h)
  have HN:Hid (∀ j u,(rowOf bM r)[j]?=some u→(w.alloc (.cells #[] 192)).cell? ((⟨g,off,none⟩:Addr).add j)=some u):=fun j u hu=>by
   have hj:j < r.length * 4:=by
    have:=(List.getElem?_eq_some_iff.1 hu).1
    rw [bo bV] at this;exact this
   have h2:(w.alloc (.cells #[] 192)).cell? ⟨g,off+j,none⟩=w.cell? ⟨g,off+j,none⟩:=World.cell?_alloc_lt _ _ _ (by exact hgl);have h3:(⟨g,off,none⟩:Addr).add j=⟨g,off+j,none⟩:=by simp [Addr.add]
   rw [h3,h2,HC.out j hj,hu]
  have HL:=aa (bo bV r);have HOC:=aa (cellsA_one r)
  go_enter Tryz.func141,Tryz.ntmps141
  go_wp2_with (at_builtin;go_must (refine wpList_append_own _ rfl (.tmp 5) (.tmp 6) 82 rfl w.heap.size 192 i0 (.agg #[.int .i64 0,.int .i64 0,.int .i64 0,.int .i64 0]) 4 32 Tryz.underlying82 hi hz0 hz1 hz2 rfl (by decide) _ _ _ rfl HO.out ⟨g,off,none⟩ r.length cap (rowOf bM r) rfl HL.out HN.out HOC.out (by show _≤2 ^ 63 - 1;omega) (by omega) (by simp) ?_))
  intro v' w3 ho3 hg3 _;have ho4:w3.ownsRow w.heap.size 192 4 v' r.length (rowOf bM r):=by simpa using ho3
  have HO3:=aa ho4;have HB3:Hid (Below w.heap.size w w3):=((Below.refl _ _).alloc (Nat.le_refl _) _).grown hg3 (by simp) (fun k hk=>by have:=(HO.out.lt k hk).1;omega);clear ho3 hg3 ho4;obtain ⟨ao3,cap3,rfl⟩:=ax HO3.out;go_wp2_with fail
  go_ret
  exact ⟨_,rfl,HO3.out,HB3.out⟩
theorem gV (ps:List Pn) (v:Value) (w:World) (hl:ps.length≤1000) (hr:TblR w v ps) :
  Calls Tryz.prog 104 #[v] w fun e w'=>∃ u,e=.returned u∧w'.ownsRow w.heap.size 84 5 u ps.length (rowOf aG ps)∧Below w.heap.size w w':=by
 obtain ⟨i0,hi,hz0,hz1,hz2⟩:=info_parts infoP;have HOC:=aa (fh (dv hr));obtain ⟨h0,h1⟩:=hr.row;clear hr
 rcases h1 with ⟨rfl,hn⟩ | ⟨g,off,cap,rfl,hle,hm,hgl,hcell⟩
 ·have en:=eql_panes_nil2
  go_enter Tryz.func104,Tryz.ntmps104
  go_wp2_with fail
  go_ret
  have:ps=[]:=List.eq_nil_of_length_eq_zero hn;subst this;exact ⟨_,rfl,World.ownsRow_nil _ _ _ _,Below.refl _ _⟩
 ·have HC:=aa hcell;clear hcell h0;unfold maxLen at hm;have en:=fun w=>eql_panes_nil w ⟨g,off,none⟩ ps.length cap
  have HO:Hid ((w.alloc (.cells #[] 84)).ownsRow w.heap.size 84 5 (.slice (some ⟨w.heap.size,0,none⟩) 0 0) 0 []):=by
   have h:=World.ownsRow_lit (base:=w.heap.size) (size:=5) (e:=84) w #[] 0 (Nat.le_refl _) (by decide) rfl;exact aa (by simpa using h)
  have HN:Hid (∀ j u,(rowOf aG ps)[j]?=some u→(w.alloc (.cells #[] 84)).cell? ((⟨g,off,none⟩:Addr).add j)=some u):=fun j u hu=>by
   have hj:j < ps.length * 5:=by
    have:=(List.getElem?_eq_some_iff.1 hu).1
    rw [bo aW] at this;exact this
   have h2:(w.alloc (.cells #[] 84)).cell? ⟨g,off+j,none⟩=w.cell? ⟨g,off+j,none⟩:=World.cell?_alloc_lt _ _ _ (by exact hgl);have h3:(⟨g,off,none⟩:Addr).add j=⟨g,off+j,none⟩:=by simp [Addr.add]
   rw [h3,h2,HC.out j hj,hu]
  have HL:=aa (bo aW ps)
  go_enter Tryz.func104,Tryz.ntmps104
  go_wp2_with (at_builtin;go_must (refine wpList_append_own _ rfl (.tmp 5) (.tmp 6) 64 rfl w.heap.size 84 i0 (.agg #[.int .i64 0,.int .i64 0,.int .i64 0,.slice none 0 0,.bool false]) 5 56 Tryz.underlying64 hi hz0 hz1 hz2 rfl (by decide) _ _ _ rfl HO.out ⟨g,off,none⟩ ps.length cap (rowOf aG ps) rfl HL.out HN.out HOC.out (by show _≤2 ^ 63 - 1;omega) (by omega) (by simp) ?_))
  intro v' w3 ho3 hg3 _;have ho4:w3.ownsRow w.heap.size 84 5 v' ps.length (rowOf aG ps):=by simpa using ho3
  have HO3:=aa ho4;have HB3:Hid (Below w.heap.size w w3):=((Below.refl _ _).alloc (Nat.le_refl _) _).grown hg3 (by simp) (fun k hk=>by have:=(HO.out.lt k hk).1;omega);clear ho3 hg3 ho4;obtain ⟨ao3,cap3,rfl⟩:=ax HO3.out;go_wp2_with fail
  go_ret
  exact ⟨_,rfl,HO3.out,HB3.out⟩
theorem mo (p:Pn) (w:World) (hl:p.ac.length≤1000) (hr:jF w p) :
  Calls Tryz.prog 105 #[eJ p] w fun e w'=>∃ u,e=.returned (eJ { p with av:=u })∧w'.ownsRow w.heap.size 192 4 u p.ac.length (rowOf bM p.ac)∧Below w.heap.size w w':=by
 obtain ⟨st,k,n,told,ac,av⟩:=p;obtain ⟨ao,cap,hav⟩:=aF hr
 simp only at hav
 subst hav;have hA:Below w.heap.size w ((w.alloc (.cells #[.int .i64 st,.int .i64 k,.int .i64 n,.slice ao ac.length cap,.bool told] 84)).alloc (.cells #[.int .i64 0,.int .i64 0,.int .i64 0,.slice none 0 0,.bool false] 84)):=((Below.refl _ _).alloc (Nat.le_refl _) _).alloc (by simp) _;have CA:=aa (cloneA_any ac _ _ hl (bJ hr hA));have HB:=aa hA;unfold eJ
 simp only
 clear hA hr
 go_enter Tryz.func105,Tryz.ntmps105
 go_wp2_with fail;refine CA.out.mono ?_;rintro e w1 ⟨u,rfl,ho,hb⟩;have hsz:((w.alloc (.cells #[.int .i64 st,.int .i64 k,.int .i64 n,.slice ao ac.length cap,.bool told] 84)).alloc (.cells #[.int .i64 0,.int .i64 0,.int .i64 0,.slice none 0 0,.bool false] 84)).heap.size=w.heap.size+2:=by simp
 obtain ⟨ao3,cap3,rfl⟩:=ax ho;have ne0:(Value.slice ao3 ac.length cap3).ownBlock≠some w.heap.size:=fun e=>by have:=(aJ ho _ e).1;omega
 have ne1:(Value.slice ao3 ac.length cap3).ownBlock≠some (w.heap.size+1):=fun e=>by have:=(aJ ho _ e).1;omega
 have HO:=aa (aN (base':=w.heap.size) ho (by omega));have HBA:=nxt HB hb;have B0:=ai (ai (aM w [.int .i64 st,.int .i64 k,.int .i64 n,.slice ao ac.length cap,.bool told] 84 (by simp)) ((Below.refl _ _).alloc (Nat.le_refl _) (.cells #[.int .i64 0,.int .i64 0,.int .i64 0,.slice none 0 0,.bool false] 84)) (by simp)) hb (by simp;omega);have B1:=ai (aM (w.alloc (.cells #[.int .i64 st,.int .i64 k,.int .i64 n,.slice ao ac.length cap,.bool told] 84)) [.int .i64 0,.int .i64 0,.int .i64 0,.slice none 0 0,.bool false] 84 (by simp)) hb (by simp);have hw1:(w.alloc (.cells #[.int .i64 st,.int .i64 k,.int .i64 n,.slice ao ac.length cap,.bool told] 84)).heap.size=w.heap.size+1:=by simp
 rw [hw1] at B1;have S0:=ay B0 3 (.slice ao3 ac.length cap3) (by simp);have S1:=aR B1 (g':=w.heap.size) (by omega) 3 (.slice ao3 ac.length cap3);have d0:w1.cell? ⟨w.heap.size,3,none⟩=some (.slice ao ac.length cap):=B0.c 3 (by simp);have f0:=B0.fz 3;have e0:(w1.setCell ⟨w.heap.size,3,none⟩ (.slice ao3 ac.length cap3)).cell? ⟨w.heap.size,0,none⟩=some (.int .i64 st):=S0.c 0 (by simp);have e1:(w1.setCell ⟨w.heap.size,3,none⟩ (.slice ao3 ac.length cap3)).cell? ⟨w.heap.size,1,none⟩=some (.int .i64 k):=S0.c 1 (by simp);have e2:(w1.setCell ⟨w.heap.size,3,none⟩ (.slice ao3 ac.length cap3)).cell? ⟨w.heap.size,2,none⟩=some (.int .i64 n):=S0.c 2 (by simp);have e3:(w1.setCell ⟨w.heap.size,3,none⟩ (.slice ao3 ac.length cap3)).cell? ⟨w.heap.size,3,none⟩=some (.slice ao3 ac.length cap3):=S0.c 3 (by simp);have e4:(w1.setCell ⟨w.heap.size,3,none⟩ (.slice ao3 ac.length cap3)).cell? ⟨w.heap.size,4,none⟩=some (.bool told):=S0.c 4 (by simp);have g0:(w1.setCell ⟨w.heap.size,3,none⟩ (.slice ao3 ac.length cap3)).cell? ⟨w.heap.size+1,0,none⟩=some (.int .i64 0):=S1.c 0 (by simp);have g1:(w1.setCell ⟨w.heap.size,3,none⟩ (.slice ao3 ac.length cap3)).cell? ⟨w.heap.size+1,1,none⟩=some (.int .i64 0):=S1.c 1 (by simp);have g2:(w1.setCell ⟨w.heap.size,3,none⟩ (.slice ao3 ac.length cap3)).cell? ⟨w.heap.size+1,2,none⟩=some (.int .i64 0):=S1.c 2 (by simp);have g3:(w1.setCell ⟨w.heap.size,3,none⟩ (.slice ao3 ac.length cap3)).cell? ⟨w.heap.size+1,3,none⟩=some (.slice none 0 0):=S1.c 3 (by simp);have g4:(w1.setCell ⟨w.heap.size,3,none⟩ (.slice ao3 ac.length cap3)).cell? ⟨w.heap.size+1,4,none⟩=some (.bool false):=S1.c 4 (by simp);have z:=S1.fz;have z0:=z 0;have z1:=z 1;have z2:=z 2;have z3:=z 3;have z4:=z 4;have NE:=aa (And.intro ne0 ne1);have FIN:=aa (ownsRow_setCell_other HO.out (a:=⟨w.heap.size,3,none⟩) ne0 (.slice ao3 ac.length cap3));have HBF:=aa (HBA.out.setCell (p:=⟨w.heap.size,3,none⟩) (Nat.le_refl _) (.slice ao3 ac.length cap3));clear ho hb hsz ne0 ne1 B0 B1 hw1 S0 S1 z HBA HO;go_wp2_with fail;refine bodyPost_ret (v:=.agg #[.int .i64 st,.int .i64 k,.int .i64 n,.slice ao3 ac.length cap3,.bool told]) (by simp [results,Tryz.results105,go_sem,g0,g1,g2,g3,g4]) rfl ⟨.slice ao3 ac.length cap3,rfl,?_,?_⟩
 ·iterate 5 (refine ownsRow_setCell_other ?_ NE.out.2 _)
  exact FIN.out
 ·iterate 5 (refine Below.setCell ?_ (by first | (simp;done) | (simp;omega)) _)
  exact HBF.out
theorem nc (p:Pn) (size upto:Int) (w:World) (h1:-100000≤p.st) (h2:p.st≤100000) (h3:1≤size) (h4:size≤100000) (hs:∃ ao n cap,p.av=.slice ao n cap) :
  Calls Tryz.prog 128 #[eJ p,.int .i64 size,.int .i64 upto] w fun e w'=>e=.returned (.bool (decide (p.st+size≤upto)))∧Below w.heap.size w w':=by
 obtain ⟨st,k,n,told,ac,av⟩:=p;obtain ⟨ao,m,cap,rfl⟩:=hs;unfold eJ
 simp only at h1 h2 ⊢
 have d1:decide (0 < size)=true:=by simp;omega
 have d2:decide (st+size < st)=false:=by simp;omega
 have d3:decide (size < 0)=false:=by simp;omega
 generalize hr:decide (st+size≤upto)=r
 go_enter Tryz.func128,Tryz.ntmps128
 go_wp2_with fail
 go_ret
 exact ⟨rfl,(Below.refl _ _).alloc (Nat.le_refl _) _⟩
theorem b7 {w:World} {base g n cap size:Nat} {e:TypeId} {xs:List Value} (h:w.ownsRow base e size (.slice (some ⟨g,0,none⟩) n cap) n xs) (p:Nat) (u:Value) :
  (w.setCell ⟨g,p,none⟩ u).ownsRow base e size (.slice (some ⟨g,0,none⟩) n cap) n (xs.set p u):=by
 obtain ⟨h0,h1⟩:=h;refine ⟨by simpa using h0,?_⟩
 rcases h1 with ⟨e1,-⟩ | ⟨g',cap',cur,e1,hb,hg,hle,hm,hs,ht⟩
 ·cases e1
 ·simp only [Value.slice.injEq,Option.some.injEq,Addr.mk.injEq,and_true,true_and] at e1;obtain ⟨rfl,rfl⟩:=e1;refine .inr ⟨g,cap,cur.setIfInBounds p u,rfl,hb,?_,hle,hm,by simpa using hs,?_⟩
  ·simp [World.setCell,Array.getElem?_modify,hg]
  ·rw [← ht,Array.toList_setIfInBounds,List.take_set]
theorem aQ {w:World} {base g n cap size:Nat} {e:TypeId} {xs:List Value} (h:w.ownsRow base e size (.slice (some ⟨g,0,none⟩) n cap) n xs) (o:Nat):w.frozen? ⟨g,o,none⟩=false:=by
 obtain ⟨h0,h1⟩:=h
 rcases h1 with ⟨e1,-⟩ | ⟨g',cap',cur,e1,hb,hg,hle,hm,hs,ht⟩
 ·cases e1
 ·simp only [Value.slice.injEq,Option.some.injEq,Addr.mk.injEq,and_true,true_and] at e1;obtain ⟨rfl,rfl⟩:=e1
  simp [World.frozen?,hg]
theorem fM {w:World} {base n size:Nat} {e:TypeId} {v:Value} {xs:List Value} (h:w.ownsRow base e size v n xs) (h0:0 < n):∃ g cap,v=.slice (some ⟨g,0,none⟩) n cap∧base≤g∧g < w.heap.size∧n≤cap∧cap≤maxLen:=by
 rcases h.2 with ⟨-,hn⟩ | ⟨g,cap,cur,rfl,hb,hg,hle,hm,-⟩
 ·omega
 ·exact ⟨g,cap,rfl,hb,(Array.getElem?_eq_some_iff.1 hg).1,hle,hm⟩
section
variable {α:Type} {S:Nat} {f:α→List Value}
theorem ed (l:List α) (i:Nat) (hi:i < l.length):rowOf f l=rowOf f (l.take i)++(f l[i]++rowOf f (l.drop (i+1))):=by
 rw [← bQ,← cQ,← List.drop_eq_getElem_cons hi,List.take_append_drop]
theorem cE (l:List α) (i:Nat) (a:α) (hi:i < l.length):rowOf f (l.set i a)=rowOf f (l.take i)++(f a++rowOf f (l.drop (i+1))):=by
 rw [List.set_eq_take_append_cons_drop,if_pos hi,cQ,bQ]
theorem iB (hf:∀ a,(f a).length=S) (l:List α) (i:Nat) (hi:i < l.length):(rowOf f (l.take i)).length=i * S:=by
 rw [bo hf,List.length_take,Nat.min_eq_left (by omega)]
end
theorem set_two {A B:List Value} {x0 x1 u0 u1:Value} {k:Nat} (h:A.length=k):((A++([x0,x1]++B)).set k u0).set (k+1) u1=A++([u0,u1]++B):=by
 subst h;rw [List.set_append_right _ _ (Nat.le_refl _),List.set_append_right _ _ (by omega),Nat.sub_self,show A.length+1 - A.length=1 from by omega]
 rfl
theorem set_four {A B:List Value} {x0 x1 x2 x3 u0 u1 u2 u3:Value} {k:Nat} (h:A.length=k):((((A++([x0,x1,x2,x3]++B)).set k u0).set (k+1) u1).set (k+2) u2).set (k+3) u3=A++([u0,u1,u2,u3]++B):=by
 subst h;rw [List.set_append_right _ _ (Nat.le_refl _),List.set_append_right _ _ (by omega),List.set_append_right _ _ (by omega),List.set_append_right _ _ (by omega),Nat.sub_self,show A.length+1 - A.length=1 from by omega,show A.length+2 - A.length=2 from by omega,show A.length+3 - A.length=3 from by omega]
 rfl
theorem jP (p:V2):(ex p).length=2:=rfl
theorem o0 (l:List V2):cB l=rowOf ex l:=rfl
theorem mM (l:List V2) (i:Nat) (a:V2) (hi:i < l.length):((cB l).set (i * 2) (.int .i64 a.1)).set (i * 2+1) (.int .i64 a.2)=cB (l.set i a):=by
 rw [o0,o0,ed l i hi,cE l i a hi];exact set_two (iB jP l i hi)
theorem mz (l:List Ac) (i:Nat) (a:Ac) (hi:i < l.length):((((rowOf bM l).set (i * 4) (.int .i64 a.k)).set (i * 4+1) (.int .i64 a.n)).set (i * 4+2) (.int .i64 a.s)).set (i * 4+3) (.int .i64 a.b)=rowOf bM (l.set i a):=by
 rw [ed l i hi,cE l i a hi];exact set_four (iB bV l i hi)
def acV (a:Ac):V2:=gval a.k (a.n,a.s,a.b)
theorem infoVv:(Tryz.prog.info? 41).map (fun i=>(i.zero,i.size,i.bytes))=some (some (.agg #[.int .i64 0,.int .i64 0]),2,16):=by kernel_rfl
theorem jy (z:Array Value) (c:Value) (hz:∀ i,i < z.size→z[i]! = c) (h0:0 < z.size) (n:Nat):(madeCells z n).toList=List.replicate n c:=by
 rw [List.eq_replicate_iff];refine ⟨by simp [madeCells],fun b hb=>?_⟩;simp only [madeCells,Array.toList_map,List.mem_map] at hb;obtain ⟨i,-,rfl⟩:=hb;exact hz _ (Nat.mod_lt _ h0)
theorem lX (n:Nat):(madeCells #[Value.int .i64 0,Value.int .i64 0] (n * 2)).toList=cB (List.replicate n (0,0)):=by
 rw [jy _ (.int .i64 0) (fun i hi=>by
  have:i < 2:=hi
  rcases (by omega:i=0∨i=1) with rfl | rfl <;> rfl) (by decide)]
 symm
 rw [List.eq_replicate_iff];refine ⟨by rw [kC];simp,fun b hb=>?_⟩;unfold cB at hb;rw [List.mem_flatMap] at hb;obtain ⟨q,hq,hb⟩:=hb;rw [List.eq_of_mem_replicate hq] at hb
 simpa [ex] using hb
theorem made_accs (n:Nat):(madeCells #[Value.int .i64 0,Value.int .i64 0,Value.int .i64 0,Value.int .i64 0] (n * 4)).toList=rowOf bM (List.replicate n ⟨0,0,0,0⟩):=by
 rw [jy _ (.int .i64 0) (fun i hi=>by
  have:i < 4:=hi
  rcases (by omega:i=0∨i=1∨i=2∨i=3) with rfl | rfl | rfl | rfl <;> rfl) (by decide)]
 symm
 rw [List.eq_replicate_iff];refine ⟨by rw [bo bV];simp,fun b hb=>?_⟩;unfold rowOf at hb;rw [List.mem_flatMap] at hb;obtain ⟨q,hq,hb⟩:=hb;rw [List.eq_of_mem_replicate hq] at hb
 simpa [bM] using hb
theorem vals_ext {L M:List V2} (h:L.length=M.length) (hk:∀ j,j < L.length→L[j]?=M[j]?):L=M:=List.ext_getElem? fun i=>by
 by_cases hi:i < L.length
 ·exact hk i hi
 ·rw [List.getElem?_eq_none (by omega),List.getElem?_eq_none (by omega)]
theorem mr (p:Pn) (w:World) (hl:p.ac.length≤100) (hr:jF w p) (hk:∀ a∈p.ac,1≤a.k∧a.k≤5) :
  Calls Tryz.prog 92 #[eJ p] w fun e w'=>∃ u,e=.returned (.agg #[.int .i64 p.st,.int .i64 p.k,.int .i64 p.n,u])∧w'.ownsRow w.heap.size 41 2 u p.ac.length (cB (p.ac.map acV))∧Below w.heap.size w w':=by
 obtain ⟨i0,hi,hz0,hz1,hz2⟩:=info_parts infoVv;obtain ⟨st,k,n,told,ac,av⟩:=p;obtain ⟨ao,cap,hav⟩:=aF hr
 simp only at hav hl hk
 subst hav;unfold eJ
 simp only
 go_enter Tryz.func92,Tryz.ntmps92
 go_wp2_with (at_make;go_must (refine wpList_make_full _ rfl _ _ 76 rfl w.heap.size 41 i0 (.agg #[.int .i64 0,.int .i64 0]) 2 Tryz.underlying76 hi hz0 hz1 .i64 .i64 _ _ ac.length rfl rfl rfl rfl (by rw [hz2];omega) (by show _≤2 ^ 63 - 1;omega) (by simp;omega) ?_))
 intro w1 ho hg;have hsz:((w.alloc (.cells #[.int .i64 st,.int .i64 k,.int .i64 n,.slice ao ac.length cap,.bool told] 84)).alloc (.cells #[.int .i64 0,.int .i64 0,.int .i64 0,.slice none 0 0] 78)).heap.size=w.heap.size+2:=by simp
 have hb1:Below ((w.alloc (.cells #[.int .i64 st,.int .i64 k,.int .i64 n,.slice ao ac.length cap,.bool told] 84)).alloc (.cells #[.int .i64 0,.int .i64 0,.int .i64 0,.slice none 0 0] 78)).heap.size ((w.alloc (.cells #[.int .i64 st,.int .i64 k,.int .i64 n,.slice ao ac.length cap,.bool told] 84)).alloc (.cells #[.int .i64 0,.int .i64 0,.int .i64 0,.slice none 0 0] 78)) w1:=(Below.refl _ _).grown hg (Nat.le_refl _) (fun k hk=>by cases hk);have B0:=aa (ai (ai (aM w [.int .i64 st,.int .i64 k,.int .i64 n,.slice ao ac.length cap,.bool told] 84 (by simp)) ((Below.refl _ _).alloc (Nat.le_refl _) (.cells #[.int .i64 0,.int .i64 0,.int .i64 0,.slice none 0 0] 78)) (by simp)) hb1 (by simp;omega));have B1:=aa (ai (aM (w.alloc (.cells #[.int .i64 st,.int .i64 k,.int .i64 n,.slice ao ac.length cap,.bool told] 84)) [.int .i64 0,.int .i64 0,.int .i64 0,.slice none 0 0] 78 (by simp)) hb1 (by simp));rw [show (w.alloc (.cells #[.int .i64 st,.int .i64 k,.int .i64 n,.slice ao ac.length cap,.bool told] 84)).heap.size=w.heap.size+1 from by simp] at B1;have HB:Hid (Below w.heap.size w w1):=(((Below.refl w.heap.size w).alloc (Nat.le_refl _) _).alloc (by simp) _).trans (hb1.mono (by omega));have ho':w1.ownsRow w.heap.size 41 2 (.slice (some ⟨w.heap.size+1+1,0,none⟩) ac.length ac.length) ac.length (cB (List.replicate ac.length (0,0))):=by
  rw [← lX];exact ho
 have HO:=aa ho';have HR:=aa hr;have HK:=aa hk;clear hb1 hsz ho ho' hg hr hk;have c3:w1.cell? ⟨w.heap.size,3,none⟩=some (.slice ao ac.length cap):=B0.out.c 3 (by simp);go_wp2_with fail;clear c3
 go_loopw [13] (fun i wr=>∃ (m:Nat) (L:List V2),m≤ac.length∧L.length=ac.length∧i=.int .i64 m∧Hid (∀ j,j < m→L[j]?=(ac.map acV)[j]?)∧Hid (wr.ownsRow w.heap.size 41 2 (.slice (some ⟨w.heap.size+1+1,0,none⟩) ac.length ac.length) ac.length (cB L))∧Hid (BlkAt wr w.heap.size [.int .i64 st,.int .i64 k,.int .i64 n,.slice ao ac.length cap,.bool told])∧Hid (BlkAt wr (w.heap.size+1) [.int .i64 0,.int .i64 0,.int .i64 0,.slice none 0 0])∧Hid (Below w.heap.size w wr)) (fun i _=>ac.length - (intOf i).toNat)
 case atStart=>exact ⟨0,List.replicate ac.length (0,0),Nat.zero_le _,by simp,rfl,fun j hj=>absurd hj (by omega),HO,B0,B1,HB⟩
 case round =>
  clear HO B0 B1 HB;obtain ⟨m,L,hm,hL,rfl,HM,HO,B0,B1,HB⟩:=hrel
  by_cases hlt:m < ac.length
  ·obtain ⟨g,off,rfl,hcell,q1,q2,q3⟩:=bA bV (ce (bJ HR.out HB.out)) m hlt;have hkm:=HK.out ac[m] (List.getElem_mem hlt);have HAV:Hid ((ac.map acV)[m]?=some (acV ac[m])):=by
    show _=_
    rw [List.getElem?_map,List.getElem?_eq_getElem hlt]
    rfl
   generalize ac[m]=a at *;obtain ⟨a1,a2,a3,a4⟩:=a;have x0:wr.cell? ⟨g,off+m * 4,none⟩=some (.int .i64 a1):=hcell 0 (by omega);have x1:wr.cell? ⟨g,off+m * 4+1,none⟩=some (.int .i64 a2):=hcell 1 (by omega);have x2:wr.cell? ⟨g,off+m * 4+2,none⟩=some (.int .i64 a3):=hcell 2 (by omega);have x3:wr.cell? ⟨g,off+m * 4+3,none⟩=some (.int .i64 a4):=hcell 3 (by omega);clear hcell;unfold maxLen at q2;have GV:=aa (fun w=>gvalue_any a1 a2 a3 a4 w hkm.1 hkm.2);have eV:acV ⟨a1,a2,a3,a4⟩=gval a1 (a2,a3,a4):=rfl;rw [eV] at HAV;generalize gval a1 (a2,a3,a4)=V at *;obtain ⟨V1,V2⟩:=V;clear eV;have hA:=(Below.refl wr.heap.size wr).alloc (Nat.le_refl _) (.cells #[.int .i64 a1,.int .i64 a2,.int .i64 a3,.int .i64 a4] 192);go_wp2_with fail;refine (GV.out _).mono ?_;rintro e w2 ⟨rfl,hb⟩;have hb2:Below wr.heap.size wr w2:=hA.trans (hb.mono hA.size);have HO2:=aa (aC HO.out hb2 (Nat.le_refl _));have B02:=aa (ai B0.out hb2 B0.out.lt);have B12:=aa (ai B1.out hb2 B1.out.lt);have HB2:=nxt HB hb2;clear hA hb hb2 HO B0 B1 HB x0 x1 x2 x3;have y0:=HO2.out.cellAt (m * 2) (by omega);have y1:=HO2.out.cellAt (m * 2+1) (by omega);have hrl:(cB L).length=ac.length * 2:=by rw [kC,hL]
   rw [List.getElem?_eq_getElem (by omega)] at y0 y1;generalize (cB L)[m * 2]=r0 at y0;generalize (cB L)[m * 2+1]=r1 at y1;have z0:=aQ HO2.out (m * 2);have z1:=aQ HO2.out (m * 2+1);have HO3:=aa (b7 (b7 HO2.out (m * 2) (.int .i64 V1)) (m * 2+1) (.int .i64 V2));rw [mM L m (V1,V2) (by omega)] at HO3;have B03:=aa (aR (aR B02.out (g':=w.heap.size+1+1) (by omega) (m * 2) (.int .i64 V1)) (g':=w.heap.size+1+1) (by omega) (m * 2+1) (.int .i64 V2));have B13:=aa (aR (aR B12.out (g':=w.heap.size+1+1) (by omega) (m * 2) (.int .i64 V1)) (g':=w.heap.size+1+1) (by omega) (m * 2+1) (.int .i64 V2));have HB3:=aa ((HB2.out.setCell (p:=⟨w.heap.size+1+1,m * 2,none⟩) (by simp;omega) (.int .i64 V1)).setCell (p:=⟨w.heap.size+1+1,m * 2+1,none⟩) (by simp;omega) (.int .i64 V2));have HLL:=aa hL;clear hrl HO2 B02 B12 HB2 hL;go_wp2_with fail;go_roundw
   case rel=>exact ⟨m+1,L.set m (V1,V2),by omega,by simpa using HLL.out,by go_num,fun j hj=>by
     by_cases h9:j=m
     ·subst h9;rw [HAV.out,List.getElem?_set]
      simp [HLL.out,hlt]
     ·rw [List.getElem?_set,if_neg (fun e=>h9 e.symm)];exact HM.out j (by omega),HO3,B03,B13,HB3⟩
   case measure=>simp [intOf];omega
  ·have hme:m=ac.length:=by omega
   subst hme;have HLe:Hid (L=ac.map acV):=vals_ext (by simp [hL]) (fun j hj=>HM.out j (by omega));have d0:wr.cell? ⟨w.heap.size,0,none⟩=some (.int .i64 st):=B0.out.c 0 (by simp);have d1:wr.cell? ⟨w.heap.size,1,none⟩=some (.int .i64 k):=B0.out.c 1 (by simp);have d2:wr.cell? ⟨w.heap.size,2,none⟩=some (.int .i64 n):=B0.out.c 2 (by simp);have g0:wr.cell? ⟨w.heap.size+1,0,none⟩=some (.int .i64 0):=B1.out.c 0 (by simp);have g1:wr.cell? ⟨w.heap.size+1,1,none⟩=some (.int .i64 0):=B1.out.c 1 (by simp);have g2:wr.cell? ⟨w.heap.size+1,2,none⟩=some (.int .i64 0):=B1.out.c 2 (by simp);have g3:wr.cell? ⟨w.heap.size+1,3,none⟩=some (.slice none 0 0):=B1.out.c 3 (by simp);have z:=B1.out.fz;have z0:=z 0;have z1:=z 1;have z2:=z 2;have z3:=z 3;have NE:Hid ((Value.slice (some ⟨w.heap.size+1+1,0,none⟩) ac.length ac.length).ownBlock≠some (w.heap.size+1)):=by
    show _≠_
    simp [Value.ownBlock]
   rw [HLe.out] at HO;clear z hL HLe;go_wp2_with fail;refine bodyPost_ret (v:=.agg #[.int .i64 st,.int .i64 k,.int .i64 n,.slice (some ⟨w.heap.size+1+1,0,none⟩) ac.length ac.length]) (by simp [results,Tryz.results92,go_sem,g0,g1,g2,g3]) rfl ⟨_,rfl,?_,?_⟩
   ·iterate 4 (refine ownsRow_setCell_other ?_ NE.out _)
    exact HO.out
   ·iterate 4 (refine Below.setCell ?_ (by first | (simp;done) | (simp;omega)) _)
    exact HB.out
end Go.Proofs.YtcgjflamgnjhcaaGreatDoor
