/- Own texts in one. Conditions: as named in each. -/
import Derived.Test.YtcgjflamgnjhcaaGreatDoorPane3J
import Derived.Lib.AppendZeros
import Derived.Laws.AppendOwnNone
set_option linter.unusedVariables false
set_option linter.unusedSimpArgs false
set_option maxRecDepth 100000
set_option maxHeartbeats 8000000
namespace Go.Proofs.YtcgjflamgnjhcaaGreatDoor
open Go.ChangeShapes Go.WideShapes Go.ChangeAt Go.RowKit
theorem grow_any (n:Nat) (w:World) (h0:0 < n) (hn:n≤1000) :
  Calls Tryz.prog 140 #[.slice none 0 0,.int .i64 n] w fun e w'=>∃ u,e=.returned u∧w'.ownsRow w.heap.size 84 5 u 0 []∧Below w.heap.size w w':=by
 obtain ⟨i0,hi,hz0,hz1,hz2⟩:=info_parts infoP;have HR:=aa (fun ty=>Lib.run_append_nil_zeros (P:=Tryz.prog) w 64 3 ty 84 i0 _ .i64 .i64 Tryz.underlying64 Tryz.underlying3 hi hz0 n h0 (by omega) (by omega) (by rw [hz2];omega));have G1:=aa (grownCap_ge w n 0 84);have G2:=aa (grownCap_le_maxLen w n 0 84 (by show _≤2 ^ 63 - 1;omega));have HS:Hid ((Builtin.zeroCells (Value.agg #[.int .i64 0,.int .i64 0,.int .i64 0,.slice none 0 0,.bool false]).cells n++Builtin.zeroCells (Value.agg #[.int .i64 0,.int .i64 0,.int .i64 0,.slice none 0 0,.bool false]).cells (grownCap w n 0 84 - n)).size=grownCap w n 0 84 * 5):=by
  show _=_
  rw [Array.size_append,size_zeroCells,size_zeroCells,show (Value.agg #[.int .i64 0,.int .i64 0,.int .i64 0,.slice none 0 0,.bool false]).cells.size=5 from rfl]
  have:=G1.out
  omega
 generalize grownCap w n 0 84=C at *;generalize (Builtin.zeroCells (Value.agg #[.int .i64 0,.int .i64 0,.int .i64 0,.slice none 0 0,.bool false]).cells n++Builtin.zeroCells (Value.agg #[.int .i64 0,.int .i64 0,.int .i64 0,.slice none 0 0,.bool false]).cells (C - n))=Z at *;have dn:decide ((n:Int) < 0)=false:=by simp
 have dp:decide ((0:Int) < (n:Int))=true:=by simp;omega
 go_enter Tryz.func140,Tryz.ntmps140
 go_wp2_with (at_builtin;go_must (refine Lib.wpList_append_run _ rfl _ _ _ _ rfl _ _ rfl rfl _ _ (HR.out _) ?_))
 go_ret
 refine ⟨_,rfl,⟨by simp,.inr ⟨w.heap.size,C,Z,rfl,Nat.le_refl _,?_,Nat.zero_le _,G2.out,HS.out,by simp⟩⟩,?_⟩
 ·show (w.drew.heap.push (.cells Z 84))[w.drew.heap.size]?=_
  exact Array.getElem?_push_size
 ·exact ((Below.refl _ _).drew).alloc (by simp) _
def sumN (n:Nat→Nat):Nat→Nat
 | 0=>0
 | m+1=>sumN n m+n m
def cat (X:Nat→List Value):Nat→List Value
 | 0=>[]
 | m+1=>cat X m++X m
theorem concat_any (g:Nat) (V:Nat→Value) (n:Nat→Nat) (X:Nat→List Value) (w:World) (lg:g < w.heap.size) (hc:∀ j,j < 3→w.cell? ⟨g,j,none⟩=some (V j)) (hr:∀ j,j < 3→gi w (V j) 5 (n j) (X j)) (h1:∀ j,j < 3→∀ u∈X j,u.oneCell'=true)
  (h0:0 < sumN n 3) (hs:sumN n 3≤1000) :
  Calls Tryz.prog 103 #[.slice (some ⟨g,0,none⟩) 3 3] w fun e w'=>∃ u,e=.returned u∧w'.ownsRow w.heap.size 84 5 u (sumN n 3) (cat X 3)∧Below w.heap.size w w':=by
 obtain ⟨i0,hi,hz0,hz1,hz2⟩:=info_parts infoP;have HC:=aa hc;have HR:=aa hr;have H1:=aa h1;have HS:Hid (∀ m,m < 3→sumN n m+n m=sumN n (m+1)∧sumN n (m+1)≤1000):=fun m hm=>⟨rfl,by
  have:sumN n 3=((0+n 0)+n 1)+n 2:=rfl
  rcases (by omega:m=0∨m=1∨m=2) with rfl | rfl | rfl
  ·show 0+n 0≤1000
   omega
  ·show (0+n 0)+n 1≤1000
   omega
  ·exact hs⟩
 have GR:=aa (fun w=>grow_any (sumN n 3) w h0 hs);clear hc hr h1
 go_enter Tryz.func103,Tryz.ntmps103
 go_wp2_with fail
 go_loopw [3,11] (fun s i wr=>∃ m:Nat,m≤3∧s=.int .i64 (sumN n m:Nat)∧i=.int .i64 m∧wr=w) (fun s i _=>3 - (intOf i).toNat)
 case atStart=>exact ⟨0,by omega,rfl,rfl,rfl⟩
 case round =>
  obtain ⟨m,hm,rfl,rfl,hwr⟩:=hrel;subst wr
  by_cases hlt:m < 3
  ·have hs1:=HS.out m hlt;have hcm:=HC.out m hlt;obtain ⟨ao,cap,hv⟩:=aF (HR.out m hlt);rw [hv] at hcm;have hs3:sumN n m+n m≤1000:=by have:=hs1.1;have:=hs1.2;omega
   have HE:Hid (((sumN n (m+1):Nat):Int)=(sumN n m:Int)+(n m:Int)):=by
    show _=_
    rw [← hs1.1]
    simp
   generalize n m=nm at *;generalize sumN n m=s1 at *;clear hs1;have dd:decide (((s1:Int)+nm) < 0)=false:=by simp;omega
   go_wp2_with fail;go_roundw
   case rel=>exact ⟨m+1,by omega,by rw [HE.out],by go_num,by first | rfl | trivial⟩
   case measure=>simp [intOf];omega
  ·have hme:m=3:=by omega
   subst hme;go_wp2_with fail;refine (GR.out _).mono ?_;rintro e w1 ⟨u0,rfl,ho,hb⟩;have HO:=aa ho;have HB:=aa hb;obtain ⟨aou,capu,rfl⟩:=ax ho;clear ho hb;go_wp2_with fail
   go_loopw [6,27] (fun u i wr=>∃ m:Nat,m≤3∧i=.int .i64 m∧Hid (wr.ownsRow w.heap.size 84 5 u (sumN n m) (cat X m))∧Hid (Below w.heap.size w wr)) (fun u i _=>3 - (intOf i).toNat)
   case atStart=>exact ⟨0,by omega,rfl,HO,HB⟩
   case round =>
    clear HO HB;obtain ⟨m,hm,rfl,HO,HB⟩:=hrel;obtain ⟨aou,capu,hu⟩:=ax HO.out;subst hu
    by_cases hlt:m < 3
    ·have hs1:=HS.out m hlt;have hcm:=HC.out m hlt;have c0:=HB.out.cell (p:=⟨g,m,none⟩) lg;rw [hcm] at c0;have hs3:sumN n m+n m≤1000:=by have:=hs1.1;have:=hs1.2;omega
     obtain ⟨hl,hrow⟩:=HR.out m hlt
     rcases hrow with ⟨hv,hn0⟩ | ⟨g2,off2,cap2,hv,q1,q2,q3,q4⟩
     ·rw [hv] at c0;have HX:Hid (cat X (m+1)=cat X m∧sumN n (m+1)=sumN n m):=⟨by
       have:X m=[]:=List.eq_nil_of_length_eq_zero (by rw [hl,hn0])
       show cat X m++X m=cat X m
       rw [this,List.append_nil],by
       show sumN n m+n m=_
       omega⟩
      generalize sumN n m=s1 at *;clear hcm hs1 hl
      go_wp2_with (at_builtin;go_must (refine wpList_append_own_none rfl (.tmp 31) (.tmp 32) 64 rfl w.heap.size 84 i0 5 Tryz.underlying64 hi _ _ _ rfl HO.out rfl ?_))
      go_roundw
      case rel=>exact ⟨m+1,by omega,by go_num,by rw [HX.out.1,HX.out.2];exact HO,HB⟩
      case measure=>simp [intOf];omega
     ·rw [hv] at c0;have HN:Hid (∀ j u,(X m)[j]?=some u→wr.cell? ((⟨g2,off2,none⟩:Addr).add j)=some u):=fun j u hu=>by
       have hj:j < n m * 5:=by
        have:=(List.getElem?_eq_some_iff.1 hu).1
        omega
       have h3:(⟨g2,off2,none⟩:Addr).add j=⟨g2,off2+j,none⟩:=by simp [Addr.add]
       have h2:=HB.out.cell (p:=⟨g2,off2+j,none⟩) q3;rw [h3,h2,q4 j hj,hu]
      have HL:=aa hl;have HOC:=aa (H1.out m hlt);have HX:Hid (cat X (m+1)=cat X m++X m∧sumN n (m+1)=sumN n m+n m):=⟨rfl,rfl⟩;generalize sumN n m=s1 at *;generalize n m=nm at *;generalize X m=Y at *;generalize cat X m=Z at *;unfold maxLen at q2;have hbs:=HB.out.size;clear hcm hs1 hl q4 hv
      go_wp2_with (at_builtin;go_must (refine wpList_append_own _ rfl (.tmp 31) (.tmp 32) 64 rfl w.heap.size 84 i0 (.agg #[.int .i64 0,.int .i64 0,.int .i64 0,.slice none 0 0,.bool false]) 5 56 Tryz.underlying64 hi hz0 hz1 hz2 rfl (by decide) _ _ _ rfl HO.out ⟨g2,off2,none⟩ nm cap2 Y rfl HL.out HN.out HOC.out (by show _≤2 ^ 63 - 1;omega) (by omega) hbs ?_))
      intro v' w3 ho3 hg3 _;have HO3:=aa ho3;have HB3:Hid (Below w.heap.size w w3):=HB.out.grown hg3 hbs (fun k hk=>(aJ HO.out k hk).1);clear ho3 hg3 HN;go_wp2_with fail;go_roundw
      case rel=>exact ⟨m+1,by omega,by go_num,by rw [HX.out.1,HX.out.2];exact HO3,HB3⟩
      case measure=>simp [intOf];omega
    ·have hme:m=3:=by omega
     subst hme;go_wp2_with fail
     go_ret
     exact ⟨_,rfl,HO.out,HB.out⟩
def bE (B:Nat) (v:Value):Prop:=∀ k,v.ownBlock=some k→B≤k
def three {α:Type} (a b c:α) (j:Nat):α:=if j=0 then a else if j=1 then b else c
theorem rise_ins {ps:List Pn} (hR:jD ps) (p:Pn) (i:Nat) (hi:i≤ps.length) (h1:∀ q,q < i→0 < cAt p.st p.k p.n ps q) (h2:∀ q,i≤q→q < ps.length→cAt p.st p.k p.n ps q < 0):jD (ps.take i++p :: ps.drop i):=by
 unfold jD at hR ⊢;have hs:=List.take_append_drop i ps;rw [← hs,List.pairwise_append] at hR;rw [List.pairwise_append,List.pairwise_cons];have hA:∀ a∈ps.take i,lexlt a.st a.k a.n p.st p.k p.n:=fun a ha=>by
  obtain ⟨q,hq,rfl⟩:=List.mem_iff_getElem.1 ha;rw [List.length_take] at hq;rw [List.getElem_take];have h:=h1 q (by omega);rw [gy _ _ _ _ _ (by omega)] at h;exact (gK _ _ _ _).1 h
 have hB:∀ b∈ps.drop i,lexlt p.st p.k p.n b.st b.k b.n:=fun b hb=>by
  obtain ⟨q,hq,rfl⟩:=List.mem_iff_getElem.1 hb;rw [List.length_drop] at hq;rw [List.getElem_drop];have h:=h2 (i+q) (by omega) (by omega);rw [gy _ _ _ _ _ (by omega)] at h;have h3:=gK p.st p.k p.n ps[i+q];have h4:=fq p.st p.k p.n ps[i+q];have hk:∀ b:Pn,pcmp p.st p.k p.n b < 0→(0 < pcmp p.st p.k p.n b↔lexlt b.st b.k b.n p.st p.k p.n)→(pcmp p.st p.k p.n b=0↔(b.st=p.st∧b.k=p.k∧b.n=p.n))→lexlt p.st p.k p.n b.st b.k b.n:=fun b h h3 h4=>by
   have h5:¬ 0 < pcmp p.st p.k p.n b:=by omega
   have h6:¬ pcmp p.st p.k p.n b=0:=by omega
   rw [h3] at h5;rw [h4] at h6;unfold lexlt at h5 ⊢;omega
  exact hk _ h h3 h4
 refine ⟨hR.1,⟨hB,hR.2.1⟩,fun a ha b hb=>?_⟩
 rcases List.mem_cons.1 hb with rfl | hb
 ·exact hA a ha
 ·exact hR.2.2 a ha b hb
theorem aZ {w w':World} {size n:Nat} {v:Value} {xs:List Value} {bad:Nat→Prop} (h:gi w v size n xs) (hk:KeptB w w' bad) (hb:∀ k,v.ownBlock=some k→¬ bad k):gi w' v size n xs:=by
 obtain ⟨h0,h1⟩:=h;refine ⟨h0,?_⟩
 rcases h1 with h1 | ⟨g,off,cap,rfl,h2,h3,h4,h5⟩
 ·exact .inl h1
 ·exact .inr ⟨g,off,cap,rfl,h2,h3,Nat.lt_of_lt_of_le h4 hk.b0.size,fun j hj=>(aB hk _ h4 (hb g rfl)).trans (h5 j hj)⟩
theorem rowS_take {w:World} {g off cap:Nat} {ps:List Pn} (h:gi w (.slice (some ⟨g,off,none⟩) ps.length cap) 5 ps.length (rowOf aG ps)) (i:Nat) (hi:i≤ps.length) :
  gi w (.slice (some ⟨g,off,none⟩) i cap) 5 i (rowOf aG (ps.take i)):=by
 obtain ⟨h0,h1⟩:=h;have hl:(rowOf aG (ps.take i)).length=i * 5:=by rw [bo aW,List.length_take,Nat.min_eq_left hi]
 refine ⟨hl,?_⟩
 rcases h1 with ⟨h1,-⟩ | ⟨g,off,cap,h1,h2,h3,h4,h5⟩
 ·cases h1
 ·cases h1;refine .inr ⟨_,_,_,rfl,by omega,h3,h4,fun j hj=>?_⟩;rw [h5 j (by omega)];have hs:rowOf aG ps=rowOf aG (ps.take i)++rowOf aG (ps.drop i):=by rw [← cQ,List.take_append_drop]
  rw [hs,List.getElem?_append_left (by omega)]
theorem rowS_drop {w:World} {g off cap o2:Nat} {ps:List Pn} (h:gi w (.slice (some ⟨g,off,none⟩) ps.length cap) 5 ps.length (rowOf aG ps)) (i:Nat) (hi:i≤ps.length) (ho:cap≠i→o2=off+i * 5) :
  gi w (.slice (some ⟨g,o2,none⟩) (ps.length - i) (cap - i)) 5 (ps.length - i) (rowOf aG (ps.drop i)):=by
 obtain ⟨h0,h1⟩:=h;have hl:(rowOf aG (ps.drop i)).length=(ps.length - i) * 5:=by rw [bo aW,List.length_drop]
 refine ⟨hl,?_⟩
 rcases h1 with ⟨h1,-⟩ | ⟨g,off,cap,h1,h2,h3,h4,h5⟩
 ·cases h1
 ·cases h1;refine .inr ⟨_,_,_,rfl,by omega,by omega,h4,fun j hj=>?_⟩;have e:=ho (by omega);subst e;have h6:=h5 (i * 5+j) (by omega);rw [show off+i * 5+j=off+(i * 5+j) from by omega,h6];have hs:rowOf aG ps=rowOf aG (ps.take i)++rowOf aG (ps.drop i):=by rw [← cQ,List.take_append_drop]
  have ht:(rowOf aG (ps.take i)).length=i * 5:=by rw [bo aW,List.length_take,Nat.min_eq_left hi]
  rw [hs,List.getElem?_append_right (by omega),ht,Nat.add_sub_cancel_left]
theorem lI (w:World) (i:Nat) (xs:List Value) (h:i=0) (hx:xs=[]):gi w (.slice none i 0) 5 i xs:=by
 subst h hx;exact ⟨rfl,.inl ⟨rfl,rfl⟩⟩
theorem qL (a b c:Nat):sumN (three a b c) 3=a+b+c:=by simp [sumN,three]
theorem cat3 (a b c:List Value):cat (three a b c) 3=a++b++c:=by simp [cat,three]
theorem o9 (ps:List Pn) (i:Nat) (hi:i≤ps.length) (p:Pn) (S1 S2:Value) (wd:World) (R1:gi wd S1 5 i (rowOf aG (ps.take i))) (R2:gi wd S2 5 (ps.length - i) (rowOf aG (ps.drop i))) (hl:ps.length≤500)
  (hsl:∀ q∈ps,∃ ao n cap,q.av=.slice ao n cap) (hp:∃ ao n cap,p.av=.slice ao n cap) :
  Calls Tryz.prog 103 #[.slice (some ⟨wd.heap.size+1,0,none⟩) 3 3] ((wd.alloc (.cells #[.int .i64 p.st,.int .i64 p.k,.int .i64 p.n,p.av,.bool p.told] 84)).alloc (.cells #[S1,.slice (some ⟨wd.heap.size,0,none⟩) 1 1,S2] 64)) fun e w' =>
   ∃ u,e=.returned u∧w'.ownsRow wd.heap.size 84 5 u (ps.take i++p :: ps.drop i).length (rowOf aG (ps.take i++p :: ps.drop i))∧Below wd.heap.size wd w':=by
 have b1:=(Below.refl wd.heap.size wd).alloc (Nat.le_refl _) (.cells #[.int .i64 p.st,.int .i64 p.k,.int .i64 p.n,p.av,.bool p.told] 84);have b2:=b1.alloc b1.size (.cells #[S1,.slice (some ⟨wd.heap.size,0,none⟩) 1 1,S2] 64);have A1:=aM wd [.int .i64 p.st,.int .i64 p.k,.int .i64 p.n,p.av,.bool p.told] 84 (by simp);have A2:=aM (wd.alloc (.cells #[.int .i64 p.st,.int .i64 p.k,.int .i64 p.n,p.av,.bool p.told] 84)) [S1,.slice (some ⟨wd.heap.size,0,none⟩) 1 1,S2] 64 (by simp);have C1:=ai A1 ((Below.refl _ _).alloc (Nat.le_refl _) (.cells #[S1,.slice (some ⟨wd.heap.size,0,none⟩) 1 1,S2] 64)) A1.lt;rw [show (wd.alloc (.cells #[.int .i64 p.st,.int .i64 p.k,.int .i64 p.n,p.av,.bool p.told] 84)).heap.size=wd.heap.size+1 from by simp] at A2;have h:=concat_any (wd.heap.size+1) (three S1 (.slice (some ⟨wd.heap.size,0,none⟩) 1 1) S2) (three i 1 (ps.length - i)) (three (rowOf aG (ps.take i)) (aG p) (rowOf aG (ps.drop i))) ((wd.alloc (.cells #[.int .i64 p.st,.int .i64 p.k,.int .i64 p.n,p.av,.bool p.told] 84)).alloc (.cells #[S1,.slice (some ⟨wd.heap.size,0,none⟩) 1 1,S2] 64))
  A2.lt (fun j hj=>by
   rcases (by omega:j=0∨j=1∨j=2) with rfl | rfl | rfl
   ·exact A2.c 0 (by simp)
   ·exact A2.c 1 (by simp)
   ·exact A2.c 2 (by simp)) (fun j hj=>by
   rcases (by omega:j=0∨j=1∨j=2) with rfl | rfl | rfl
   ·exact bJ R1 b2
   ·refine ⟨rfl,.inr ⟨wd.heap.size,0,1,rfl,Nat.le_refl _,by show _≤2 ^ 63 - 1;omega,C1.lt,fun j hj=>?_⟩⟩;have hj5:j < 5:=hj;rw [Nat.zero_add];exact C1.c j (by simpa using hj5)
   ·exact bJ R2 b2) (fun j hj=>by
   rcases (by omega:j=0∨j=1∨j=2) with rfl | rfl | rfl
   ·exact fh (fun q hq=>hsl q (List.mem_of_mem_take hq))
   ·have h9:=fh (ps:=[p]) (fun q hq=>by rw [List.mem_singleton.1 hq];exact hp);intro u hu;exact h9 u (by simpa [rowOf] using (show u∈aG p from hu))
   ·exact fh (fun q hq=>hsl q (List.mem_of_mem_drop hq))) (by rw [qL];omega) (by rw [qL];omega)
 refine h.mono ?_;rintro e w' ⟨u,rfl,ho,hb⟩;refine ⟨u,rfl,?_,b2.trans (hb.mono b2.size)⟩;have ho:=aN (base':=wd.heap.size) ho b2.size;rw [qL,cat3] at ho;have e1:(ps.take i++p :: ps.drop i).length=i+1+(ps.length - i):=by simp [Nat.min_eq_left hi];omega
 have e2:rowOf aG (ps.take i++p :: ps.drop i)=rowOf aG (ps.take i)++aG p++rowOf aG (ps.drop i):=by simp [rowOf]
 rw [e1,e2];exact ho
theorem add_new (ps:List Pn) (tv:Value) (st k n:Int) (ks:List Int) (kv:Value) (vs:List V2) (vv:Value) (w:World) (hT:TblR w tv ps) (hl:ps.length≤500) (hR:jD ps) (hks:ks.length≤100)
  (hkr:bT w kv 1 ks.length (ks.map (Value.int .i64))) (hkk:∀ x∈ks,1≤x∧x≤5) (hv:bT w vv 2 vs.length (cB vs)) (hvl:vs.length=ks.length) (hno:∀ p∈ps,¬ (p.st=st∧p.k=k∧p.n=n)) :
  Calls Tryz.prog 62 #[.agg #[tv],.int .i64 st,.agg #[.int .i64 k,.int .i64 n],kv,vv] w fun e w'=>∃ i u av,i≤ps.length∧e=.returned (.tuple #[.agg #[u],.agg #[.int .i64 0,.int .i64 0,.int .i64 0,.slice none 0 0,.bool false],.bool false]) ∧
   TblR w' u (ps.take i++⟨st,k,n,false,dD (ks.map iw) vs,av⟩ :: ps.drop i)∧jD (ps.take i++⟨st,k,n,false,dD (ks.map iw) vs,av⟩ :: ps.drop i)∧(bE w.heap.size u∧bE w.heap.size av)∧Below w.heap.size w w':=by
 obtain ⟨ao,cap,rfl⟩:=aF hT.row;obtain ⟨aok,capk,rfl⟩:=aq hkr;obtain ⟨aov,capv,rfl⟩:=aq hv;have b1:=(Below.refl w.heap.size w).alloc (Nat.le_refl _) (.cells #[.slice ao ps.length cap] 66);have b2:=b1.alloc b1.size (.cells #[.int .i64 k,.int .i64 n] 41);have b3:=b2.alloc b2.size (.cells #[.slice none 0 0] 66);have b4:=b3.alloc b3.size (.cells #[.int .i64 0,.int .i64 0,.int .i64 0,.slice none 0 0,.bool false] 84);have A0:=aM w [.slice ao ps.length cap] 66 (by simp);have A1:=aM (w.alloc (.cells #[.slice ao ps.length cap] 66)) [.int .i64 k,.int .i64 n] 41 (by simp);have A2:=aM ((w.alloc (.cells #[.slice ao ps.length cap] 66)).alloc (.cells #[.int .i64 k,.int .i64 n] 41)) [.slice none 0 0] 66 (by simp);have A3:=aM (((w.alloc (.cells #[.slice ao ps.length cap] 66)).alloc (.cells #[.int .i64 k,.int .i64 n] 41)).alloc (.cells #[.slice none 0 0] 66)) [.int .i64 0,.int .i64 0,.int .i64 0,.slice none 0 0,.bool false] 84 (by simp);have s1:(w.alloc (.cells #[.slice ao ps.length cap] 66)).heap.size=w.heap.size+1:=by simp
 have s2:((w.alloc (.cells #[.slice ao ps.length cap] 66)).alloc (.cells #[.int .i64 k,.int .i64 n] 41)).heap.size=w.heap.size+1+1:=by simp
 have s3:(((w.alloc (.cells #[.slice ao ps.length cap] 66)).alloc (.cells #[.int .i64 k,.int .i64 n] 41)).alloc (.cells #[.slice none 0 0] 66)).heap.size=w.heap.size+1+1+1:=by simp
 have al:=fun (w:World) (o:Obj)=>(Below.refl w.heap.size w).alloc (Nat.le_refl _) o
 have C0:=ai (ai (ai A0 (al _ (.cells #[.int .i64 k,.int .i64 n] 41)) A0.lt) (al _ (.cells #[.slice none 0 0] 66)) (by simp;omega)) (al _ (.cells #[.int .i64 0,.int .i64 0,.int .i64 0,.slice none 0 0,.bool false] 84)) (by simp;omega);have C1:=ai (ai A1 (al _ (.cells #[.slice none 0 0] 66)) A1.lt) (al _ (.cells #[.int .i64 0,.int .i64 0,.int .i64 0,.slice none 0 0,.bool false] 84)) (by simp);have C2:=ai A2 (al _ (.cells #[.int .i64 0,.int .i64 0,.int .i64 0,.slice none 0 0,.bool false] 84)) A2.lt;rw [s1] at C1;rw [s2] at C2;rw [s3] at A3;have FA:=aa (n7 ps ao cap st k n _ (aA (ce hT.row) b4) (by omega) hR);have d0:=C0.c 0 (by simp);have d1:=C1.c 0 (by simp);have d2:=C1.c 1 (by simp);have HB:=aa b4;have D0:=aa C0;have D1:=aa C1;have D2:=aa C2;have D3:=aa A3;have HT:=aa hT;have HR:=aa hR;have HKR:=aa hkr;have HV:=aa hv;have HKK:=aa hkk;have HNO:=aa hno;have HVL:=aa hvl;clear b1 b2 b3 b4 A0 A1 A2 A3 C0 C1 C2 s1 s2 s3 al hT hR hkr hv hkk hno hvl;simp only [List.getElem?_cons_zero,List.getElem?_cons_succ] at d0 d1 d2
 go_enter Tryz.func62,Tryz.ntmps62
 go_wp2_with fail;refine FA.out.mono ?_;rintro e w1 ⟨i,hi,h1,h2,rfl,hb⟩;have hbool:(decide (i < ps.length) && (cAt st k n ps i == 0))=false:=by
  by_cases h:i < ps.length
  ·rw [gy _ _ _ _ _ h];have h3:=HNO.out ps[i] (List.getElem_mem h);rw [← fq] at h3
   simp [h3]
  ·simp [h]
 rw [hbool];have HR2:Hid (∀ av,jD (ps.take i++⟨st,k,n,false,dD (ks.map iw) vs,av⟩ :: ps.drop i)):=fun av=>by
  refine rise_ins HR.out _ i hi h1 (fun q hq hq2=>?_);have h3:=h2 q hq hq2;have h4:=HNO.out ps[q] (List.getElem_mem hq2);rw [← fq] at h4
  show cAt st k n ps q < 0
  rw [gy _ _ _ _ _ hq2] at h3 ⊢;omega
 have E0:=aa (ai D0.out hb D0.out.lt);have E1:=aa (ai D1.out hb D1.out.lt);have E2:=aa (ai D2.out hb D2.out.lt);have E3:=aa (ai D3.out hb D3.out.lt);have HB:=nxt HB hb;have EM:=aa (empty_any st k n ks _ w1 hks (aA HKR.out HB.out));unfold eJ at EM
 simp only at EM
 clear hb h1 h2 hbool HR HNO D0 D1 D2 D3 d0 d1 d2 FA;have d1:w1.cell? ⟨w.heap.size+1,0,none⟩=some (.int .i64 k):=E1.out.c 0 (by simp);have d2:w1.cell? ⟨w.heap.size+1,1,none⟩=some (.int .i64 n):=E1.out.c 1 (by simp);go_wp2_with fail;refine EM.out.mono ?_;rintro e w2 ⟨u0,rfl,ho,hb⟩;have WI:=aa (nb ⟨st,k,n,false,ks.map iw,u0⟩ vs _ w2 (by simp only [List.length_map];exact hks) (by show gi _ _ _ _ _;simp only [List.length_map];exact bc ho) (fun a ha=>by
  obtain ⟨x,hx,rfl⟩:=List.mem_map.1 ha
  have:=HKK.out x hx
  exact ⟨this.1,this.2,by show (0:Int)≤0;omega,by show (0:Int)≤1000;omega⟩) (aA HV.out (HB.out.trans (hb.mono HB.out.size))) (by simp only [List.length_map];exact HVL.out))
 obtain ⟨a0,c0,rfl⟩:=ax ho;unfold eJ at WI
 simp only at WI
 have F0:=aa (ai E0.out hb E0.out.lt);have F2:=aa (ai E2.out hb E2.out.lt);have F3:=aa (ai E3.out hb E3.out.lt);have HB:=nxt HB hb;clear ho hb E0 E1 E2 E3 EM d1 d2;go_wp2_with fail;refine WI.out.mono ?_;rintro e w3 ⟨u1,rfl,ho,hb⟩;have AR:=aa (bc ho);have NA:Hid (∀ k,u1.ownBlock=some k→w.heap.size+1+1+1 < k):=fun k hk=>by
  have h1:=(aJ ho k hk).1;have h2:=F3.out.lt;omega
 obtain ⟨a1,c1,rfl⟩:=ax ho;simp only [List.length_map] at AR NA;have G0:=ai F0.out hb F0.out.lt;have G2:=ai F2.out hb F2.out.lt;have G3:=ai F3.out hb F3.out.lt;have l33:=G3.lt;have HB:=nxt HB hb;have al5:=((Below.refl w3.heap.size w3).alloc (Nat.le_refl _) (.cells #[.int .i64 st,.int .i64 k,.int .i64 n,.slice a1 ks.length c1,.bool false] 84));have dd5:Below w3.heap.size w3 ({ (w3.alloc (.cells #[.int .i64 st,.int .i64 k,.int .i64 n,.slice a1 ks.length c1,.bool false] 84)) with drawn:=(w3.alloc (.cells #[.int .i64 st,.int .i64 k,.int .i64 n,.slice a1 ks.length c1,.bool false] 84)).drawn+1 }:World):=al5.drew;have J0:=aa (ai G0 dd5 G0.lt);have J2:=aa (ai G2 dd5 G2.lt);have J3:=aa (ai G3 dd5 G3.lt);have JP0:=aM w3 [.int .i64 st,.int .i64 k,.int .i64 n,.slice a1 ks.length c1,.bool false] 84 (by simp);have JP:Hid (BlkAt ({ (w3.alloc (.cells #[.int .i64 st,.int .i64 k,.int .i64 n,.slice a1 ks.length c1,.bool false] 84)) with drawn:=(w3.alloc (.cells #[.int .i64 st,.int .i64 k,.int .i64 n,.slice a1 ks.length c1,.bool false] 84)).drawn+1 }:World) w3.heap.size [.int .i64 st,.int .i64 k,.int .i64 n,.slice a1 ks.length c1,.bool false]):=ai JP0 (Below.refl _ _).drew JP0.lt;have HB6:=nxt HB dd5;have AR6:=aa (bJ AR.out dd5);have RT:=aa (bJ HT.out.row HB6.out);clear ho hb F0 F2 F3 WI HB AR G0 G2 G3 JP0 al5 dd5;go_wp2_with fail;refine aV (fun w'=>KeptB ({ (w3.alloc (.cells #[.int .i64 st,.int .i64 k,.int .i64 n,.slice a1 ks.length c1,.bool false] 84)) with drawn:=(w3.alloc (.cells #[.int .i64 st,.int .i64 k,.int .i64 n,.slice a1 ks.length c1,.bool false] 84)).drawn+1 }:World) w' (fun k=>k=w.heap.size+1+1∨k=w.heap.size+1+1+1)) 16 (by kernel_rfl) ?_;generalize hwd:({ (w3.alloc (.cells #[.int .i64 st,.int .i64 k,.int .i64 n,.slice a1 ks.length c1,.bool false] 84)) with drawn:=(w3.alloc (.cells #[.int .i64 st,.int .i64 k,.int .i64 n,.slice a1 ks.length c1,.bool false] 84)).drawn+1 }:World)=wd at *;clear hwd;generalize w3.heap.size=b5 at *;clear w3;have hS:KeptB wd wd (fun k=>k=w.heap.size+1+1∨k=w.heap.size+1+1+1):=ae (Below.refl _ _);have d0:wd.cell? ⟨w.heap.size,0,none⟩=some (.slice ao ps.length cap):=J0.out.c 0 (by simp);have x0:wd.cell? ⟨b5,0,none⟩=some (.int .i64 st):=JP.out.c 0 (by simp);have x1:wd.cell? ⟨b5,1,none⟩=some (.int .i64 k):=JP.out.c 1 (by simp);have x2:wd.cell? ⟨b5,2,none⟩=some (.int .i64 n):=JP.out.c 2 (by simp);have x3:wd.cell? ⟨b5,3,none⟩=some (.slice a1 ks.length c1):=JP.out.c 3 (by simp);have x4:wd.cell? ⟨b5,4,none⟩=some (.bool false):=JP.out.c 4 (by simp);have l0:=J0.out.lt;have l5:=JP.out.lt;have nb0:¬ (w.heap.size=w.heap.size+1+1∨w.heap.size=w.heap.size+1+1+1):=by omega
 have nb5:¬ (b5=w.heap.size+1+1∨b5=w.heap.size+1+1+1):=by omega
 have RT':=RT.out
 rcases RT'.2 with ⟨hv,hn0⟩ | ⟨g,off,cap',hv,hle,hm,hgl,-⟩
 ·injection hv with e1 e2 e3
  subst e1 e3;clear RT';have HE2:=aa e2;have hi0:i=0:=by omega
  have hp0:ps=[]:=List.eq_nil_of_length_eq_zero e2;have R1:=aa (lI wd i (rowOf aG (ps.take i)) hi0 (by rw [hp0];simp [rowOf]));have R2:=aa (lI wd (ps.length - i) (rowOf aG (ps.drop i)) (by omega) (by rw [hp0];simp [rowOf]));have CC:=aa (o9 ps i hi ⟨st,k,n,false,dD (ks.map iw) vs,.slice a1 ks.length c1⟩ _ _ wd R1.out R2.out hl (dv HT.out) ⟨_,_,_,rfl⟩)
  simp only at CC
  clear hi0 hp0 e2 hn0;refine LU 0 (v:=.pointer (some ⟨w.heap.size,0,none⟩)) [1,3,10,11,12,14,15,16] rfl (fun wq hq=>by go_simp) hS ?_;refine LU 1 (v:=.slice none ps.length 0) [3,10,11,12,14,15,16] rfl (fun wq hq=>by have q:=aB hq (0) l0 nb0;rw [d0] at q;go_simp) hS ?_;refine LU 2 (v:=.int .i64 (i:Int)) [3,10,11,12,14,15,16] rfl (fun wq hq=>by go_simp) hS ?_;refine LU 3 (v:=.slice none i 0) [10,11,12,14,15,16] rfl (fun wq hq=>by first | (go_simp;done) | (go_simp;intro h;omega) | (go_simp;intro h;have:=HE2.out;omega)) hS ?_;refine LU 4 (v:=.agg #[.int .i64 st,.int .i64 k,.int .i64 n,.slice a1 ks.length c1,.bool false]) [5,10,11,12,14,15,16] rfl (fun wq hq=>by have q0:=aB hq 0 l5 nb5;rw [x0] at q0;have q1:=aB hq 1 l5 nb5;rw [x1] at q1;have q2:=aB hq 2 l5 nb5;rw [x2] at q2;have q3:=aB hq 3 l5 nb5;rw [x3] at q3;have q4:=aB hq 4 l5 nb5;rw [x4] at q4;go_simp) hS ?_;refine LU 6 (v:=.pointer (some ⟨w.heap.size,0,none⟩)) [7,9,10,11,12,14,15,16] rfl (fun wq hq=>by go_simp) hS ?_;refine LU 7 (v:=.slice none ps.length 0) [9,10,11,12,14,15,16] rfl (fun wq hq=>by have q:=aB hq (0) l0 nb0;rw [d0] at q;go_simp) hS ?_;refine LU 8 (v:=.int .i64 (i:Int)) [9,10,11,12,14,15,16] rfl (fun wq hq=>by go_simp) hS ?_;refine LU 9 (v:=.slice none (ps.length - i) 0) [10,11,12,14,15,16] rfl (fun wq hq=>by go_simp) hS ?_;refine LU 13 (v:=.agg #[.int .i64 0,.int .i64 0,.int .i64 0,.slice none 0 0,.bool false]) [15,16] rfl (fun wq hq=>by go_simp) hS ?_;refine LG 5 rfl ?_;intro K' hK;go_simp;refine hK _ _ ⟨fun _=>af hS (ae ((Below.refl _ _).alloc (Nat.le_refl _) _)),?_⟩;clear hK;refine LG 10 rfl ?_;intro K' hK;go_simp;refine hK _ _ ⟨fun _=>af (af hS (ae ((Below.refl _ _).alloc (Nat.le_refl _) _))) (ae ((Below.refl _ _).alloc (Nat.le_refl _) _)),?_⟩;clear hK;refine LG 11 rfl ?_;intro K' hK;go_simp;refine CC.out.mono ?_;rintro e w8 ⟨u,rfl,ho,hb⟩;generalize hN:(ps.take i++(⟨st,k,n,false,dD (ks.map iw) vs,.slice a1 ks.length c1⟩:Pn) :: ps.drop i).length=N at *;have HN:=aa hN;clear hN;have HO8:=aa ho;have HB8:=aa hb;have HS8:Hid (KeptB wd w8 (fun k=>k=w.heap.size+1+1∨k=w.heap.size+1+1+1)):=ae hb;obtain ⟨a8,c8,rfl⟩:=ax ho;refine hK _ _ ⟨fun _=>HS8.out,?_⟩;clear hK ho hb CC;refine LG 12 rfl ?_;intro K' hK;go_simp;refine hK _ _ ⟨fun _=>HS8.out,?_⟩;clear hK;have K2:=ai J2.out HB8.out J2.out.lt;have K3:=ai J3.out HB8.out J3.out.lt;have y0:w8.cell? ⟨w.heap.size+1+1,0,none⟩=some (.slice none 0 0):=K2.c 0 (by simp);have f0:=K2.fz 0;have g0:w8.cell? ⟨w.heap.size+1+1+1,0,none⟩=some (.int .i64 0):=K3.c 0 (by simp);have z0:=K3.fz 0;have g1:w8.cell? ⟨w.heap.size+1+1+1,1,none⟩=some (.int .i64 0):=K3.c 1 (by simp);have z1:=K3.fz 1;have g2:w8.cell? ⟨w.heap.size+1+1+1,2,none⟩=some (.int .i64 0):=K3.c 2 (by simp);have z2:=K3.fz 2;have g3:w8.cell? ⟨w.heap.size+1+1+1,3,none⟩=some (.slice none 0 0):=K3.c 3 (by simp)
  have z3:=K3.fz 3;have g4:w8.cell? ⟨w.heap.size+1+1+1,4,none⟩=some (.bool false):=K3.c 4 (by simp);have z4:=K3.fz 4;clear K2 K3;refine LG 14 rfl ?_;intro K' hK;go_simp;refine hK _ _ ⟨fun _=>ah HS8.out (.inl rfl) 0 _,?_⟩;clear hK;refine LG 15 rfl ?_;intro K' hK;go_simp;refine hK _ _ ⟨fun _=>ah (ah (ah (ah (ah (ah HS8.out (.inl rfl) 0 _) (.inr rfl) 0 _) (.inr rfl) 1 _) (.inr rfl) 2 _) (.inr rfl) 3 _) (.inr rfl) 4 _,?_⟩;clear hK;refine LG 16 rfl ?_;intro K' hK;go_simp;refine hK _ _ ⟨fun h=>absurd rfl h,?_⟩;clear hK;refine bI (by kernel_rfl) ?_ _;go_wp2_with fail;have HS9:Hid (KeptB wd ((((((w8.setCell ⟨w.heap.size+1+1,0,none⟩ (.slice a8 N c8)).setCell ⟨w.heap.size+1+1+1,0,none⟩ (.int .i64 0)).setCell ⟨w.heap.size+1+1+1,1,none⟩ (.int .i64 0)).setCell ⟨w.heap.size+1+1+1,2,none⟩ (.int .i64 0)).setCell ⟨w.heap.size+1+1+1,3,none⟩ (.slice none 0 0)).setCell ⟨w.heap.size+1+1+1,4,none⟩ (.bool false)) (fun k=>k=w.heap.size+1+1∨k=w.heap.size+1+1+1)):=ah (ah (ah (ah (ah (ah HS8.out (.inl rfl) 0 _) (.inr rfl) 0 _) (.inr rfl) 1 _) (.inr rfl) 2 _) (.inr rfl) 3 _) (.inr rfl) 4 _;have K89:Hid (KeptB w8 ((((((w8.setCell ⟨w.heap.size+1+1,0,none⟩ (.slice a8 N c8)).setCell ⟨w.heap.size+1+1+1,0,none⟩ (.int .i64 0)).setCell ⟨w.heap.size+1+1+1,1,none⟩ (.int .i64 0)).setCell ⟨w.heap.size+1+1+1,2,none⟩ (.int .i64 0)).setCell ⟨w.heap.size+1+1+1,3,none⟩ (.slice none 0 0)).setCell ⟨w.heap.size+1+1+1,4,none⟩ (.bool false)) (fun k=>k=w.heap.size+1+1∨k=w.heap.size+1+1+1)):=ah (ah (ah (ah (ah (ah (ae (Below.refl _ _)) (.inl rfl) 0 _) (.inr rfl) 0 _) (.inr rfl) 1 _) (.inr rfl) 2 _) (.inr rfl) 3 _) (.inr rfl) 4 _;have HB9:=aa (HB6.out.trans (aL HS9.out HB6.out.size (fun k hk=>by omega)));refine bodyPost_ret (v:=.tuple #[.agg #[.slice a8 N c8],.agg #[.int .i64 0,.int .i64 0,.int .i64 0,.slice none 0 0,.bool false],.bool false]) (by simp [results,Tryz.results62,go_sem,y0,g0,g1,g2,g3,g4]) rfl ?_
  first | refine ⟨i,hi,_,rfl,.slice a1 ks.length c1,⟨?_,?_⟩,HR2.out _,⟨fun k hk=>by have h1:=(aJ HO8.out k hk).1;have h2:=J3.out.lt;omega,fun k hk=>by have h1:=NA.out k hk;omega⟩,?_⟩ | refine ⟨i,_,.slice a1 ks.length c1,hi,rfl,⟨?_,?_⟩,HR2.out _,⟨fun k hk=>by have h1:=(aJ HO8.out k hk).1;have h2:=J3.out.lt;omega,fun k hk=>by have h1:=NA.out k hk;omega⟩,?_⟩
  ·rw [HN.out];exact aZ (bc HO8.out) K89.out (fun k hk hbad=>by
    have h1:=(aJ HO8.out k hk).1;have h2:=J3.out.lt;omega)
  ·intro p hp
   rcases List.mem_append.1 hp with hp | hp
   ·exact bp (HT.out.acc p (List.mem_of_mem_take hp)) HB9.out
   ·rcases List.mem_cons.1 hp with rfl | hp
    ·show gi _ _ _ _ _
     have hlen:(dD (ks.map iw) vs).length=ks.length:=by simp [dD,HVL.out]
     simp only [hlen];exact aZ AR6.out HS9.out (fun k hk hbad=>by
      have h1:=NA.out k hk;omega)
    ·exact bp (HT.out.acc p (List.mem_of_mem_drop hp)) HB9.out
  ·exact HB9.out
 ·injection hv with e1 e2 e3
  subst e1 e3;clear RT';obtain ⟨o2,ho2,ho3⟩:∃ o2:Nat,(if cap=i then some (⟨g,off,none⟩:Addr) else some ⟨g,off+i * 5,none⟩)=some ⟨g,o2,none⟩∧(cap≠i→o2=off+i * 5):=by
   by_cases h:cap=i
   ·exact ⟨off,by rw [if_pos h],fun h2=>absurd h h2⟩
   ·exact ⟨off+i * 5,by rw [if_neg h],fun _=>rfl⟩
  have R1:=aa (rowS_take RT.out i hi);have R2:=aa (rowS_drop RT.out i hi ho3);unfold maxLen at hm;have hic:i≤cap:=by omega
  clear ho3;have CC:=aa (o9 ps i hi ⟨st,k,n,false,dD (ks.map iw) vs,.slice a1 ks.length c1⟩ _ _ wd R1.out R2.out hl (dv HT.out) ⟨_,_,_,rfl⟩)
  simp only at CC
  refine LU 0 (v:=.pointer (some ⟨w.heap.size,0,none⟩)) [1,3,10,11,12,14,15,16] rfl (fun wq hq=>by go_simp) hS ?_;refine LU 1 (v:=.slice (some ⟨g,off,none⟩) ps.length cap) [3,10,11,12,14,15,16] rfl (fun wq hq=>by have q:=aB hq (0) l0 nb0;rw [d0] at q;go_simp) hS ?_;refine LU 2 (v:=.int .i64 (i:Int)) [3,10,11,12,14,15,16] rfl (fun wq hq=>by go_simp) hS ?_;refine LU 3 (v:=.slice (some ⟨g,off,none⟩) i cap) [10,11,12,14,15,16] rfl (fun wq hq=>by first | (go_simp;done) | (go_simp;intro h;omega) | (go_simp;intro h;have:=HE2.out;omega)) hS ?_;refine LU 4 (v:=.agg #[.int .i64 st,.int .i64 k,.int .i64 n,.slice a1 ks.length c1,.bool false]) [5,10,11,12,14,15,16] rfl (fun wq hq=>by have q0:=aB hq 0 l5 nb5;rw [x0] at q0;have q1:=aB hq 1 l5 nb5;rw [x1] at q1;have q2:=aB hq 2 l5 nb5;rw [x2] at q2;have q3:=aB hq 3 l5 nb5;rw [x3] at q3;have q4:=aB hq 4 l5 nb5;rw [x4] at q4;go_simp) hS ?_;refine LU 6 (v:=.pointer (some ⟨w.heap.size,0,none⟩)) [7,9,10,11,12,14,15,16] rfl (fun wq hq=>by go_simp) hS ?_;refine LU 7 (v:=.slice (some ⟨g,off,none⟩) ps.length cap) [9,10,11,12,14,15,16] rfl (fun wq hq=>by have q:=aB hq (0) l0 nb0;rw [d0] at q;go_simp) hS ?_;refine LU 8 (v:=.int .i64 (i:Int)) [9,10,11,12,14,15,16] rfl (fun wq hq=>by go_simp) hS ?_;refine LU 9 (v:=.slice (some ⟨g,o2,none⟩) (ps.length - i) (cap - i)) [10,11,12,14,15,16] rfl (fun wq hq=>by go_simp) hS ?_;refine LU 13 (v:=.agg #[.int .i64 0,.int .i64 0,.int .i64 0,.slice none 0 0,.bool false]) [15,16] rfl (fun wq hq=>by go_simp) hS ?_;refine LG 5 rfl ?_;intro K' hK;go_simp;refine hK _ _ ⟨fun _=>af hS (ae ((Below.refl _ _).alloc (Nat.le_refl _) _)),?_⟩;clear hK;refine LG 10 rfl ?_;intro K' hK;go_simp;refine hK _ _ ⟨fun _=>af (af hS (ae ((Below.refl _ _).alloc (Nat.le_refl _) _))) (ae ((Below.refl _ _).alloc (Nat.le_refl _) _)),?_⟩;clear hK;refine LG 11 rfl ?_;intro K' hK;go_simp;refine CC.out.mono ?_;rintro e w8 ⟨u,rfl,ho,hb⟩;generalize hN:(ps.take i++(⟨st,k,n,false,dD (ks.map iw) vs,.slice a1 ks.length c1⟩:Pn) :: ps.drop i).length=N at *;have HN:=aa hN;clear hN;have HO8:=aa ho;have HB8:=aa hb;have HS8:Hid (KeptB wd w8 (fun k=>k=w.heap.size+1+1∨k=w.heap.size+1+1+1)):=ae hb;obtain ⟨a8,c8,rfl⟩:=ax ho;refine hK _ _ ⟨fun _=>HS8.out,?_⟩;clear hK ho hb CC;refine LG 12 rfl ?_;intro K' hK;go_simp;refine hK _ _ ⟨fun _=>HS8.out,?_⟩;clear hK;have K2:=ai J2.out HB8.out J2.out.lt;have K3:=ai J3.out HB8.out J3.out.lt;have y0:w8.cell? ⟨w.heap.size+1+1,0,none⟩=some (.slice none 0 0):=K2.c 0 (by simp);have f0:=K2.fz 0;have g0:w8.cell? ⟨w.heap.size+1+1+1,0,none⟩=some (.int .i64 0):=K3.c 0 (by simp);have z0:=K3.fz 0;have g1:w8.cell? ⟨w.heap.size+1+1+1,1,none⟩=some (.int .i64 0):=K3.c 1 (by simp);have z1:=K3.fz 1;have g2:w8.cell? ⟨w.heap.size+1+1+1,2,none⟩=some (.int .i64 0):=K3.c 2 (by simp)
  have z2:=K3.fz 2;have g3:w8.cell? ⟨w.heap.size+1+1+1,3,none⟩=some (.slice none 0 0):=K3.c 3 (by simp);have z3:=K3.fz 3;have g4:w8.cell? ⟨w.heap.size+1+1+1,4,none⟩=some (.bool false):=K3.c 4 (by simp);have z4:=K3.fz 4;clear K2 K3;refine LG 14 rfl ?_;intro K' hK;go_simp;refine hK _ _ ⟨fun _=>ah HS8.out (.inl rfl) 0 _,?_⟩;clear hK;refine LG 15 rfl ?_;intro K' hK;go_simp;refine hK _ _ ⟨fun _=>ah (ah (ah (ah (ah (ah HS8.out (.inl rfl) 0 _) (.inr rfl) 0 _) (.inr rfl) 1 _) (.inr rfl) 2 _) (.inr rfl) 3 _) (.inr rfl) 4 _,?_⟩;clear hK;refine LG 16 rfl ?_;intro K' hK;go_simp;refine hK _ _ ⟨fun h=>absurd rfl h,?_⟩;clear hK;refine bI (by kernel_rfl) ?_ _;go_wp2_with fail;have HS9:Hid (KeptB wd ((((((w8.setCell ⟨w.heap.size+1+1,0,none⟩ (.slice a8 N c8)).setCell ⟨w.heap.size+1+1+1,0,none⟩ (.int .i64 0)).setCell ⟨w.heap.size+1+1+1,1,none⟩ (.int .i64 0)).setCell ⟨w.heap.size+1+1+1,2,none⟩ (.int .i64 0)).setCell ⟨w.heap.size+1+1+1,3,none⟩ (.slice none 0 0)).setCell ⟨w.heap.size+1+1+1,4,none⟩ (.bool false)) (fun k=>k=w.heap.size+1+1∨k=w.heap.size+1+1+1)):=ah (ah (ah (ah (ah (ah HS8.out (.inl rfl) 0 _) (.inr rfl) 0 _) (.inr rfl) 1 _) (.inr rfl) 2 _) (.inr rfl) 3 _) (.inr rfl) 4 _;have K89:Hid (KeptB w8 ((((((w8.setCell ⟨w.heap.size+1+1,0,none⟩ (.slice a8 N c8)).setCell ⟨w.heap.size+1+1+1,0,none⟩ (.int .i64 0)).setCell ⟨w.heap.size+1+1+1,1,none⟩ (.int .i64 0)).setCell ⟨w.heap.size+1+1+1,2,none⟩ (.int .i64 0)).setCell ⟨w.heap.size+1+1+1,3,none⟩ (.slice none 0 0)).setCell ⟨w.heap.size+1+1+1,4,none⟩ (.bool false)) (fun k=>k=w.heap.size+1+1∨k=w.heap.size+1+1+1)):=ah (ah (ah (ah (ah (ah (ae (Below.refl _ _)) (.inl rfl) 0 _) (.inr rfl) 0 _) (.inr rfl) 1 _) (.inr rfl) 2 _) (.inr rfl) 3 _) (.inr rfl) 4 _;have HB9:=aa (HB6.out.trans (aL HS9.out HB6.out.size (fun k hk=>by omega)));refine bodyPost_ret (v:=.tuple #[.agg #[.slice a8 N c8],.agg #[.int .i64 0,.int .i64 0,.int .i64 0,.slice none 0 0,.bool false],.bool false]) (by simp [results,Tryz.results62,go_sem,y0,g0,g1,g2,g3,g4]) rfl ?_
  first | refine ⟨i,hi,_,rfl,.slice a1 ks.length c1,⟨?_,?_⟩,HR2.out _,⟨fun k hk=>by have h1:=(aJ HO8.out k hk).1;have h2:=J3.out.lt;omega,fun k hk=>by have h1:=NA.out k hk;omega⟩,?_⟩ | refine ⟨i,_,.slice a1 ks.length c1,hi,rfl,⟨?_,?_⟩,HR2.out _,⟨fun k hk=>by have h1:=(aJ HO8.out k hk).1;have h2:=J3.out.lt;omega,fun k hk=>by have h1:=NA.out k hk;omega⟩,?_⟩
  ·rw [HN.out];exact aZ (bc HO8.out) K89.out (fun k hk hbad=>by
    have h1:=(aJ HO8.out k hk).1;have h2:=J3.out.lt;omega)
  ·intro p hp
   rcases List.mem_append.1 hp with hp | hp
   ·exact bp (HT.out.acc p (List.mem_of_mem_take hp)) HB9.out
   ·rcases List.mem_cons.1 hp with rfl | hp
    ·show gi _ _ _ _ _
     have hlen:(dD (ks.map iw) vs).length=ks.length:=by simp [dD,HVL.out]
     simp only [hlen];exact aZ AR6.out HS9.out (fun k hk hbad=>by
      have h1:=NA.out k hk;omega)
    ·exact bp (HT.out.acc p (List.mem_of_mem_drop hp)) HB9.out
  ·exact HB9.out
end Go.Proofs.YtcgjflamgnjhcaaGreatDoor
