/- Own texts in one. Conditions: as named in each. -/
import Derived.Test.YtcgjflamgnjhcaaGreatDoorKinJ
import Derived.Test.YtcgjflamgnjhcaaGreatDoorEnQJ
import Derived.Test.YtcgjflamgnjhcaaGreatDoorEnFJ
set_option linter.unusedVariables false
set_option linter.unusedSimpArgs false
set_option maxRecDepth 100000
set_option maxHeartbeats 8000000
namespace Go.Proofs.YtcgjflamgnjhcaaGreatDoor
open Go.ChangeShapes Go.WideShapes Go.ChangeAt Go.RowKit
abbrev pz (w:World) (v:Value) (G:List Int):Prop:=bT w v 1 G.length (G.map (Value.int .i64))
theorem kD {w:World} {v:Value} {G:List Int} (h:pz w v G) (h0:0 < G.length) :
  ∃ g off cap,v=.slice (some ⟨g,off,none⟩) G.length cap∧G.length≤cap∧cap≤maxLen∧g < w.heap.size∧∀ i,i < G.length→w.cell? ⟨g,off+i,none⟩=some (.int .i64 (G.getD i 0)):=by
 rcases h.2 with ⟨-,hn⟩ | ⟨g,off,cap,rfl,h1,h2,h3,h4⟩
 ·omega
 ·refine ⟨g,off,cap,rfl,h1,h2,h3,fun i hi=>?_⟩;rw [h4 i (by omega)]
  simp [List.getD,hi]
theorem ox (n:Nat) (ao:Option Addr) (cap:Nat) (p:Int) (w:World) (hn:n≤1000) :
  Calls Tryz.prog 85 #[.agg #[.slice ao n cap],.int .i64 p] w fun e w'=>e=.returned (.bool (decide (0≤p) && decide (p < (n:Int))))∧Below w.heap.size w w':=by
 by_cases h1:0≤p
 ·have d1:decide (0≤p)=true:=by simp [h1]
  rw [d1]
  by_cases h2:p < (n:Int)
  ·have d2:decide (p < (n:Int))=true:=by simp [h2]
   rw [d2]
   go_enter Tryz.func85,Tryz.ntmps85
   go_wp2_with fail
   go_ret
   exact ⟨rfl,(Below.refl _ _).alloc (Nat.le_refl _) _⟩
  ·have d2:decide (p < (n:Int))=false:=by simp;omega
   rw [d2]
   go_enter Tryz.func85,Tryz.ntmps85
   go_wp2_with fail
   go_ret
   exact ⟨rfl,(Below.refl _ _).alloc (Nat.le_refl _) _⟩
 ·have d1:decide (0≤p)=false:=by simp;omega
  rw [d1]
  go_enter Tryz.func85,Tryz.ntmps85
  go_wp2_with fail
  go_ret
  exact ⟨rfl,(Below.refl _ _).alloc (Nat.le_refl _) _⟩
def ml (x delay:Int):Value:=if x≤-1 then .tuple #[.int .i64 0,.bool false] else .tuple #[.int .i64 (RowKit.wrap64 (x - delay)),.bool true]
theorem mU (G:List Int) (v:Value) (p:Nat) (delay:Int) (w:World) (hl:G.length≤1000) (hp:p < G.length) (hr:pz w v G) :
  Calls Tryz.prog 45 #[.agg #[v],.int .i64 p,.int .i64 delay] w fun e w'=>e=.returned (ml (G.getD p 0) delay)∧Below w.heap.size w w':=by
 obtain ⟨g,off,cap,rfl,l1,l2,l3,hc0⟩:=kD hr (by omega);have cp:=hc0 p hp;have HA:=aa (fun w=>ox G.length (some ⟨g,off,none⟩) cap p w hl);have d1:decide (0≤(p:Int))=true:=by simp
 have d2:decide ((p:Int) < (G.length:Int))=true:=by simp;omega
 rw [d1,d2] at HA;clear hc0 hr d1 d2;unfold maxLen at l2;generalize G.getD p 0=x at *;have H1:Hid (Below w.heap.size w (w.alloc (.cells #[.slice (some ⟨g,off,none⟩) G.length cap] 63))):=(Below.refl _ _).alloc (Nat.le_refl _) _;simp only [Bool.and_self] at HA;unfold ml
 by_cases hx:x≤-1
 ·rw [if_pos hx];have dx:decide (x≤-1)=true:=by simp [hx]
  go_enter Tryz.func45,Tryz.ntmps45
  go_wp2_with fail;refine (HA.out _).mono ?_;rintro e w1 ⟨rfl,hb⟩;have HB:=aa hb;clear hb;obtain ⟨hc,hf⟩:=rules HB;go_wp2_with fail
  go_ret2
  exact ⟨rfl,done H1.out HB⟩
 ·rw [if_neg hx];have dx:decide (x≤-1)=false:=by simp;omega
  go_enter Tryz.func45,Tryz.ntmps45
  go_wp2_with fail;refine (HA.out _).mono ?_;rintro e w1 ⟨rfl,hb⟩;have HB:=aa hb;clear hb;obtain ⟨hc,hf⟩:=rules HB;go_wp2_with fail
  go_ret2
  exact ⟨rfl,done H1.out HB⟩
theorem all_any (G:List Int) (v:Value) (delay:Int) (w:World) (hl:G.length≤1000) (h0:0 < G.length) (hr:pz w v G) :
  Calls Tryz.prog 32 #[.agg #[v],.int .i64 delay] w fun e w'=>e=.returned (ml (minOf G) delay)∧Below w.heap.size w w':=by
 obtain ⟨g,off,cap,rfl,l1,l2,l3,hc0⟩:=kD hr h0;have HC:=aa hc0;have HR:=aa hr;clear hc0 hr;unfold maxLen at l2;have H1:Hid (Below w.heap.size w (w.alloc (.cells #[.slice (some ⟨g,off,none⟩) G.length cap] 63))):=(Below.refl _ _).alloc (Nat.le_refl _) _
 go_enter Tryz.func32,Tryz.ntmps32
 go_wp2_with fail;have CX:Hid (∀ i,i < G.length→(w.alloc (.cells #[.slice (some ⟨g,off,none⟩) G.length cap] 63)).cell? ⟨g,off+i,none⟩=some (.int .i64 (G.getD i 0))):=fun i hi=>(H1.out.cell (p:=⟨g,off+i,none⟩) l3).trans (HC.out i hi)
 have cc:(w.alloc (.cells #[.slice (some ⟨g,off,none⟩) G.length cap] 63)).cell? ⟨w.heap.size,0,none⟩=some (.slice (some ⟨g,off,none⟩) G.length cap):=by go_simp
 have lc:w.heap.size < (w.alloc (.cells #[.slice (some ⟨g,off,none⟩) G.length cap] 63)).heap.size:=by simp
 have RX:=aa (aA HR.out H1.out);generalize (w.alloc (.cells #[.slice (some ⟨g,off,none⟩) G.length cap] 63))=wx at *;have lg:g < wx.heap.size:=by omega
 clear HC HR
 go_loopw [6,11] (fun ls i wr=>∃ (j n:Nat),j < G.length∧n≤G.length∧ls=.int .i64 j∧i=.int .i64 n∧Hid (∀ m,m < n→G.getD j 0≤G.getD m 0)∧Hid (Below wx.heap.size wx wr)) (fun _ i _=>G.length - (intOf i).toNat)
 case atStart=>exact ⟨0,0,h0,Nat.zero_le _,rfl,rfl,fun m hm=>absurd hm (by omega),Below.refl _ _⟩
 case round =>
  obtain ⟨j,n,hj,hn,rfl,rfl,HM,HB⟩:=hrel
  by_cases hlt:n < G.length
  ·have cx:=CX.out n hlt;have cy:=CX.out j hj;have kn:=bG wx;obtain ⟨kc,kf⟩:=bn wx
   by_cases hxy:G.getD n 0 < G.getD j 0
   ·have HM2:Hid (∀ m,m < n+1→G.getD n 0≤G.getD m 0):=fun m hm=>by
     by_cases h9:m=n
     ·subst h9;exact Int.le_refl _
     ·have:=HM.out m (by omega);omega
    have HM3:Hid (∀ m,m < n+1→G.getD n 0≤G.getD m 0):=HM2;obtain ⟨x,hx⟩:∃ x,G.getD n 0=x:=⟨_,rfl⟩;obtain ⟨y,hy⟩:∃ y,G.getD j 0=y:=⟨_,rfl⟩;rw [hx] at cx hxy;rw [hy] at cy hxy;clear hx hy;have dxy:decide (x < y)=true:=by simp [hxy]
    go_wp2_with fail;refine aD HB (by kernel_rfl) (by kernel_rfl) ?_
    repeat (go_big_quiet_step (fail))
    refine wpQuiet_nil ?_;rintro _ ⟨pk,rfl⟩;have HP:=aa pk.h;generalize pk.w=wp at *;clear kc kf kn;go_wp2_with fail;go_roundw
    case rel=>exact ⟨n,n+1,hlt,by omega,rfl,by go_num,HM3.out,HP⟩
    case measure=>simp [intOf];omega
   ·have HM2:Hid (∀ m,m < n+1→G.getD j 0≤G.getD m 0):=fun m hm=>by
     by_cases h9:m=n
     ·subst h9;omega
     ·exact HM.out m (by omega)
    have HM3:Hid (∀ m,m < n+1→G.getD j 0≤G.getD m 0):=HM2;obtain ⟨x,hx⟩:∃ x,G.getD n 0=x:=⟨_,rfl⟩;obtain ⟨y,hy⟩:∃ y,G.getD j 0=y:=⟨_,rfl⟩;rw [hx] at cx hxy;rw [hy] at cy hxy;clear hx hy;have dxy:decide (x < y)=false:=by simp;omega
    go_wp2_with fail;refine aD HB (by kernel_rfl) (by kernel_rfl) ?_
    repeat (go_big_quiet_step (fail))
    refine wpQuiet_nil ?_;rintro _ ⟨pk,rfl⟩;have HP:=aa pk.h;generalize pk.w=wp at *;clear kc kf kn;go_wp2_with fail;go_roundw
    case rel=>exact ⟨j,n+1,hj,by omega,rfl,by go_num,HM3.out,HP⟩
    case measure=>simp [intOf];omega
  ·have hnl:n=G.length:=by omega
   subst hnl;have EM:=aa (min_is hj HM.out);have PA:=aa (fun w' hb=>mU G _ j delay w' hl hj (aA RX.out hb));rw [← EM.out] at PA;clear HM;generalize hV:ml (minOf G) delay=V at *;obtain ⟨q1,q2,rfl⟩:∃ q1 q2,V=.tuple #[.int .i64 q1,.bool q2]:=by
    rw [← hV];unfold ml
    split
    ·exact ⟨_,_,rfl⟩
    ·exact ⟨_,_,rfl⟩
   have HV:=aa hV;clear hV EM;obtain ⟨hc,hf⟩:=rules HB;go_wp2_with fail;refine (PA.out _ HB.out).mono ?_;rintro e w1 ⟨rfl,hb⟩;have HB:=nxt HB hb;clear hb;go_wp2_with fail
   go_ret2
   exact ⟨by rw [HV.out];rfl,done H1.out HB⟩
theorem iG {w:World} {base g n cap:Nat} {e:TypeId} {xs:List Value} (h:w.ownsRow base e 1 (.slice (some ⟨g,0,none⟩) n cap) n xs) (p:Nat) (u:Value) :
  (w.setCell ⟨g,p,none⟩ u).ownsRow base e 1 (.slice (some ⟨g,0,none⟩) n cap) n (xs.set p u):=by
 obtain ⟨h0,h1⟩:=h;refine ⟨by simpa using h0,?_⟩
 rcases h1 with ⟨e1,-⟩ | ⟨g',cap',cur,e1,hb,hg,hle,hm,hs,ht⟩
 ·cases e1
 ·simp only [Value.slice.injEq,Option.some.injEq,Addr.mk.injEq,and_true,true_and] at e1;obtain ⟨rfl,rfl⟩:=e1;refine .inr ⟨g,cap,cur.setIfInBounds p u,rfl,hb,?_,hle,hm,by simpa using hs,?_⟩
  ·simp [World.setCell,Array.getElem?_modify,hg]
  ·rw [← ht,Array.toList_setIfInBounds,List.take_set]
theorem ii {w:World} {base g n cap:Nat} {e:TypeId} {xs:List Value} (h:w.ownsRow base e 1 (.slice (some ⟨g,0,none⟩) n cap) n xs) (o:Nat):w.frozen? ⟨g,o,none⟩=false:=by
 obtain ⟨h0,h1⟩:=h
 rcases h1 with ⟨e1,-⟩ | ⟨g',cap',cur,e1,hb,hg,hle,hm,hs,ht⟩
 ·cases e1
 ·simp only [Value.slice.injEq,Option.some.injEq,Addr.mk.injEq,and_true,true_and] at e1;obtain ⟨rfl,rfl⟩:=e1
  simp [World.frozen?,hg]
theorem mD {w:World} {base base' n g':Nat} {e:TypeId} {v:Value} {xs:List Value} (h:w.ownsRow base e 1 v n xs) (hb:base'≤base) (hg:g' < base) (o:Nat) (u:Value):(w.setCell ⟨g',o,none⟩ u).ownsRow base' e 1 v n xs:=by
 obtain ⟨h0,h1⟩:=h;refine ⟨h0,?_⟩
 rcases h1 with h1 | ⟨g,cap,cur,e1,hb',hg',hle,hm,hs,ht⟩
 ·exact .inl h1
 ·exact .inr ⟨g,cap,cur,e1,by omega,by rw [Below.heap_setCell w _ u g (by simp;omega)];exact hg',hle,hm,hs,ht⟩
theorem owns_far2 {w:World} {base n g g' cap:Nat} {e:TypeId} {xs:List Value} (h:w.ownsRow base e 1 (.slice (some ⟨g,0,none⟩) n cap) n xs) (hg:g'≠g) (o:Nat) (u:Value):(w.setCell ⟨g',o,none⟩ u).ownsRow base e 1 (.slice (some ⟨g,0,none⟩) n cap) n xs:=by
 obtain ⟨h0,h1⟩:=h;refine ⟨h0,?_⟩
 rcases h1 with ⟨e1,-⟩ | ⟨g2,cap',cur,e1,hb',hg',hle,hm,hs,ht⟩
 ·cases e1
 ·simp only [Value.slice.injEq,Option.some.injEq,Addr.mk.injEq,and_true,true_and] at e1;obtain ⟨rfl,rfl⟩:=e1;exact .inr ⟨g,cap,cur,rfl,hb',by rw [Below.heap_setCell w _ u g (by simpa using hg.symm)];exact hg',hle,hm,hs,ht⟩
theorem dY {w:World} {base n:Nat} {e:TypeId} {v:Value} {xs:List Value} (h:w.ownsRow base e 1 v n xs) (h0:0 < n):∃ g cap,v=.slice (some ⟨g,0,none⟩) n cap∧base≤g∧g < w.heap.size:=by
 rcases h.2 with ⟨-,hn⟩ | ⟨g,cap,cur,rfl,hb,hg,-⟩
 ·omega
 ·exact ⟨g,cap,rfl,hb,(Array.getElem?_eq_some_iff.1 hg).1⟩
theorem eql_ints_nil (w:World) (a:Addr) (n c:Nat):(binOp .eql 56 (.slice (some a) n c) (.slice none 0 0)).run Tryz.prog w=.ok (.bool false) w:=by kernel_rfl
theorem clone_any (G:List Int) (v:Value) (w:World) (hl:G.length≤1000) (h0:0 < G.length) (hr:pz w v G) :
  Calls Tryz.prog 94 #[v] w fun e w'=>∃ u,e=.returned u∧w'.ownsRow w.heap.size 3 1 u G.length (G.map (Value.int .i64))∧Below w.heap.size w w':=by
 obtain ⟨g,off,cap,rfl,l1,l2,l3,hc0⟩:=kD hr h0;obtain ⟨i0,hi,hz0,hz1,hz2⟩:=info_parts infoI;have HC:=aa hc0;clear hc0 hr;unfold maxLen at l2;have en:=fun w=>eql_ints_nil w ⟨g,off,none⟩ G.length cap
 go_enter Tryz.func94,Tryz.ntmps94
 have HO:Hid ((w.alloc (.cells #[] 3)).ownsRow w.heap.size 3 1 (.slice (some ⟨w.heap.size,0,none⟩) 0 0) 0 []):=by
  have h:=World.ownsRow_lit (base:=w.heap.size) (size:=1) (e:=3) w #[] 0 (Nat.le_refl _) (by decide) rfl;exact aa (by simpa using h)
 have HN:Hid (∀ j u,(G.map (Value.int .i64))[j]?=some u→(w.alloc (.cells #[] 3)).cell? ((⟨g,off,none⟩:Addr).add j)=some u):=fun j u hu=>by
  have hj:j < G.length:=by
   have:=(List.getElem?_eq_some_iff.1 hu).1
   simpa using this
  have h1:=HC.out j hj;have h2:(w.alloc (.cells #[] 3)).cell? ⟨g,off+j,none⟩=w.cell? ⟨g,off+j,none⟩:=World.cell?_alloc_lt _ _ _ (by exact l3);have h3:(⟨g,off,none⟩:Addr).add j=⟨g,off+j,none⟩:=by simp [Addr.add]
  rw [h3,h2,h1]
  simp [List.getD,hj] at hu ⊢
  exact hu
 have ho:∀ u∈G.map (Value.int .i64),u.oneCell'=true:=ints_oneCell .i64 G;have HOC:=aa ho;clear ho
 go_wp2_with (at_builtin;go_must (refine wpList_append_own _ rfl (.tmp 5) (.tmp 6) 56 rfl w.heap.size 3 i0 (.int .i64 0) 1 8 Tryz.underlying56 hi hz0 hz1 hz2 rfl (by decide) _ _ _ rfl HO.out ⟨g,off,none⟩ G.length cap (G.map (Value.int .i64)) rfl (by simp) HN.out HOC.out (by show _≤2 ^ 63 - 1;omega) (by omega) (by simp) ?_))
 intro v' w3 ho3 hg3 _;have ho4:w3.ownsRow w.heap.size 3 1 v' G.length (G.map (Value.int .i64)):=by simpa using ho3
 have HO3:=aa ho4;have HB3:Hid (Below w.heap.size w w3):=((Below.refl _ _).alloc (Nat.le_refl _) _).grown hg3 (by simp) (fun k hk=>by have:=(HO.out.lt k hk).1;omega);clear ho3 hg3 ho4;obtain ⟨g3,cap3,rfl,-,-⟩:=dY HO3.out h0;go_wp2_with fail
 go_ret
 exact ⟨_,rfl,HO3.out,HB3.out⟩
theorem see_any (G:List Int) (v:Value) (p:Nat) (t:Int) (w:World) (hl:G.length≤1000) (hp:p < G.length) (hr:pz w v G) :
  Calls Tryz.prog 48 #[.agg #[v],.int .i64 p,.int .i64 t] w fun e w'=>∃ u,e=.returned (.agg #[u])∧w'.ownsRow w.heap.size 3 1 u (eF G p t).length ((eF G p t).map (Value.int .i64))∧Below w.heap.size w w':=by
 obtain ⟨g,off,cap,rfl,l1,l2,l3,hc0⟩:=kD hr (by omega);have HR:=aa hr;have HA:=aa (fun w=>ox G.length (some ⟨g,off,none⟩) cap p w hl);have d1:decide (0≤(p:Int))=true:=by simp
 have d2:decide ((p:Int) < (G.length:Int))=true:=by simp;omega
 rw [d1,d2] at HA;simp only [Bool.and_self] at HA;clear hc0 hr d1 d2;unfold maxLen at l2;have H1:Hid (Below w.heap.size w ((w.alloc (.cells #[.slice (some ⟨g,off,none⟩) G.length cap] 63)).alloc (.cells #[.slice none 0 0] 63))):=((Below.refl _ _).alloc (Nat.le_refl _) _).alloc (by simp) _
 go_enter Tryz.func48,Tryz.ntmps48
 go_wp2_with fail;refine (clone_any G _ _ hl (by omega) (aA HR.out H1.out)).mono ?_;rintro e w1 ⟨u,rfl,ho,hb⟩;obtain ⟨g1,cap1,rfl,hb1,hg1⟩:=dY ho (by omega);simp only [World.size_alloc] at hb1;have HB:=aa hb;have HO:=aa ho;clear hb ho;obtain ⟨hc,hf⟩:=rules HB;go_wp2_with fail;refine (HA.out _).mono ?_;rintro e w2 ⟨rfl,hb⟩;have HO:=aa (aC HO.out hb (Nat.le_refl _));have hg1:=Nat.lt_of_lt_of_le hg1 hb.size;have HB:=nxt HB hb;clear hb hc hf;obtain ⟨hc,hf⟩:=rules HB;have cx:w2.cell? ⟨g1,p,none⟩=some (.int .i64 (G.getD p 0)):=by
  have h:=HO.out.cellAt p (by omega);rw [h]
  simp [List.getD,hp]
 have fz:=ii HO.out p;obtain ⟨x,hx⟩:∃ x,G.getD p 0=x:=⟨_,rfl⟩;rw [hx] at cx;have HX:=aa hx;clear hx
 by_cases hxt:x < t
 ·have dxt:decide (x < t)=true:=by simp [hxt]
  have hmx:max x t=t:=by omega
  go_wp2_with fail;have ho2:=mD (base':=w.heap.size) (iG HO.out p (.int .i64 t)) (by simp only [World.size_alloc];omega) (g':=w.heap.size+1) (by simp only [World.size_alloc];omega) 0 (.slice (some ⟨g1,0,none⟩) G.length cap1);have hb2:=((H1.out.trans (HB.out.mono H1.out.size)).setCell (p:=⟨g1,p,none⟩) (show w.heap.size≤g1 by omega) (.int .i64 t)).setCell (p:=⟨w.heap.size+1,0,none⟩) (show w.heap.size≤w.heap.size+1 by omega) (.slice (some ⟨g1,0,none⟩) G.length cap1);have hl2:(eF G p t).map (Value.int .i64)=(G.map (Value.int .i64)).set p (.int .i64 t):=by
   unfold eF;rw [HX.out,show max x t=t from by omega,List.map_set]
  exact bodyPost_ret (v:=.agg #[.slice (some ⟨g1,0,none⟩) G.length cap1]) (by simp [results,Tryz.results48,go_sem,hc,hf]) rfl ⟨_,rfl,by rw [hl2,iU];exact ho2,hb2⟩
 ·have dxt:decide (x < t)=false:=by simp;omega
  have hmx:max x t=x:=by omega
  go_wp2_with fail;have ho2:=mD (base':=w.heap.size) (iG HO.out p (.int .i64 x)) (by simp only [World.size_alloc];omega) (g':=w.heap.size+1) (by simp only [World.size_alloc];omega) 0 (.slice (some ⟨g1,0,none⟩) G.length cap1);have hb2:=((H1.out.trans (HB.out.mono H1.out.size)).setCell (p:=⟨g1,p,none⟩) (show w.heap.size≤g1 by omega) (.int .i64 x)).setCell (p:=⟨w.heap.size+1,0,none⟩) (show w.heap.size≤w.heap.size+1 by omega) (.slice (some ⟨g1,0,none⟩) G.length cap1);have hl2:(eF G p t).map (Value.int .i64)=(G.map (Value.int .i64)).set p (.int .i64 x):=by
   unfold eF;rw [HX.out,show max x t=x from by omega,List.map_set]
  exact bodyPost_ret (v:=.agg #[.slice (some ⟨g1,0,none⟩) G.length cap1]) (by simp [results,Tryz.results48,go_sem,hc,hf]) rfl ⟨_,rfl,by rw [hl2,iU];exact ho2,hb2⟩
theorem cnew_any (n:Nat) (w:World) (h1:1≤n) (h3:n≤3) :
  Calls Tryz.prog 41 #[.int .i64 n] w fun e w'=>∃ u,e=.returned (.tuple #[.agg #[u],.nilIface])∧w'.ownsRow w.heap.size 3 1 u (dQ n).length ((dQ n).map (Value.int .i64))∧Below w.heap.size w w':=by
 obtain ⟨i0,hi,hz0,hz1,hz2⟩:=info_parts infoI
 go_enter Tryz.func41,Tryz.ntmps41
 go_wp2_with (at_make;go_must (refine wpList_make_full _ rfl _ _ 56 rfl w.heap.size 3 i0 (.int .i64 0) 1 Tryz.underlying56 hi hz0 hz1 .i64 .i64 _ _ n rfl rfl rfl rfl (by rw [hz2];omega) (by show _≤2 ^ 63 - 1;omega) (by simp) ?_))
 intro w1 ho hg;have HB:Hid (Below (w.alloc (.cells #[.slice none 0 0] 63)).heap.size (w.alloc (.cells #[.slice none 0 0] 63)) w1):=(Below.refl _ _).grown hg (Nat.le_refl _) (fun k hk=>by cases hk);have H1:Hid (Below w.heap.size w (w.alloc (.cells #[.slice none 0 0] 63))):=(Below.refl _ _).alloc (Nat.le_refl _) _;obtain ⟨L,hL,hM⟩:∃ L:List Int,L.length=n∧(madeCells #[Value.int .i64 0] n).toList=L.map (Value.int .i64):=by
  rcases (by omega:n=1∨n=2∨n=3) with rfl | rfl | rfl
  ·exact ⟨[0],rfl,by kernel_rfl⟩
  ·exact ⟨[0,0],rfl,by kernel_rfl⟩
  ·exact ⟨[0,0,0],rfl,by kernel_rfl⟩
 rw [hM] at ho;have HO:=aa ho;clear ho hg hM;have lt1:w.heap.size+1 < w1.heap.size:=by
  obtain ⟨g,cap,e,-,h⟩:=dY HO.out (by omega);simp only [Value.slice.injEq,Option.some.injEq,Addr.mk.injEq,and_true,true_and] at e;omega
 go_wp2_with fail
 go_loopw [17] (fun i wr=>∃ (m:Nat) (L:List Int),m≤n∧L.length=n∧i=.int .i64 m∧Hid (∀ j,j < m→L.getD j 0=-1)∧Hid (wr.ownsRow w.heap.size 3 1 (.slice (some ⟨w.heap.size+1,0,none⟩) n n) n (L.map (Value.int .i64)))∧Hid (Below (w.alloc (.cells #[.slice none 0 0] 63)).heap.size (w.alloc (.cells #[.slice none 0 0] 63)) wr)) (fun i _=>n - (intOf i).toNat)
 case atStart=>exact ⟨0,L,Nat.zero_le _,hL,rfl,fun j hj=>absurd hj (by omega),HO,HB⟩
 case round =>
  clear HO HB hL L;obtain ⟨m,L,hm,hL,rfl,HM,HO,HB⟩:=hrel
  by_cases hlt:m < n
  ·have cx:wr.cell? ⟨w.heap.size+1,m,none⟩=some (.int .i64 (L.getD m 0)):=by
    have h:=HO.out.cellAt m (by omega);rw [h]
    simp [List.getD,hL,hlt]
   have fz:=ii HO.out m;generalize hx:L.getD m 0=x at cx;clear hx;have hLH:=aa hL;clear hL;go_wp2_with fail;go_roundw
   case rel=>exact ⟨m+1,L.set m (-1),by omega,by simpa using hLH.out,by go_num,fun j hj=>by
     rw [List.getD_eq_getElem?_getD,List.getElem?_set]
     by_cases h9:m=j
     ·subst h9;simp [hLH.out,hlt]
     ·have:=HM.out j (by omega)
      rw [List.getD_eq_getElem?_getD] at this
      simp [h9,this],by
     have h:=iG HO.out m (.int .i64 (-1));rw [← List.map_set] at h;exact aa h,HB.out.setCell (p:=⟨w.heap.size+1,m,none⟩) (by simp) _⟩
   case measure=>simp [intOf];omega
  ·have hmn:m=n:=by omega
   subst hmn;have HE:Hid (L=dQ m):=by
    show _=_
    exact nums_ext (by rw [hL,none_len]) (fun i hi=>by rw [HM.out i (by omega)];simp [dQ,List.getD,show i < m from by omega])
   have HLm:=aa hL;clear hL;obtain ⟨hc,hf⟩:=rules HB;have HB2:=aa (H1.out.trans (HB.out.mono H1.out.size));go_wp2_with fail;have ho2:=owns_far2 (g':=w.heap.size) HO.out (by omega) 0 (.slice (some ⟨w.heap.size+1,0,none⟩) m m);have hb2:=HB2.out.setCell (p:=⟨w.heap.size,0,none⟩) (Nat.le_refl _) (.slice (some ⟨w.heap.size+1,0,none⟩) m m);exact bodyPost_ret (v:=.tuple #[.agg #[.slice (some ⟨w.heap.size+1,0,none⟩) m m],.nilIface]) (by simp [results,Tryz.results41,go_sem,hc,hf]) rfl ⟨_,rfl,by rw [← HE.out,HLm.out];exact ho2,hb2⟩
def eI (n:Nat):Value:=.int .i64 ((n:Nat):Int)
structure EgR (w0:World) (eb B b0:Nat) (q:Qy) (va vw vb:Value) (Rd:List Nat) (G:List Int) (late:Nat) (tb:List Pn) (rs:List (Rw×Value)) (rdv ckv tv rv:Value) (w:World):Prop where
 en:EnM w0 eb B q rdv ckv (eI late) va vw vb tb rs tv rv w
 rd:w.ownsRow b0 3 1 rdv Rd.length (Rd.map eI)
 rk:∀ k,rdv.ownBlock=some k→k≠eb∧k < B
 ck:w.ownsRow b0 3 1 ckv G.length (G.map (Value.int .i64))
 ca:∀ k,ckv.ownBlock=some k→k≠eb∧rdv.ownBlock≠some k∧rv.ownBlock≠some k
theorem pV {w0 w w':World} {eb B:Nat} {q:Qy} {rdv ckv ckv' ltv ltv' va vw vb:Value} {tb:List Pn} {rs:List (Rw×Value)} {tv rv:Value} (h:EnM w0 eb B q rdv ckv ltv va vw vb tb rs tv rv w) (K:KeptB w w' (fun k=>k=eb))
  (hbe:BlkAt w' eb [rdv,ckv',tv,ltv',rv,va,vw,vb,.int .i64 q.size,.int .i64 q.slide,.int .i64 q.delay,.int .i64 q.late]):EnM w0 eb B q rdv ckv' ltv' va vw vb tb rs tv rv w' :=
 ⟨hbe,cm h.tt K (fun k hk e=>h.ta.1 k (.inl e) hk) (fun p hp k hk e=>h.ta.2 p hp k (.inl e) hk),h.ta,bg h.ro K (fun k hk e=>h.re (by rw [← e];exact hk)),fun r hr=>⟨aZ (h.rn r hr).1 K (fun k hk e=>(h.rn r hr).2 k (.inl e) hk),(h.rn r hr).2⟩,h.re,Nat.le_trans h.bb K.b0.size,eO h.old K (fun k _ e=>.inl e),h.fa,h.fr⟩
theorem enM_rdK {w0 w w':World} {eb B:Nat} {q:Qy} {rdv ckv ltv va vw vb:Value} {tb:List Pn} {rs:List (Rw×Value)} {tv rv:Value} (h:EnM w0 eb B q rdv ckv ltv va vw vb tb rs tv rv w) (K:KeptB w w' (fun k=>rdv.ownBlock=some k))
  (rk:∀ k,rdv.ownBlock=some k→k≠eb∧k < B):EnM w0 eb B q rdv ckv ltv va vw vb tb rs tv rv w' :=
 ⟨aI h.be K (fun e=>(rk _ e).1 rfl),cm h.tt K (fun k hk e=>by have:=h.fa.1 k hk;have:=(rk k e).2;omega) (fun p hp k hk e=>by have:=h.fa.2 p hp k hk;have:=(rk k e).2;omega),h.ta,bg h.ro K (fun k hk e=>by have:=(aJ h.ro k hk).1;have:=(rk k e).2;omega),
  fun r hr=>⟨aZ (h.rn r hr).1 K (fun k hk e=>by have:=h.fr r hr k hk;have:=(rk k e).2;omega),(h.rn r hr).2⟩,h.re,Nat.le_trans h.bb K.b0.size,eO h.old K (fun k _ e=>.inr e),h.fa,h.fr⟩
section
variable {w0 w w':World} {eb B b0:Nat} {q:Qy} {va vw vb:Value} {Rd:List Nat} {G:List Int} {late:Nat} {tb tb':List Pn} {rs rs':List (Rw×Value)} {rdv ckv tv rv tv' rv':Value} {g c:Nat}
theorem eP (h:EgR w0 eb B b0 q va vw vb Rd G late tb rs rdv ckv tv rv w) (hb:Below w.heap.size w w'):EgR w0 eb B b0 q va vw vb Rd G late tb rs rdv ckv tv rv w' :=
 ⟨bW h.en hb,aC h.rd hb (Nat.le_refl _),h.rk,aC h.ck hb (Nat.le_refl _),h.ca⟩
theorem pf (h:EgR w0 eb B b0 q va vw vb Rd G late tb rs rdv ckv tv rv w) (hM:EnM w0 eb B q rdv ckv (eI late) va vw vb tb' rs' tv' rv' w') (K:KeptB w w' (fun k=>k=eb∨rv.ownBlock=some k)) (hrv:rv'.ownBlock=rv.ownBlock∨∃ k,rv'.ownBlock=some k∧w.heap.size≤k):EgR w0 eb B b0 q va vw vb Rd G late tb' rs' rdv ckv tv' rv' w':=by
 refine ⟨hM,bg h.rd K (fun k hk e=>?_),h.rk,bg h.ck K (fun k hk e=>?_),fun k hk=>⟨(h.ca k hk).1,(h.ca k hk).2.1,fun e=>?_⟩⟩
 ·have h1:=h.rk k hk
  rcases e with e | e
  ·exact h1.1 e
  ·have:=(aJ h.en.ro k e).1;omega
 ·have h1:=h.ca k hk
  rcases e with e | e
  ·exact h1.1 e
  ·exact h1.2.2 e
 ·rcases hrv with e9 | ⟨j,e9,hj⟩
  ·exact (h.ca k hk).2.2 (by rw [← e9];exact e)
  ·rw [e9] at e;cases e
   have:=(aJ h.ck k hk).2
   omega
theorem egR_late (h:EgR w0 eb B b0 q va vw vb Rd G late tb rs rdv ckv tv rv w) (n:Nat):EgR w0 eb B b0 q va vw vb Rd G n tb rs rdv ckv tv rv (w.setCell ⟨eb,3,none⟩ (eI n)):=by
 have K:=ah (ae (bad:=fun k=>k=eb) (Below.refl w.heap.size w)) (g:=eb) rfl 3 (eI n);exact ⟨pV h.en K (by simpa using ay h.en.be 3 (eI n) (by simp)),bg h.rd K (fun k hk e=>(h.rk k hk).1 e),h.rk,bg h.ck K (fun k hk e=>(h.ca k hk).1 e),h.ca⟩
theorem egR_clk (h:EgR w0 eb B b0 q va vw vb Rd G late tb rs rdv ckv tv rv w) {G':List Int} {ckv':Value} (hb:Below w.heap.size w w') (hc:w'.ownsRow w.heap.size 3 1 ckv' G'.length (G'.map (Value.int .i64))) (h0:b0≤w.heap.size):EgR w0 eb B b0 q va vw vb Rd G' late tb rs rdv ckv' tv rv (w'.setCell ⟨eb,1,none⟩ ckv'):=by
 have h9:=eP h hb;have hlt:=h.en.be.lt;have K:=ah (ae (bad:=fun k=>k=eb) (Below.refl w'.heap.size w')) (g:=eb) rfl 1 ckv';have hk:∀ k,ckv'.ownBlock=some k→w.heap.size≤k:=fun k e=>(aJ hc k e).1
 exact ⟨pV h9.en K (by simpa using ay h9.en.be 1 ckv' (by simp)),bg h9.rd K (fun k hk e=>(h.rk k hk).1 e),h.rk,bg (aN hc h0) K (fun k hk9 e=>by have:=hk k hk9;omega),fun k e=>⟨by have:=hk k e;omega,fun e9=>by have:=hk k e;have:=(aJ h.rd k e9).2;omega,fun e9=>by have:=hk k e;have:=(aJ h.en.ro k e9).2;omega⟩⟩
theorem egR_read (h:EgR w0 eb B b0 q va vw vb Rd G late tb rs (.slice (some ⟨g,0,none⟩) Rd.length c) ckv tv rv w) (p n:Nat):EgR w0 eb B b0 q va vw vb (Rd.set p n) G late tb rs (.slice (some ⟨g,0,none⟩) (Rd.set p n).length c) ckv tv rv (w.setCell ⟨g,p,none⟩ (eI n)):=by
 have K:=ah (ae (bad:=fun k=>(Value.slice (some ⟨g,0,none⟩) Rd.length c).ownBlock=some k) (Below.refl w.heap.size w)) (g:=g) rfl p (eI n);have e1:(Rd.set p n).length=Rd.length:=List.length_set;rw [e1];refine ⟨enM_rdK h.en K h.rk,?_,h.rk,bg h.ck K (fun k hk e=>(h.ca k hk).2.1 e),h.ca⟩;rw [e1,List.map_set];exact iG h.rd p (eI n)
end
theorem eu (t:List Value) (h:t.length=94):∃ f:Nat→Value,t=f 0 :: f 1 :: f 2 :: f 3 :: f 4 :: f 5 :: f 6 :: f 7 :: f 8 :: f 9 :: f 10 :: f 11 :: f 12 :: f 13 :: f 14 :: f 15 :: f 16 :: f 17 :: f 18 :: f 19 :: f 20 :: f 21 :: f 22 :: f 23 :: f 24 :: f 25 :: f 26 :: f 27 :: f 28 :: f 29 :: f 30 :: f 31 :: f 32 :: f 33 :: f 34 :: f 35 :: f 36 :: f 37 :: f 38 :: f 39 :: f 40 :: f 41 :: f 42 :: f 43 :: f 44 :: f 45 :: f 46 :: f 47 :: f 48 :: f 49 :: f 50 :: f 51 :: f 52 :: f 53 :: f 54 :: f 55 :: f 56 :: f 57 :: f 58 :: f 59 :: f 60 :: f 61 :: f 62 :: f 63 :: f 64 :: f 65 :: f 66 :: f 67 :: f 68 :: f 69 :: f 70 :: f 71 :: f 72 :: f 73 :: f 74 :: f 75 :: f 76 :: f 77 :: f 78 :: f 79 :: f 80 :: f 81 :: f 82 :: f 83 :: f 84 :: f 85 :: f 86 :: f 87 :: f 88 :: f 89 :: f 90 :: f 91 :: f 92 :: f 93 :: []∧∀ i,i < 94→t[i]?=some (f i):=by
 have e1:t=(List.range 94).map (fun i=>t.getD i undef):=by
  apply List.ext_getElem
  ·simp [h]
  ·intro i h1 h2
   simp [List.getD,h1]
 refine ⟨fun i=>t.getD i undef,?_,fun i hi=>?_⟩
 ·have e2:∀ g:Nat→Value,(List.range 94).map g=g 0 :: g 1 :: g 2 :: g 3 :: g 4 :: g 5 :: g 6 :: g 7 :: g 8 :: g 9 :: g 10 :: g 11 :: g 12 :: g 13 :: g 14 :: g 15 :: g 16 :: g 17 :: g 18 :: g 19 :: g 20 :: g 21 :: g 22 :: g 23 :: g 24 :: g 25 :: g 26 :: g 27 :: g 28 :: g 29 :: g 30 :: g 31 :: g 32 :: g 33 :: g 34 :: g 35 :: g 36 :: g 37 :: g 38 :: g 39 :: g 40 :: g 41 :: g 42 :: g 43 :: g 44 :: g 45 :: g 46 :: g 47 :: g 48 :: g 49 :: g 50 :: g 51 :: g 52 :: g 53 :: g 54 :: g 55 :: g 56 :: g 57 :: g 58 :: g 59 :: g 60 :: g 61 :: g 62 :: g 63 :: g 64 :: g 65 :: g 66 :: g 67 :: g 68 :: g 69 :: g 70 :: g 71 :: g 72 :: g 73 :: g 74 :: g 75 :: g 76 :: g 77 :: g 78 :: g 79 :: g 80 :: g 81 :: g 82 :: g 83 :: g 84 :: g 85 :: g 86 :: g 87 :: g 88 :: g 89 :: g 90 :: g 91 :: g 92 :: g 93 :: []:=fun _=>rfl
  exact e1.trans (e2 _)
 ·simp [List.getD,h,hi]
theorem oY (q:Qy) (g:Int) (h1:-1≤g) (h2:g≤100000) (hd:0≤q.delay∧q.delay≤100000):ml g q.delay=.tuple #[.int .i64 (bF q g),.bool (decide (0≤g))]:=by
 unfold ml bF
 by_cases h:g < 0
 ·rw [if_pos (by omega),if_pos h,decide_eq_false (by omega)]
 ·rw [if_neg (by omega),if_neg h,decide_eq_true (by omega),show RowKit.wrap64 (g - q.delay)=g - q.delay from by unfold RowKit.wrap64;omega]
theorem estep_r2 (Q:Exit→Act→World→Prop) (C2:Code) (h2:rgn 2 (Tryz.f17.body.getD .skip)=some C2) (t:List Value) (eb xb p:Nat) (rdv tv ltv rv:Value) (cka ao a2 a3:Option Addr) (ckn ckc cap c2 c3:Nat) (q:Qy) (ps:List (AgQ×Value)) (w:World) (G:List Int) (ht:t.length=94) (k0:t[0]?=some (.pointer (some ⟨eb,0,none⟩))) (k1:t[1]?=some (.int .i64 (p:Int))) (k5:t[5]?=some (.pointer (some ⟨xb,0,none⟩)))
  (BE:BlkAt w eb [rdv,Value.slice cka ckn ckc,tv,ltv,rv,Value.slice ao ps.length cap,Value.slice a2 q.wh.length c2,Value.slice a3 q.bys.length c3,Value.int .i64 q.size,Value.int .i64 q.slide,Value.int .i64 q.delay,Value.int .i64 q.late]) (PT:∀ w',Below w.heap.size w w'→Calls Tryz.prog 45 #[.agg #[.slice cka ckn ckc],.int .i64 (p:Int),.int .i64 q.delay] w' fun e w''=>e=.returned (.tuple #[.int .i64 (bF q (G.getD p 0)),.bool (decide (0≤G.getD p 0))])∧Below w'.heap.size w' w'')
  (hpan:∀ c (a:Act) o v w,Q (.panic c) (a.put o v) w→Q (.panic c) a w)
  (hQ:∀ (t':List Value)  (w':World),t'.length=94→t'[0]?=some (.pointer (some ⟨eb,0,none⟩))→t'[1]?=some (.int .i64 (p:Int))→t'[5]?=some (.pointer (some ⟨xb,0,none⟩))→t'[6]?=some (.int .i64 (bF q (G.getD p 0)))→t'[7]?=some (.bool (decide (0≤G.getD p 0)))→Below w.heap.size w w'→Q .normal { tmps:=t'.toArray,defers:=[] } w') :
  Code.wp Tryz.prog C2 Q { tmps:=t.toArray,defers:=[] } w:=by
 have HQ:=aa hQ;have HPN:=aa hpan;have hS:Below w.heap.size w ({ w with drawn:=w.drawn+1 }:World):=(Below.refl _ _).drew;have PT:=aa PT;clear hQ hpan;have BE:=aa BE;obtain ⟨f,hf,hi⟩:=eu t ht;have e0:=am (hi 0 (by decide)) k0;have e1:=am (hi 1 (by decide)) k1;have e5:=am (hi 5 (by decide)) k5;rw [e0,e1,e5] at hf;clear hi ht k0 e0 k1 e1 k5 e5;subst hf;unfold Tryz.f17 at h2
 simp [rgn] at h2
 subst h2;refine wp_region_held (S:=fun w'=>Below w.heap.size w w') (by kernel_rfl) ?_;generalize ({ w with drawn:=w.drawn+1 }:World)=wd at *;refine HT 0 (v:=.pointer (some ⟨eb,0,none⟩)) rfl HPN.out (fun wq hq=>by go_simp) hS ?_;refine HT 1 (v:=.pointer (some ⟨eb,0,none⟩)) rfl HPN.out (fun wq hq=>by go_simp) hS ?_;refine HT 2 (v:=.pointer (some ⟨eb,1,none⟩)) rfl HPN.out (fun wq hq=>by go_simp) hS ?_;refine HT 3 (v:=.agg #[.slice cka ckn ckc]) rfl HPN.out (fun wq hq=>by have K:=ai BE.out hq BE.out.lt;have q1:wq.cell? ⟨eb,1,none⟩=some (Value.slice cka ckn ckc):=K.c 1 (by simp);clear K;go_simp) hS ?_;refine HT 4 (v:=.int .i64 (p:Int)) rfl HPN.out (fun wq hq=>by go_simp) hS ?_;refine HT 5 (v:=.pointer (some ⟨eb,0,none⟩)) rfl HPN.out (fun wq hq=>by go_simp) hS ?_;refine HT 6 (v:=.pointer (some ⟨eb,0,none⟩)) rfl HPN.out (fun wq hq=>by go_simp) hS ?_;refine HT 7 (v:=.pointer (some ⟨eb,5,none⟩)) rfl HPN.out (fun wq hq=>by go_simp) hS ?_;refine HT 8 (v:=.pointer (some ⟨eb,10,none⟩)) rfl HPN.out (fun wq hq=>by go_simp) hS ?_;refine HT 9 (v:=.int .i64 q.delay) rfl HPN.out (fun wq hq=>by have K:=ai BE.out hq BE.out.lt;have q10:wq.cell? ⟨eb,10,none⟩=some (Value.int .i64 q.delay):=K.c 10 (by simp);clear K;go_simp) hS ?_;refine HG 10 rfl ?_;intro K' hK;go_simp;refine (PT.out _ hS).mono ?_;rintro e w1 ⟨rfl,hb⟩;have hS1:=hS.trans (hb.mono hS.size);refine hK _ _ ⟨hS1,?_⟩;clear hK;refine HT 11 (v:=.tuple #[.int .i64 (bF q (G.getD p 0)),.bool (decide (0≤G.getD p 0))]) rfl HPN.out (fun wq hq=>by go_simp) hS1 ?_;refine HT 12 (v:=.int .i64 (bF q (G.getD p 0))) rfl HPN.out (fun wq hq=>by go_simp) hS1 ?_;refine HT 13 (v:=.bool (decide (0≤G.getD p 0))) rfl HPN.out (fun wq hq=>by go_simp) hS1 ?_;refine HT 14 (v:=.int .i64 (bF q (G.getD p 0))) rfl HPN.out (fun wq hq=>by go_simp) hS1 ?_;refine HT 15 (v:=.bool (decide (0≤G.getD p 0))) rfl HPN.out (fun wq hq=>by go_simp) hS1 ?_;refine wpAnyH_done (by kernel_rfl) ?_ _;exact HQ.out _  _ rfl rfl rfl rfl rfl rfl hS1
theorem estep_r3 (Q:Exit→Act→World→Prop) (C3:Code) (h3:rgn 3 (Tryz.f17.body.getD .skip)=some C3) (t:List Value) (eb xb p:Nat) (rdv tv rv:Value) (cka ao a2 a3:Option Addr) (ckn ckc cap c2 c3:Nat) (q:Qy) (ps:List (AgQ×Value)) (w:World) (late n:Nat) (u:Int) (k:Bool) (rb0:Option Nat) (x:Ev) (P:World→Prop) (ht:t.length=94) (k0:t[0]?=some (.pointer (some ⟨eb,0,none⟩))) (k1:t[1]?=some (.int .i64 (p:Int))) (k5:t[5]?=some (.pointer (some ⟨xb,0,none⟩))) (k6:t[6]?=some (.int .i64 u)) (k7:t[7]?=some (.bool k))
  (BE:BlkAt w eb [rdv,Value.slice cka ckn ckc,tv,eI late,rv,Value.slice ao ps.length cap,Value.slice a2 q.wh.length c2,Value.slice a3 q.bys.length c3,Value.int .i64 q.size,Value.int .i64 q.slide,Value.int .i64 q.delay,Value.int .i64 q.late]) (BX:BlkAt w xb [Value.int .i64 x.t,Value.int .i64 x.k1,Value.int .i64 x.k2,Value.int .i64 x.a1,Value.int .i64 x.a2,Value.int .i64 x.b1,Value.int .i64 x.b2]) (hxe:¬ (xb=eb∨rb0=some xb)) (hn:n≤1000) (hl9:late≤1000000) (TK:∀ w',Below w.heap.size w w'→Calls Tryz.prog 46 #[.agg #[Value.slice ao ps.length cap,Value.slice a2 q.wh.length c2,Value.slice a3 q.bys.length c3,Value.int .i64 q.size,Value.int .i64 q.slide,Value.int .i64 q.delay,Value.int .i64 q.late],.agg #[Value.int .i64 x.t,Value.int .i64 x.k1,Value.int .i64 x.k2,Value.int .i64 x.a1,Value.int .i64 x.a2,Value.int .i64 x.b1,Value.int .i64 x.b2],.int .i64 u,.bool k,.func (.func 47) #[.pointer (some ⟨eb,0,none⟩)] #[]] w' fun e w''=>e=.returned (.int .i64 (n:Nat))∧P w'') (HP:∀ w',P w'→(KeptB w w' (fun k=>k=eb∨rb0=some k)∧∃ tv9 rv9,BlkAt w' eb [rdv,Value.slice cka ckn ckc,tv9,eI late,rv9,Value.slice ao ps.length cap,Value.slice a2 q.wh.length c2,Value.slice a3 q.bys.length c3,Value.int .i64 q.size,Value.int .i64 q.slide,Value.int .i64 q.delay,Value.int .i64 q.late]))
  (hpan:∀ c (a:Act) o v w,Q (.panic c) (a.put o v) w→Q (.panic c) a w)
  (hQ:∀ (t':List Value) (w1:World) (w':World),t'.length=94→t'[0]?=some (.pointer (some ⟨eb,0,none⟩))→t'[1]?=some (.int .i64 (p:Int))→t'[5]?=some (.pointer (some ⟨xb,0,none⟩))→P w1∧w'=w1.setCell ⟨eb,3,none⟩ (eI (late+n))→Q .normal { tmps:=t'.toArray,defers:=[] } w') :
  Code.wp Tryz.prog C3 Q { tmps:=t.toArray,defers:=[] } w:=by
 have HQ:=aa hQ;have HPN:=aa hpan;have hS:Below w.heap.size w ({ w with drawn:=w.drawn+1 }:World):=(Below.refl _ _).drew;have hd:=hS;have TK:=aa TK;have BX:=aa BX;have HP:=aa HP;have BXx:=aa hxe;have HW:=aa (kM ((late:Int)+(n:Int)) (by omega) (by omega));have HE9:Hid (eI (late+n)=.int .i64 ((late:Int)+(n:Int))):=by show _=_;unfold eI;rw [Int.natCast_add]
 have hS:(KeptB w ({ w with drawn:=w.drawn+1 }:World) (fun k=>k=eb∨rb0=some k)∧∃ tv9 rv9,BlkAt ({ w with drawn:=w.drawn+1 }:World) eb [rdv,Value.slice cka ckn ckc,tv9,eI late,rv9,Value.slice ao ps.length cap,Value.slice a2 q.wh.length c2,Value.slice a3 q.bys.length c3,Value.int .i64 q.size,Value.int .i64 q.slide,Value.int .i64 q.delay,Value.int .i64 q.late]):=⟨ae hS,tv,rv,ai BE hS BE.lt⟩;clear hQ hpan;have BE:=aa BE;obtain ⟨f,hf,hi⟩:=eu t ht;have e0:=am (hi 0 (by decide)) k0;have e1:=am (hi 1 (by decide)) k1;have e5:=am (hi 5 (by decide)) k5;have e6:=am (hi 6 (by decide)) k6;have e7:=am (hi 7 (by decide)) k7;rw [e0,e1,e5,e6,e7] at hf;clear hi ht k0 e0 k1 e1 k5 e5 k6 e6 k7 e7;subst hf;unfold Tryz.f17 at h3
 simp [rgn] at h3
 subst h3;refine aV (fun w'=>(KeptB w w' (fun k=>k=eb∨rb0=some k)∧∃ tv9 rv9,BlkAt w' eb [rdv,Value.slice cka ckn ckc,tv9,eI late,rv9,Value.slice ao ps.length cap,Value.slice a2 q.wh.length c2,Value.slice a3 q.bys.length c3,Value.int .i64 q.size,Value.int .i64 q.slide,Value.int .i64 q.delay,Value.int .i64 q.late])) 17 (by kernel_rfl) ?_;generalize ({ w with drawn:=w.drawn+1 }:World)=wd at *;refine LT 0 (v:=.pointer (some ⟨eb,0,none⟩)) [1,2,3,14,15,16,17] rfl HPN.out (fun wq hq=>by go_simp) hS ?_;refine LT 1 (v:=.pointer (some ⟨eb,0,none⟩)) [2,3,14,17] rfl HPN.out (fun wq hq=>by go_simp) hS ?_;refine LT 2 (v:=.pointer (some ⟨eb,3,none⟩)) [3,14,17] rfl HPN.out (fun wq hq=>by go_simp) hS ?_;refine LT 3 (v:=.int .i64 (late:Int)) [14,17] rfl HPN.out (fun wq hq=>by obtain ⟨-,tv9,rv9,K⟩:=hq;have q3:wq.cell? ⟨eb,3,none⟩=some (eI late):=K.c 3 (by simp);clear K;unfold eI at *;go_simp) hS ?_;refine LT 4 (v:=.pointer (some ⟨eb,0,none⟩)) [5,6,7,13,14,17] rfl HPN.out (fun wq hq=>by go_simp) hS ?_;refine LT 5 (v:=.pointer (some ⟨eb,0,none⟩)) [6,7,13,14,17] rfl HPN.out (fun wq hq=>by go_simp) hS ?_;refine LT 6 (v:=.pointer (some ⟨eb,5,none⟩)) [7,13,14,17] rfl HPN.out (fun wq hq=>by go_simp) hS ?_;refine LT 7 (v:=.agg #[Value.slice ao ps.length cap,Value.slice a2 q.wh.length c2,Value.slice a3 q.bys.length c3,Value.int .i64 q.size,Value.int .i64 q.slide,Value.int .i64 q.delay,Value.int .i64 q.late]) [13,14,17] rfl HPN.out (fun wq hq=>by obtain ⟨-,tv9,rv9,K⟩:=hq;have q5:wq.cell? ⟨eb,5,none⟩=some (Value.slice ao ps.length cap):=K.c 5 (by simp);have q6:wq.cell? ⟨eb,6,none⟩=some (Value.slice a2 q.wh.length c2):=K.c 6 (by simp);have q7:wq.cell? ⟨eb,7,none⟩=some (Value.slice a3 q.bys.length c3):=K.c 7 (by simp);have q8:wq.cell? ⟨eb,8,none⟩=some (Value.int .i64 q.size):=K.c 8 (by simp);have q9:wq.cell? ⟨eb,9,none⟩=some (Value.int .i64 q.slide):=K.c 9 (by simp);have q10:wq.cell? ⟨eb,10,none⟩=some (Value.int .i64 q.delay):=K.c 10 (by simp);have q11:wq.cell? ⟨eb,11,none⟩=some (Value.int .i64 q.late):=K.c 11 (by simp);clear K;go_simp) hS ?_;refine LT 8 (v:=.agg #[Value.int .i64 x.t,Value.int .i64 x.k1,Value.int .i64 x.k2,Value.int .i64 x.a1,Value.int .i64 x.a2,Value.int .i64 x.b1,Value.int .i64 x.b2]) [13,14,17] rfl HPN.out (fun wq hq=>by have K:=aI BX.out hq.1 BXx.out;have q0:wq.cell? ⟨xb,0,none⟩=some (Value.int .i64 x.t):=K.c 0 (by simp);have q1:wq.cell? ⟨xb,1,none⟩=some (Value.int .i64 x.k1):=K.c 1 (by simp);have q2:wq.cell? ⟨xb,2,none⟩=some (Value.int .i64 x.k2):=K.c 2 (by simp);have q3:wq.cell? ⟨xb,3,none⟩=some (Value.int .i64 x.a1):=K.c 3 (by simp);have q4:wq.cell? ⟨xb,4,none⟩=some (Value.int .i64 x.a2):=K.c 4 (by simp);have q5:wq.cell? ⟨xb,5,none⟩=some (Value.int .i64 x.b1):=K.c 5 (by simp);have q6:wq.cell? ⟨xb,6,none⟩=some (Value.int .i64 x.b2):=K.c 6 (by simp);clear K;go_simp) hS ?_;refine LT 9 (v:=.int .i64 u) [13,14,17] rfl HPN.out (fun wq hq=>by go_simp) hS ?_
 refine LT 10 (v:=.bool k) [13,14,17] rfl HPN.out (fun wq hq=>by go_simp) hS ?_;refine LT 11 (v:=.pointer (some ⟨eb,0,none⟩)) [12,13,14,17] rfl HPN.out (fun wq hq=>by go_simp) hS ?_;refine LT 12 (v:=.func (.func 47) #[.pointer (some ⟨eb,0,none⟩)] #[]) [13,14,17] rfl HPN.out (fun wq hq=>by go_simp) hS ?_;refine LG 13 rfl ?_;intro K' hK;go_simp;refine (TK.out _ hd).mono ?_;rintro e w1 ⟨rfl,hp1⟩;have hS1:=HP.out w1 hp1;refine hK _ _ ⟨fun _=>hS1,?_⟩;clear hK;refine LT 14 (v:=.int .i64 ((late:Int)+(n:Int))) [17] rfl HPN.out (fun wq hq=>by have hw:=HW.out;go_simp) hS1 ?_;refine LT 15 (v:=.pointer (some ⟨eb,0,none⟩)) [16,17] rfl HPN.out (fun wq hq=>by go_simp) hS1 ?_;refine LT 16 (v:=.pointer (some ⟨eb,3,none⟩)) [17] rfl HPN.out (fun wq hq=>by go_simp) hS1 ?_;refine LG 17 rfl ?_;intro K' hK;obtain ⟨-,tv9,rv9,K9⟩:=id hS1;have q3:w1.cell? ⟨eb,3,none⟩=some (eI late):=K9.c 3 (by simp);unfold eI at q3;have f3:=K9.fz 3;have l3:=K9.lt;clear K9;go_simp;refine hK _ _ ⟨fun h=>absurd rfl h,?_⟩;clear hK;refine bI (by kernel_rfl) ?_ _;exact HQ.out _ w1 _ rfl rfl rfl rfl ⟨hp1,by rw [HE9.out]⟩
end Go.Proofs.YtcgjflamgnjhcaaGreatDoor
