/- Own texts in one. Conditions: as named in each. -/
import Derived.Test.YtcgjflamgnjhcaaGreatDoorExpr8J
import Derived.Test.YtcgjflamgnjhcaaGreatDoorKinJ
import Derived.Laws.IdiomCopy
import Derived.Laws.IdiomStrings
import Derived.Lib.LazyBuf
import Derived.Deep.MidRow
set_option linter.unusedVariables false
set_option linter.unusedSimpArgs false
set_option maxRecDepth 100000
set_option maxHeartbeats 8000000
namespace Go.Proofs.YtcgjflamgnjhcaaGreatDoor
open Go.ChangeShapes Go.WideShapes Go.ChangeAt Go.RowKit
theorem tl_same (a:ByteArray):(a.toList == a.toList)=true:=by simp
theorem nA {a b:ByteArray} (h:a≠b):(a.toList == b.toList)=false:=by
 rw [beq_eq_false_iff_ne];intro e
 apply h
 rw [Lib.toList_data,Lib.toList_data] at e;cases a;cases b;simp at e;rw [e]
def pi (e c:Int):Int:=if e=0 then c else e
theorem mJ (c:Int):pi 0 c=c:=rfl
theorem hH {e:Int} (h:e≠0) (c:Int):pi e c=e:=by unfold pi;rw [if_neg h]
def hdW (ws:Ws):ByteArray:=match ws with
 | []=>⟨#[]⟩
 | x :: _=>x
theorem iK (gp gm:Nat) (wv:Value) (ws:Ws) (d e:Int) (w:World) (h:PS w gp gm wv ws d e) :
  Calls Tryz.prog 147 #[.pointer (some ⟨gp,0,none⟩)] w fun r w'=>r=.returned (.string (hdW ws))∧Below w.heap.size w w':=by
 have c0:w.cell? ⟨gp,0,none⟩=some wv:=h.bd.c 0 (by simp);cases ws with
 | nil =>
  obtain ⟨ao,cap,rfl⟩:=am h.row;clear h
  go_enter Tryz.func147,Tryz.ntmps147
  go_wp2_with fail
  go_ret
  exact ⟨rfl,Below.refl _ _⟩
 | cons x ws =>
  obtain ⟨g,off,cap,rfl,h1,h2,h3,h4,h5⟩:=nD h.row;have hf:=h.few;have hn:(((ws.length:Int)+1) == 0)=false:=by simp;omega
  have hn2:(0:Int) < (ws.length:Int)+1:=by omega
  unfold maxLen at h2;clear h h5
  go_enter Tryz.func147,Tryz.ntmps147
  go_wp2_with fail
  go_ret
  exact ⟨rfl,Below.refl _ _⟩
theorem ki (gp gm:Nat) (wv:Value) (x:ByteArray) (ws:Ws) (d e:Int) (w:World) (h:PS w gp gm wv (x :: ws) d e) :
  Calls Tryz.prog 148 #[.pointer (some ⟨gp,0,none⟩)] w fun r w'=>r=.returned (.tuple #[])∧KeptB w w' (fun q=>q=gp)∧∃ wv',PS w' gp gm wv' ws d e:=by
 have c0:w.cell? ⟨gp,0,none⟩=some wv:=h.bd.c 0 (by simp);obtain ⟨g,off,cap,rfl,h1,h2,h3,h4,h5⟩:=nD h.row;have f0:=h.bd.fz 0;have hg:g < gp:=h.far g off _ cap rfl;have he:e=0:=Classical.byContradiction fun he=>by have:=h.e0 he;cases this
 have hle:(1:Int)≤(ws.length:Int)+1:=by omega
 have hcp:(ws.length:Int)+1≤(cap:Int):=by omega
 have far2:∀ (o m c:Nat) g' off' m' c',Value.slice (some ⟨g,o,none⟩) m c=.slice (some ⟨g',off',none⟩) m' c'→g' < gp:=fun o m c g' off' m' c' hq=>by
  simp only [Value.slice.injEq,Option.some.injEq,Addr.mk.injEq] at hq;rw [← hq.1.1];exact hg
 have hfw:ws.length≤100:=by have:=h.few;simp at this;omega
 by_cases hc1:cap=1
 ·have hw0:ws=[]:=List.eq_nil_of_length_eq_zero (by omega);subst hc1 hw0;have B0:=az h.bd 0 (.slice (some ⟨g,off,none⟩) 0 0) (by simp);have PS0:=aa (mL h 0 (.slice (some ⟨g,off,none⟩) 0 0) (ws':=[]) (d':=d) (e':=e) (by simpa using B0) ⟨rfl,.inl ⟨⟨_,_,rfl⟩,rfl⟩⟩ (far2 off 0 0) (fun h9=>absurd he h9) (by simp));clear h h5 B0 far2
  go_enter Tryz.func148,Tryz.ntmps148
  go_wp2_with fail;refine ⟨rfl,_,by simp [results],rfl,PS0.out.2,_,PS0.out.1⟩
 ·have B0:=az h.bd 0 (.slice (some ⟨g,off+1,none⟩) ws.length (cap - 1)) (by simp);have PS0:=aa (mL h 0 (.slice (some ⟨g,off+1,none⟩) ws.length (cap - 1)) (d':=d) (e':=e) (by simpa using B0) h5 (far2 _ _ _) (fun h9=>absurd he h9) hfw);unfold maxLen at h2;have hc2:¬ (cap:Int)=1:=by omega
  have hc3:0 < cap - 1:=by omega
  clear h h5 B0 far2
  go_enter Tryz.func148,Tryz.ntmps148
  go_wp2_with fail;refine ⟨rfl,_,by simp [results],rfl,PS0.out.2,_,PS0.out.1⟩
def oE (w w':World) (gp gm:Nat) (word:ByteArray) (wv:Value) (ws:Ws) (d e:Int) (r:Ending):Prop :=
 match tk word ws with
 | some ws1=>r=.returned (.bool true)∧KeptB w w' (fun q=>q=gp)∧∃ wv',PS w' gp gm wv' ws1 d e
 | none=>r=.returned (.bool false)∧KeptB w w' (fun q=>q=gp)∧PS w' gp gm wv ws d e
theorem ky (gp gm:Nat) (word:ByteArray) (hw0:word≠⟨#[]⟩) (wv:Value) (ws:Ws) (d e:Int) (w:World) (h:PS w gp gm wv ws d e) :
  Calls Tryz.prog 109 #[.pointer (some ⟨gp,0,none⟩),.string word] w fun r w'=>oE w w' gp gm word wv ws d e r:=by
 have NX:=aa (iK gp gm wv ws d e w h);have H:=aa h;unfold oE;cases ht:tk word ws with
 | none =>
  have hne:((hdW ws).toList == word.toList)=false:=by
   cases ws with
   | nil=>exact nA (fun e9=>hw0 e9.symm)
   | cons x r =>
    simp only [tk] at ht
    by_cases e9:x=word
    ·rw [if_pos e9] at ht;cases ht
    ·exact nA e9
  clear h ht hw0;generalize hdW ws=x at *
  go_enter Tryz.func109,Tryz.ntmps109
  go_wp2_with fail;refine NX.out.mono ?_;rintro r w1 ⟨rfl,hb⟩;have HB:=aa hb;clear hb NX;go_wp2_with fail
  go_ret
  exact ⟨rfl,ae HB.out,bA H.out HB.out⟩
 | some ws1 =>
  cases ws with
  | nil=>simp [tk] at ht
  | cons x r =>
   simp only [tk] at ht
   by_cases e9:x=word
   ·rw [if_pos e9] at ht;cases ht;subst e9;have hx:hdW (x :: ws1)=x:=rfl;rw [hx] at NX;have hne:(x.toList == x.toList)=true:=tl_same x;clear h hx hw0
    go_enter Tryz.func109,Tryz.ntmps109
    go_wp2_with fail;refine NX.out.mono ?_;rintro r w1 ⟨rfl,hb⟩;have HB:=aa hb;have SK:=aa (ki gp gm wv x ws1 d e w1 (bA H.out hb));clear hb NX;go_wp2_with fail;refine SK.out.mono ?_;rintro r w2 ⟨rfl,hk,wv',hp⟩;have HK:=aa hk;have HP:=aa hp;clear hk hp SK;go_wp2_with fail
    go_ret
    exact ⟨rfl,af (ae HB.out) HK.out,wv',HP.out⟩
   ·rw [if_neg e9] at ht;cases ht
theorem fI (gp gm:Nat) (c:Int) (hc:0 < c) (wv:Value) (ws:Ws) (d e:Int) (w:World) (h:PS w gp gm wv ws d e) :
  Calls Tryz.prog 112 #[.pointer (some ⟨gp,0,none⟩),.iface 93 (.int .i64 c)] w fun r w'=>r=.returned (.tuple #[])∧KeptB w w' (fun q=>q=gp)∧PS w' gp gm (.slice none 0 0) [] d (pi e c):=by
 have c3:w.cell? ⟨gp,3,none⟩=some (errC e):=h.bd.c 3 (by simp);have c0:w.cell? ⟨gp,0,none⟩=some wv:=h.bd.c 0 (by simp);have f3:=h.bd.fz 3;have f0:=h.bd.fz 0;have nilrow:∀ w:World,bK w (.slice none 0 0) 1 ([]:Ws).length (([]:Ws).map Value.string):=fun w=>⟨rfl,.inl ⟨⟨_,_,rfl⟩,rfl⟩⟩
 have nofar:∀ g off m c',Value.slice none 0 0=.slice (some ⟨g,off,none⟩) m c'→g < gp:=fun g off m c' hq=>by simp at hq
 by_cases he:e=0
 ·subst he;have ec:errC 0=.nilIface:=rfl;rw [ec] at c3;have B3:=az h.bd 3 (.iface 93 (.int .i64 c)) (by simp);have c0b:(w.setCell ⟨gp,3,none⟩ (.iface 93 (.int .i64 c))).cell? ⟨gp,0,none⟩=some wv:=B3.c 0 (by simp);have f0b:=B3.fz 0;have B0:=az B3 0 (.slice none 0 0) (by simp);have cne:errC c=.iface 93 (.int .i64 c):=by unfold errC;rw [if_neg (by omega)]
  have ks:KeptB w ((w.setCell ⟨gp,3,none⟩ (.iface 93 (.int .i64 c))).setCell ⟨gp,0,none⟩ (.slice none 0 0)) (fun q=>q=gp):=ai (ai (ae (bad:=fun q=>q=gp) (Below.refl w.heap.size w)) rfl 3 _) rfl 0 _;have P0:Hid (PS ((w.setCell ⟨gp,3,none⟩ (.iface 93 (.int .i64 c))).setCell ⟨gp,0,none⟩ (.slice none 0 0)) gp gm (.slice none 0 0) [] d c):=by
   refine ⟨?_,nilrow _,nofar,fE h.sg ks h.ne,h.lt,fun _=>rfl,by simp⟩;rw [cne]
   simpa using B0
  have KS:=aa ks;clear h B3 B0 ks cne ec
  go_enter Tryz.func112,Tryz.ntmps112
  go_wp2_with fail;refine ⟨rfl,_,by simp [results],rfl,KS.out,by rw [mJ];exact P0.out⟩
 ·have ec:errC e=.iface 93 (.int .i64 e):=by unfold errC;rw [if_neg he]
  rw [ec] at c3;have B0:=az h.bd 0 (.slice none 0 0) (by simp);have P0:=aa (mL h 0 (.slice none 0 0) (ws':=[]) (d':=d) (e':=e) (by simpa using B0) (nilrow _) nofar (fun _=>rfl) (by simp));have HE:=aa he;clear h B0 ec he
  go_enter Tryz.func112,Tryz.ntmps112
  go_wp2_with fail;refine ⟨rfl,_,by simp [results],rfl,P0.out.2,by rw [hH HE.out];exact P0.out.1⟩
theorem mE (gp gm:Nat) (word:ByteArray) (hw0:word≠⟨#[]⟩) (wv:Value) (ws:Ws) (d e:Int) (w:World) (h:PS w gp gm wv ws d e) :
  Calls Tryz.prog 107 #[.pointer (some ⟨gp,0,none⟩),.string word] w fun r w'=>r=.returned (.tuple #[])∧KeptB w w' (fun q=>q=gp)∧∃ wv',match tk word ws with
   | some ws1=>PS w' gp gm wv' ws1 d e
   | none=>PS w' gp gm wv' [] d (pi e 4):=by
 have TK:=ky gp gm word hw0 wv ws d e w h;unfold oE at TK;clear h;cases ht:tk word ws with
 | some ws1 =>
  rw [ht] at TK;have TK:=aa TK
  go_enter Tryz.func107,Tryz.ntmps107
  go_wp2_with fail;refine TK.out.mono ?_;rintro r w1 ⟨rfl,hk,wv',hp⟩;have HK:=aa hk;have HP:=aa hp;clear hk hp TK;go_wp2_with fail;refine ⟨rfl,_,by simp [results],rfl,HK.out,wv',HP.out⟩
 | none =>
  rw [ht] at TK;have TK:=aa TK
  go_enter Tryz.func107,Tryz.ntmps107
  go_wp2_with fail;refine TK.out.mono ?_;rintro r w1 ⟨rfl,hk,hp⟩;have HK:=aa hk;have FL:=aa (fI gp gm 4 (by decide) wv ws d e w1 hp);clear hk hp TK;go_wp2_with fail;refine FL.out.mono ?_;rintro r w2 ⟨rfl,hk,hp⟩;have HK2:=aa hk;have HP:=aa hp;clear hk hp FL;go_wp2_with fail;refine ⟨rfl,_,by simp [results],rfl,af HK.out HK2.out,_,HP.out⟩
def lead:Code→Option Nat
 | .region id _ _=>some id
 | .seq a _=>lead a
 | .cond _ a _=>lead a
 | .block _ b=>lead b
 | .loop b=>lead b
 | .scope b=>lead b
 | _=>none
def stm (n:Nat):Code→Option Code
 | .seq a b=>(stm n a).or (stm n b)
 | .region id ops d=>if id=n then some (.region id ops d) else none
 | .cond c a b=>if lead a=some n then some (.cond c a b) else (stm n a).or (stm n b)
 | .block i b=>if lead b=some n then some (.block i b) else stm n b
 | .loop b=>if lead b=some n then some (.loop b) else stm n b
 | .scope b=>if lead b=some n then some (.scope b) else stm n b
 | _=>none
def rgn (n:Nat):Code→Option Code
 | .region id ops d=>if id=n then some (.region id ops d) else none
 | .seq a b=>(rgn n a).or (rgn n b)
 | .cond _ a b=>(rgn n a).or (rgn n b)
 | .block _ b=>rgn n b
 | .loop b=>rgn n b
 | .scope b=>rgn n b
 | _=>none
theorem aQ {next:Act→World→Prop} {Q:Exit→Act→World→Prop} {a:Act} {w:World} (h:next a w):Exit.then next Q .normal a w:=h
theorem in_normal {Q:Exit→Act→World→Prop} {id:Nat} {a:Act} {w:World} (h:Q .normal a w):Exit.inBlock id Q .normal a w:=h
theorem lG {K:Act→World→Prop} {Q:Exit→Act→World→Prop} {id:Nat} {a:Act} {w:World} (h:Q (.exit id) a w):Exit.then K Q (.exit id) a w:=h
theorem in_exit {Q:Exit→Act→World→Prop} {id:Nat} {a:Act} {w:World} (h:Q .normal a w):Exit.inBlock id Q (.exit id) a w:=by
 simp only [Exit.inBlock,if_true];exact h
theorem aq {t:List Value} {f:Nat→Value} {i:Nat} {v:Value} (h:t[i]?=some (f i)) (hv:t[i]?=some v):f i=v:=Option.some.inj (h.symm.trans hv)
theorem pan_put {Q:Exit→Act→World→Prop} (h:∀ c (a a':Act) w,a.defers=a'.defers→Q (.panic c) a w→Q (.panic c) a' w):∀ c (a:Act) o v w,Q (.panic c) (a.put o v) w→Q (.panic c) a w:=fun c a o v w hq=>h c _ _ w (by cases o <;> rfl) hq
theorem eJ {P:Program} {fn:Func} {R:Ending→World→Prop}:∀ c (a:Act) o v w,bodyPost P fn R (.panic c) (a.put o v) w→bodyPost P fn R (.panic c) a w:=pan_put (fun c a a' w he h=>⟨he ▸ h.1,h.2⟩)
theorem bX {K:Act→World→Prop} {Q:Exit→Act→World→Prop} (h:∀ c (a:Act) o v w,Q (.panic c) (a.put o v) w→Q (.panic c) a w):∀ c (a:Act) o v w,Exit.then K Q (.panic c) (a.put o v) w→Exit.then K Q (.panic c) a w:=h
theorem pan_block {id:Nat} {Q:Exit→Act→World→Prop} (h:∀ c (a:Act) o v w,Q (.panic c) (a.put o v) w→Q (.panic c) a w):∀ c (a:Act) o v w,Exit.inBlock id Q (.panic c) (a.put o v) w→Exit.inBlock id Q (.panic c) a w:=h
theorem aj (w:World) (o:Obj):Below w.heap.size w (w.alloc o):=(Below.refl _ _).alloc (Nat.le_refl _) o
theorem ay (w:World) (cs:List Value) (e:TypeId):BlkAt (w.alloc (.cells cs.toArray e)) w.heap.size cs:=by
 refine ⟨fun j hj=>?_,fun o=>by go_simp,by simp⟩
 simp
theorem jP (g o j:Nat):(⟨g,o,none⟩:Addr).add j=⟨g,o+j,none⟩:=by unfold Addr.add;split <;> simp_all
theorem ju (n:Int) (h0:-9223372036854775808≤n) (h1:n≤9223372036854775807):IntKind.i64.wrap n=n:=by
 rw [IntKind.wrap_i64];omega
theorem ny (t:List Value) (h:t.length=30):∃ f:Nat→Value,t=f 0 :: f 1 :: f 2 :: f 3 :: f 4 :: f 5 :: f 6 :: f 7 :: f 8 :: f 9 :: f 10 :: f 11 :: f 12 :: f 13 :: f 14 :: f 15 :: f 16 :: f 17 :: f 18 :: f 19 :: f 20 :: f 21 :: f 22 :: f 23 :: f 24 :: f 25 :: f 26 :: f 27 :: f 28 :: f 29 :: []∧∀ i,i < 30→t[i]?=some (f i):=by
 have e1:t=(List.range 30).map (fun i=>t.getD i undef):=by
  apply List.ext_getElem
  ·simp [h]
  ·intro i h1 h2
   simp [List.getD,h1]
 refine ⟨fun i=>t.getD i undef,?_,fun i hi=>?_⟩
 ·have e2:∀ g:Nat→Value,(List.range 30).map g=g 0 :: g 1 :: g 2 :: g 3 :: g 4 :: g 5 :: g 6 :: g 7 :: g 8 :: g 9 :: g 10 :: g 11 :: g 12 :: g 13 :: g 14 :: g 15 :: g 16 :: g 17 :: g 18 :: g 19 :: g 20 :: g 21 :: g 22 :: g 23 :: g 24 :: g 25 :: g 26 :: g 27 :: g 28 :: g 29 :: []:=fun _=>rfl
  exact e1.trans (e2 _)
 ·simp [List.getD,h,hi]
theorem takeSign_r1 (Q:Exit→Act→World→Prop) (C1:Code) (h1:rgn 1 (Tryz.f166.body.getD .skip)=some C1) (t:List Value) (gp gm g4:Nat) (wv:Value) (ws:Ws) (d e rank:Int) (w:World) (ht:t.length=30) (k0:t[0]?=some (.pointer (some ⟨gp,0,none⟩))) (k1:t[1]?=some (.int .i64 rank)) (k4:t[4]?=some (.pointer (some ⟨g4,0,none⟩)))
  (h:PS w gp gm wv ws d e)
  (hpan:∀ c (a:Act) o v w,Q (.panic c) (a.put o v) w→Q (.panic c) a w)
  (hQ:∀ (t':List Value) (gs:Nat) (s:Sg) (b:Bool) (w':World),t'.length=30→t'[0]?=some (.pointer (some ⟨gp,0,none⟩))→t'[1]?=some (.int .i64 rank)→t'[4]?=some (.pointer (some ⟨g4,0,none⟩))→t'[6]?=some (.pointer (some ⟨gs,0,none⟩))→t'[7]?=some (.bool b)→(sgIn sgL (hdW ws)).getD sg0=s∧(sgIn sgL (hdW ws)).isSome=b∧BlkAt w' gs [.int .i64 s.rank,.int .i64 s.op,.bool s.turned,.bool s.denied]∧w.heap.size≤gs∧Below w.heap.size w w'→Q .normal { tmps:=t'.toArray,defers:=[] } w') :
  Code.wp Tryz.prog C1 Q { tmps:=t.toArray,defers:=[] } w:=by
 have HQ:=aa hQ;have HPN:=aa hpan;have dd:Below w.heap.size w ({ w with drawn:=w.drawn+1 }:World):=(Below.refl _ _).drew;have H:=aa h;have hS:=dd;obtain ⟨s,hs⟩:∃ s,(sgIn sgL (hdW ws)).getD sg0=s:=⟨_,rfl⟩;obtain ⟨b,hb⟩:∃ b,(sgIn sgL (hdW ws)).isSome=b:=⟨_,rfl⟩;have HS:=aa hs;have HBL:=aa hb;clear hQ hpan h dd hs hb;obtain ⟨f,hf,hi⟩:=ny t ht;have e0:=aq (hi 0 (by decide)) k0;have e1:=aq (hi 1 (by decide)) k1;have e4:=aq (hi 4 (by decide)) k4;rw [e0,e1,e4] at hf;clear hi ht k0 e0 k1 e1 k4 e4;subst hf;unfold Tryz.f166 at h1
 simp [rgn] at h1
 subst h1;refine wp_region_held (S:=fun w'=>Below w.heap.size w w') (by kernel_rfl) ?_;generalize ({ w with drawn:=w.drawn+1 }:World)=wd at *;refine HT 0 (v:=.pointer (some ⟨gp,0,none⟩)) rfl HPN.out (fun wq hq=>by go_simp) hS ?_;refine HT 1 (v:=.pointer (some ⟨gp,0,none⟩)) rfl HPN.out (fun wq hq=>by go_simp) hS ?_;refine HT 2 (v:=.pointer (some ⟨gp,1,none⟩)) rfl HPN.out (fun wq hq=>by go_simp) hS ?_;refine HT 3 (v:=.map (some gm)) rfl HPN.out (fun wq hq=>by have q:=(bA H.out hq).bd.c 1 (by simp);go_simp) hS ?_;refine HT 4 (v:=.pointer (some ⟨gp,0,none⟩)) rfl HPN.out (fun wq hq=>by go_simp) hS ?_;refine H2 5 10 rfl rfl ?_ ?_
 ·intro K' hK;go_simp;refine (iK gp gm wv ws d e _ (bA H.out hS)).mono ?_;rintro x w1 ⟨rfl,hb⟩;have hS1:=hS.trans (hb.mono (by have:=hS.size;first | exact this | exact Nat.le_refl _));refine hK _ _ ⟨hS1,?_⟩;clear hK hb;refine HT 6 (v:=.tuple #[.agg #[.int .i64 s.rank,.int .i64 s.op,.bool s.turned,.bool s.denied],.bool b]) rfl HPN.out (fun wq hq=>by have q:=qO (bA H.out hq).sg (hdW ws);rw [HS.out,HBL.out] at q;unfold sgV at q;go_simp) hS1 ?_;refine HT 7 (v:=.tuple #[.agg #[.int .i64 s.rank,.int .i64 s.op,.bool s.turned,.bool s.denied],.bool b]) rfl HPN.out (fun wq hq=>by go_simp) hS1 ?_;refine HT 8 (v:=.agg #[.int .i64 s.rank,.int .i64 s.op,.bool s.turned,.bool s.denied]) rfl HPN.out (fun wq hq=>by go_simp) hS1 ?_;refine HT 9 (v:=.bool b) rfl HPN.out (fun wq hq=>by go_simp) hS1 ?_;have BZ:=aa (ay w1 [.int .i64 0,.int .i64 0,.bool false,.bool false] 176);have hgs:Hid (w.heap.size≤w1.heap.size):=hS1.size;have hS2:=hS1.alloc hS1.size (.cells #[.int .i64 0,.int .i64 0,.bool false,.bool false] 176);refine HG 10 rfl ?_;intro K' hK;go_simp;refine hK _ _ ⟨hS2,?_⟩;clear hK;generalize hg:w1.heap.size=gs at *;have hS2:Hid (Below w.heap.size w (w1.alloc (.cells #[.int .i64 0,.int .i64 0,.bool false,.bool false] 176))):=hS2;generalize w1.alloc (.cells #[.int .i64 0,.int .i64 0,.bool false,.bool false] 176)=w2 at *;have hS2:=hS2.out;clear hg;have f0:=BZ.out.fz 0;have f1:=BZ.out.fz 1;have f2:=BZ.out.fz 2;have f3:=BZ.out.fz 3;have z0:=BZ.out.c 0 (by simp);have z1:=BZ.out.c 1 (by simp);have z2:=BZ.out.c 2 (by simp);have z3:=BZ.out.c 3 (by simp);have B4:=aa (az (az (az (az BZ.out 0 (.int .i64 s.rank) (by simp)) 1 (.int .i64 s.op) (by simp)) 2 (.bool s.turned) (by simp)) 3 (.bool s.denied) (by simp));have hSz:=((((hS2.setCell (p:=⟨gs,0,none⟩) hgs.out (.int .i64 s.rank)).setCell (p:=⟨gs,1,none⟩) hgs.out (.int .i64 s.op)).setCell (p:=⟨gs,2,none⟩) hgs.out (.bool s.turned)).setCell (p:=⟨gs,3,none⟩) hgs.out (.bool s.denied));refine HG 11 rfl ?_;intro K' hK;go_simp;refine hK _ _ ⟨hSz,?_⟩;clear hK;refine HG 12 rfl ?_;intro K' hK;go_simp;refine hK _ _ ⟨hSz,?_⟩;clear hK;refine wpAnyH_done (by kernel_rfl) ?_ _;exact HQ.out _ gs s b _ rfl rfl rfl rfl rfl rfl ⟨HS.out,HBL.out,by simpa using B4.out,hgs.out,hSz⟩
 ·intro K' hK;have BZ0:=aa (ay wd [.int .i64 0,.int .i64 0,.bool false,.bool false] 176);have hgs:Hid (w.heap.size≤wd.heap.size):=hS.size;have hS2:=hS.alloc hS.size (.cells #[.int .i64 0,.int .i64 0,.bool false,.bool false] 176);go_simp;refine hK _ _ ⟨hS2,?_⟩;clear hK;generalize hg:wd.heap.size=gs at *;generalize wd.alloc (.cells #[.int .i64 0,.int .i64 0,.bool false,.bool false] 176)=w2 at *;clear hg;refine HG 5 rfl ?_;intro K' hK;go_simp;refine (iK gp gm wv ws d e _ (bA H.out hS2)).mono ?_;rintro x w1 ⟨rfl,hb⟩;have hS3:=hS2.trans (hb.mono (by have:=hS2.size;first | exact this | exact Nat.le_refl _));have BZ:=aa (ah BZ0.out hb BZ0.out.lt);refine hK _ _ ⟨hS3,?_⟩;clear hK hb;refine HT 6 (v:=.tuple #[.agg #[.int .i64 s.rank,.int .i64 s.op,.bool s.turned,.bool s.denied],.bool b]) rfl HPN.out (fun wq hq=>by have q:=qO (bA H.out hq).sg (hdW ws);rw [HS.out,HBL.out] at q;unfold sgV at q;go_simp) hS3 ?_;refine HT 7 (v:=.tuple #[.agg #[.int .i64 s.rank,.int .i64 s.op,.bool s.turned,.bool s.denied],.bool b]) rfl HPN.out (fun wq hq=>by go_simp) hS3 ?_;refine HT 8 (v:=.agg #[.int .i64 s.rank,.int .i64 s.op,.bool s.turned,.bool s.denied]) rfl HPN.out (fun wq hq=>by go_simp) hS3 ?_;refine HT 9 (v:=.bool b) rfl HPN.out (fun wq hq=>by go_simp) hS3 ?_;have f0:=BZ.out.fz 0;have f1:=BZ.out.fz 1;have f2:=BZ.out.fz 2;have f3:=BZ.out.fz 3;have z0:=BZ.out.c 0 (by simp);have z1:=BZ.out.c 1 (by simp);have z2:=BZ.out.c 2 (by simp);have z3:=BZ.out.c 3 (by simp);have B4:=aa (az (az (az (az BZ.out 0 (.int .i64 s.rank) (by simp)) 1 (.int .i64 s.op) (by simp)) 2 (.bool s.turned) (by simp)) 3 (.bool s.denied) (by simp));have hSz:=((((hS3.setCell (p:=⟨gs,0,none⟩) hgs.out (.int .i64 s.rank)).setCell (p:=⟨gs,1,none⟩) hgs.out (.int .i64 s.op)).setCell (p:=⟨gs,2,none⟩) hgs.out (.bool s.turned)).setCell (p:=⟨gs,3,none⟩) hgs.out (.bool s.denied));refine HG 11 rfl ?_;intro K' hK;go_simp;refine hK _ _ ⟨hSz,?_⟩;clear hK;refine HG 12 rfl ?_;intro K' hK;go_simp;refine hK _ _ ⟨hSz,?_⟩;clear hK;refine wpAnyH_done (by kernel_rfl) ?_ _;exact HQ.out _ gs s b _ rfl rfl rfl rfl rfl rfl ⟨HS.out,HBL.out,by simpa using B4.out,hgs.out,hSz⟩
theorem sgOf_nil:sgIn sgL (hdW [])=none:=by decide
theorem tkS_none {rank:Int} {ws:Ws} (h:sgIn sgL (hdW ws)=none):tkS rank ws=none:=by
 cases ws with
 | nil=>rfl
 | cons x r =>
  have h:qy x=none:=h;simp only [tkS,h]
theorem tkS_some {rank:Int} {ws:Ws} {s:Sg} (h:sgIn sgL (hdW ws)=some s):∃ x r,ws=x :: r∧tkS rank ws=if s.rank=rank then some (s,r) else none:=by
 cases ws with
 | nil=>rw [sgOf_nil] at h;cases h
 | cons x r =>
  have h:qy x=some s:=h;refine ⟨x,r,rfl,?_⟩;simp only [tkS,h]
def dL (w w':World) (gp gm:Nat) (rank:Int) (wv:Value) (ws:Ws) (d e:Int) (r:Ending):Prop :=
 match tkS rank ws with
 | some p=>r=.returned (.tuple #[sgV p.1,.bool true])∧KeptB w w' (fun q=>q=gp)∧∃ wv',PS w' gp gm wv' p.2 d e
 | none=>r=.returned (.tuple #[sgV sg0,.bool false])∧KeptB w w' (fun q=>q=gp)∧PS w' gp gm wv ws d e
theorem takeSign_gen (R:Ending→World→Prop) (gp gm:Nat) (rank:Int) (wv:Value) (ws:Ws) (d e:Int) (w:World) (h:PS w gp gm wv ws d e)
  (hN:tkS rank ws=none→∀ w',KeptB w w' (fun q=>q=gp)→PS w' gp gm wv ws d e→R (.returned (.tuple #[sgV sg0,.bool false])) w')
  (hY:∀ s ws1,tkS rank ws=some (s,ws1)→∀ w' wv',KeptB w w' (fun q=>q=gp)→PS w' gp gm wv' ws1 d e→R (.returned (.tuple #[sgV s,.bool true])) w') :
  Calls Tryz.prog 166 #[.pointer (some ⟨gp,0,none⟩),.int .i64 rank] w R:=by
 have HN:=aa hN;have HY:=aa hY;clear hN hY;have H:=aa h;have BA:=aa (aj w (.cells #[.int .i64 0,.int .i64 0,.bool false,.bool false] 176));have BL:=aa (ay w [.int .i64 0,.int .i64 0,.bool false,.bool false] 176);have H0:=aa (bA h BA.out);have hlt:gp < w.heap.size:=h.bd.lt;clear h
 go_enter Tryz.func166,Tryz.ntmps166
 go_wp2_with fail;have hg4:w.heap.size≠gp:=by omega
 generalize w.alloc (.cells #[.int .i64 0,.int .i64 0,.bool false,.bool false] 176)=wa at *;generalize hgr:w.heap.size=g4 at *;have PNH:=aa (@eJ Tryz.prog Tryz.f166 R);refine takeSign_r1 _ _ (by kernel_rfl) _ gp gm g4 wv ws d e rank _ rfl rfl rfl rfl H0.out (bX PNH.out) ?_;rintro t' gs s b w1 ht k0 k1 k4 k6 k7 ⟨hs,hb,hbl,hgs,hbw⟩;have BL1:=aa (ah BL.out hbw BL.out.lt);have P1:=aa (bA H0.out hbw);have BB:Hid (Below g4 w w1):=BA.out.trans (hbw.mono (by have:=BA.out.size;omega));have hne:gs≠g4:=by have:=BL.out.lt;omega
 have hg9:w.heap.size≤g4:=by omega
 have KB:∀ wz,Below g4 w wz→KeptB w wz (fun q=>q=gp):=fun wz hz=>ae (hz.mono hg9)
 have KBH:=aa KB;obtain ⟨f,hf,hi⟩:=ny t' ht;have e0:=aq (hi 0 (by decide)) k0;have e1:=aq (hi 1 (by decide)) k1;have e4:=aq (hi 4 (by decide)) k4;have e6:=aq (hi 6 (by decide)) k6;have e7:=aq (hi 7 (by decide)) k7;rw [e0,e1,e4,e6,e7] at hf;clear hi ht k0 k1 k4 k6 k7 e0 e1 e4 e6 e7 KB BL H0 PNH;subst hf;have f0:=BL1.out.fz 0;have f1:=BL1.out.fz 1;have f2:=BL1.out.fz 2;have f3:=BL1.out.fz 3;have c0:=BL1.out.c 0 (by simp);have c1:=BL1.out.c 1 (by simp);have c2:=BL1.out.c 2 (by simp);have c3:=BL1.out.c 3 (by simp);have q0:=hbl.c 0 (by simp);have q1:=hbl.c 1 (by simp);have q2:=hbl.c 2 (by simp);have q3:=hbl.c 3 (by simp);have HBL:=aa hbl;simp only [List.getElem?_cons_zero,List.getElem?_cons_succ] at c0 c1 c2 c3 q0 q1 q2 q3;refine aQ ?_;rename_i K9 hK9;refine hK9 _ _ ?_;cases hsg:sgIn sgL (hdW ws) with
 | none =>
  rw [hsg] at hs hb;have hs:sg0=s:=hs;have hb:false=b:=hb;subst hs hb;have HR:=aa (HN.out (tkS_none hsg));have Z4:=aa (az (az (az (az BL1.out 0 (.int .i64 0) (by simp)) 1 (.int .i64 0) (by simp)) 2 (.bool false) (by simp)) 3 (.bool false) (by simp));have ZB:=aa ((((BB.out.setCell (p:=⟨g4,0,none⟩) (Nat.le_refl _) (.int .i64 0)).setCell (p:=⟨g4,1,none⟩) (Nat.le_refl _) (.int .i64 0)).setCell (p:=⟨g4,2,none⟩) (Nat.le_refl _) (.bool false)).setCell (p:=⟨g4,3,none⟩) (Nat.le_refl _) (.bool false));clear hsg HN HY q0 q1 q2 q3 hgs hbw;have Z5:=aa (show BlkAt _ g4 [.int .i64 0,.int .i64 0,.bool false,.bool false] by simpa using Z4.out);clear Z4;go_wp2_with fail;generalize ((((w1.setCell ⟨g4,0,none⟩ (.int .i64 0)).setCell ⟨g4,1,none⟩ (.int .i64 0)).setCell ⟨g4,2,none⟩ (.bool false)).setCell ⟨g4,3,none⟩ (.bool false))=wz at *;have z0:=Z5.out.c 0 (by simp);have z1:=Z5.out.c 1 (by simp);have z2:=Z5.out.c 2 (by simp);have z3:=Z5.out.c 3 (by simp);simp only [List.getElem?_cons_zero,List.getElem?_cons_succ] at z0 z1 z2 z3;exact bodyPost_ret (v:=.tuple #[.agg #[.int .i64 0,.int .i64 0,.bool false,.bool false],.bool false]) (by simp [results,Tryz.results166,go_sem,z0,z1,z2,z3]) rfl (HR.out _ (KBH.out _ ZB.out) (bA H.out (by rw [hgr];exact ZB.out)))
 | some s0 =>
  rw [hsg] at hs hb;have hs:s0=s:=hs;have hb:true=b:=hb;subst hs hb;obtain ⟨x,r,hws,hts⟩:=tkS_some (rank:=rank) hsg;subst hws
  by_cases hrk:s0.rank=rank
  ·rw [if_pos hrk] at hts;have HR:=aa (HY.out s0 r hts);have hne2:(s0.rank != rank)=false:=by simp [hrk]
   have SK:=aa (ki gp gm wv x r d e w1 P1.out);have hgs4:gp < g4:=by omega
   have hgsp:gp < gs:=by have:=BA.out.size;omega
   clear hsg HN HY hts hgs hbw hrk;go_wp2_with fail;refine SK.out.mono ?_;rintro r9 w2 ⟨rfl,hk,wv',hp⟩;have BS:=aa (aH HBL.out hk (fun e9=>by omega));have BG:=aa (aH BL1.out hk (fun e9=>by omega));have Z5:=aa (show BlkAt _ g4 [.int .i64 s0.rank,.int .i64 s0.op,.bool s0.turned,.bool s0.denied] by simpa using az (az (az (az BG.out 0 (.int .i64 s0.rank) (by simp)) 1 (.int .i64 s0.op) (by simp)) 2 (.bool s0.turned) (by simp)) 3 (.bool s0.denied) (by simp));have K9:Hid (KeptB w2 ((((w2.setCell ⟨g4,0,none⟩ (.int .i64 s0.rank)).setCell ⟨g4,1,none⟩ (.int .i64 s0.op)).setCell ⟨g4,2,none⟩ (.bool s0.turned)).setCell ⟨g4,3,none⟩ (.bool s0.denied)) (fun q=>q=g4)):=ai (ai (ai (ai (ae (bad:=fun q=>q=g4) (Below.refl w2.heap.size w2)) rfl 0 _) rfl 1 _) rfl 2 _) rfl 3 _;have KW:Hid (KeptB w ((((w2.setCell ⟨g4,0,none⟩ (.int .i64 s0.rank)).setCell ⟨g4,1,none⟩ (.int .i64 s0.op)).setCell ⟨g4,2,none⟩ (.bool s0.turned)).setCell ⟨g4,3,none⟩ (.bool s0.denied)) (fun q=>q=gp)):=by
    have k1:=af (KBH.out _ BB.out) hk;exact ⟨k1.b0.trans K9.out.b0,fun k hk9 hn=>(K9.out.block k (Nat.lt_of_lt_of_le hk9 k1.b0.size) (fun e9=>by omega)).trans (k1.block k hk9 hn)⟩
   have PZ:=aa (oy hp K9.out (fun k e9=>by omega));clear c0 c1 c2 c3 q0 q1 q2 q3 f0 f1 f2 f3;have f0:=BG.out.fz 0;have f1:=BG.out.fz 1;have f2:=BG.out.fz 2;have f3:=BG.out.fz 3;have c0:=BG.out.c 0 (by simp);have c1:=BG.out.c 1 (by simp);have c2:=BG.out.c 2 (by simp);have c3:=BG.out.c 3 (by simp);have q0:=BS.out.c 0 (by simp);have q1:=BS.out.c 1 (by simp);have q2:=BS.out.c 2 (by simp);have q3:=BS.out.c 3 (by simp);simp only [List.getElem?_cons_zero,List.getElem?_cons_succ] at c0 c1 c2 c3 q0 q1 q2 q3;clear hk hp SK;go_wp2_with fail;generalize ((((w2.setCell ⟨g4,0,none⟩ (.int .i64 s0.rank)).setCell ⟨g4,1,none⟩ (.int .i64 s0.op)).setCell ⟨g4,2,none⟩ (.bool s0.turned)).setCell ⟨g4,3,none⟩ (.bool s0.denied))=wz at *;have z0:=Z5.out.c 0 (by simp);have z1:=Z5.out.c 1 (by simp);have z2:=Z5.out.c 2 (by simp);have z3:=Z5.out.c 3 (by simp);simp only [List.getElem?_cons_zero,List.getElem?_cons_succ] at z0 z1 z2 z3;exact bodyPost_ret (v:=.tuple #[.agg #[.int .i64 s0.rank,.int .i64 s0.op,.bool s0.turned,.bool s0.denied],.bool true]) (by simp [results,Tryz.results166,go_sem,z0,z1,z2,z3]) rfl (HR.out _ _ KW.out PZ.out)
  ·rw [if_neg hrk] at hts;have HR:=aa (HN.out hts);have hne2:(s0.rank != rank)=true:=by simp [hrk]
   have ZB:=aa ((((BB.out.setCell (p:=⟨g4,0,none⟩) (Nat.le_refl _) (.int .i64 0)).setCell (p:=⟨g4,1,none⟩) (Nat.le_refl _) (.int .i64 0)).setCell (p:=⟨g4,2,none⟩) (Nat.le_refl _) (.bool false)).setCell (p:=⟨g4,3,none⟩) (Nat.le_refl _) (.bool false));have Z5:=aa (show BlkAt _ g4 [.int .i64 0,.int .i64 0,.bool false,.bool false] by simpa using az (az (az (az BL1.out 0 (.int .i64 0) (by simp)) 1 (.int .i64 0) (by simp)) 2 (.bool false) (by simp)) 3 (.bool false) (by simp));clear hsg HN HY hts hgs hbw hrk;go_wp2_with fail;generalize ((((w1.setCell ⟨g4,0,none⟩ (.int .i64 0)).setCell ⟨g4,1,none⟩ (.int .i64 0)).setCell ⟨g4,2,none⟩ (.bool false)).setCell ⟨g4,3,none⟩ (.bool false))=wz at *;have z0:=Z5.out.c 0 (by simp);have z1:=Z5.out.c 1 (by simp);have z2:=Z5.out.c 2 (by simp);have z3:=Z5.out.c 3 (by simp);simp only [List.getElem?_cons_zero,List.getElem?_cons_succ] at z0 z1 z2 z3;exact bodyPost_ret (v:=.tuple #[.agg #[.int .i64 0,.int .i64 0,.bool false,.bool false],.bool false]) (by simp [results,Tryz.results166,go_sem,z0,z1,z2,z3]) rfl (HR.out _ (KBH.out _ ZB.out) (bA H.out (by rw [hgr];exact ZB.out)))
theorem bn (gp gm:Nat) (rank:Int) (wv:Value) (ws:Ws) (d e:Int) (w:World) (h:PS w gp gm wv ws d e) :
  Calls Tryz.prog 166 #[.pointer (some ⟨gp,0,none⟩),.int .i64 rank] w fun r w'=>dL w w' gp gm rank wv ws d e r:=by
 refine takeSign_gen _ gp gm rank wv ws d e w h (fun hn w' hk hp=>?_) (fun s ws1 hs w' wv' hk hp=>?_)
 ·unfold dL;rw [hn];exact ⟨rfl,hk,hp⟩
 ·unfold dL;rw [hs];exact ⟨rfl,hk,wv',hp⟩
end Go.Proofs.YtcgjflamgnjhcaaGreatDoor
