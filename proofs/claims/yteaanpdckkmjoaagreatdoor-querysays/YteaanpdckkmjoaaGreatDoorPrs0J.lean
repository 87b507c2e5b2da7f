/- Several texts in one, each with its own head. What is proved: what the parts say. Conditions: theirs. -/
import Derived.Test.YteaanpdckkmjoaaGreatDoorParsePureJ
import Derived.Test.YteaanpdckkmjoaaGreatDoorExpr9J
import Derived.MapKept
import Derived.BigQuiet
set_option linter.unusedVariables false
set_option linter.unusedSimpArgs false
set_option maxRecDepth 100000
set_option maxHeartbeats 8000000
namespace Go.Proofs.YteaanpdckkmjoaaGreatDoor
open Go.ChangeShapes Go.WideShapes Go.ChangeAt Go.RowKit
def sgV (s : Sg) : Value:=.agg #[.int .i64 s.rank,.int .i64 s.op,.bool s.turned,.bool s.denied]
def sg0 : Sg:=⟨0,0,false,false⟩
def MapL (w : World) (g : Nat) (L : List (ByteArray × Sg)) : Prop:=∃ es clock,w.heap[g]? = some (.map es clock) ∧ es.toList.map (fun e => (e.key,e.val)) = L.map (fun p => (Value.string p.1,sgV p.2))
theorem mapL_lt {w : World} {g : Nat} {L : List (ByteArray × Sg)} (h : MapL w g L) : g < w.heap.size:=by
 obtain ⟨es,clock,h,_⟩:=h
 exact (Array.getElem?_eq_some_iff.1 h).1
theorem mapL_kept {w w' : World} {g : Nat} {L : List (ByteArray × Sg)} {bad : Nat → Prop} (h : MapL w g L) (hk : KeptB w w' bad) (hb : ¬ bad g) : MapL w' g L:=by
 have hg:=mapL_lt h
 obtain ⟨es,clock,h,hE⟩:=h
 exact ⟨es,clock,(hk.block g hg hb).trans h,hE⟩
theorem underSg : Tryz.prog.underlying 60 = some (.map 9 96):=by kernel_rfl
theorem ckS (b : Bool) (k : ByteArray) (w : World) : (Instr.checkKey b 10000 9 (.string k)).run Tryz.prog w = .ok () w:=by kernel_rfl
theorem zeroSg (w : World) : (zeroValue 96).run Tryz.prog w = .ok (sgV sg0) w:=by kernel_rfl
theorem ba_same (a : ByteArray) : (a == a) = true:=by
 show (a.data == a.data) = true
 simp
theorem ba_other {a b : ByteArray} (h : a ≠ b) : (a == b) = false:=by
 have e : (a == b) = (a.data == b.data):=rfl
 rw [e,beq_eq_false_iff_ne]
 intro hd
 apply h
 cases a
 cases b
 simp at hd
 rw [hd]
theorem findS (k : ByteArray) : ∀ (es : List MapEntry) (L : List (ByteArray × Sg)) (i : Nat),es.map (fun e => (e.key,e.val)) = L.map (fun p => (Value.string p.1,sgV p.2)) →
  (sgIn L k = none → Instr.findNow .string (.string k) es i = some none) ∧ (∀ s,sgIn L k = some s → ∃ j,Instr.findNow .string (.string k) es i = some (some (j,sgV s)))
 | [],[],i,_ => ⟨fun _ => rfl,fun s h => by simp [sgIn] at h⟩
 | [],_ :: _,i,h => by simp at h
 | _ :: _,[],i,h => by simp at h
 | e :: es,p :: L,i,h => by
  simp only [List.map_cons,List.cons.injEq,Prod.mk.injEq] at h
  obtain ⟨⟨h1,h2⟩,h3⟩:=h
  have ih:=findS k es L (i + 1) h3
  by_cases hq : k = p.1
  ·refine ⟨fun h => ?_,fun s h => ?_⟩
   ·simp only [sgIn,if_pos hq] at h
    cases h
   ·simp only [sgIn,if_pos hq] at h
    cases h
    refine ⟨i,?_⟩
    simp [Instr.findNow,Instr.sameNow,h1,h2,hq,ba_same]
  ·have hne : (k == p.1) = false:=ba_other hq
   refine ⟨fun h => ?_,fun s h => ?_⟩
   ·simp only [sgIn,if_neg hq] at h
    simp [Instr.findNow,Instr.sameNow,h1,hne,ih.1 h]
   ·simp only [sgIn,if_neg hq] at h
    obtain ⟨j,hj⟩:=ih.2 s h
    exact ⟨j,by simp [Instr.findNow,Instr.sameNow,h1,hne,hj]⟩
theorem underStr : Tryz.prog.underlying 9 = some .string:=Tryz.underlying9
theorem lookS {w : World} {g : Nat} {L : List (ByteArray × Sg)} (h : MapL w g L) (k : ByteArray) : (Instr.lookup 60 (.map (some g)) (.string k) true).run Tryz.prog w = .ok (.tuple #[sgV ((sgIn L k).getD sg0),.bool (sgIn L k).isSome]) w:=by
 obtain ⟨es,clock,hg,hE⟩:=h
 have hf:=findS k es.toList L 0 hE
 cases hk : sgIn L k with
 | none =>
  have hrun:=hf.1 hk
  simp [Instr.lookup,Instr.findKey,run_underlying underSg,run_underlying underStr,MapKept.run_getObj_map hg,ckS,hrun,zeroSg]
  rfl
 | some s =>
  obtain ⟨j,hrun⟩:=hf.2 s hk
  simp [Instr.lookup,Instr.findKey,run_underlying underSg,run_underlying underStr,MapKept.run_getObj_map hg,ckS,hrun]
def putM (w : World) (r : Nat) (o : Obj) : World:={ w with heap:=w.heap.setIfInBounds r o }
theorem putM_kept (w : World) (r : Nat) (o : Obj) : KeptB w (putM w r o) (fun k => k = r):=by
 refine ⟨⟨rfl,rfl,rfl,by simp [putM],fun k hk => absurd hk (by omega)⟩,fun k hk hn => ?_⟩
 simp only [putM]
 rw [Array.getElem?_setIfInBounds_ne (by omega)]
theorem putM_at (w : World) (r : Nat) (o : Obj) (h : r < w.heap.size) : (putM w r o).heap[r]? = some o:=by
 simp [putM,h]
theorem insS {w : World} {g : Nat} {L : List (ByteArray × Sg)} (h : MapL w g L) (k : ByteArray) (s : Sg) (hk : sgIn L k = none) : ∃ w',(Instr.mapUpdate 60 (.map (some g)) (.string k) (sgV s)).run Tryz.prog w = .ok () w' ∧ MapL w' g (L ++ [(k,s)]) ∧ KeptB w w' (fun q => q = g):=by
 have hlt:=mapL_lt h
 obtain ⟨es,clock,hg,hE⟩:=h
 have hrun:=(findS k es.toList L 0 hE).1 hk
 refine ⟨putM w g (.map (es.push { key:=.string k,val:=sgV s,born:=clock }) (clock + 1)),?_,⟨_,_,putM_at _ _ _ hlt,?_⟩,putM_kept _ _ _⟩
 ·simp [Instr.mapUpdate,Instr.findKey,run_underlying underSg,run_underlying underStr,MapKept.run_getObj_map hg,ckS,hrun,MapKept.run_setObj_map _ hg,putM]
 ·simp [hE]
theorem mapL_new (w : World) : MapL (w.alloc (.map #[] 0)) w.heap.size []:=⟨#[],0,heap_alloc_new w _,rfl⟩
theorem rowG_kept {w w' : World} {v : Value} {size n : Nat} {xs : List Value} {bad : Nat → Prop} (h : RowG w v size n xs) (hk : KeptB w w' bad) (hb : ∀ g off m c,v = .slice (some ⟨g,off,none⟩) m c → ¬ bad g) : RowG w' v size n xs:=by
 obtain ⟨h0,h⟩:=h
 refine ⟨h0,?_⟩
 rcases h with h | ⟨g,off,cap,h1,h2,h3,h4,h5⟩
 ·exact .inl h
 ·exact .inr ⟨g,off,cap,h1,h2,h3,Nat.lt_of_lt_of_le h4 hk.b0.size,fun i hi => by rw [kept_cell hk (off + i) h4 (hb g off n cap h1)];exact h5 i hi⟩
structure PS (w : World) (gp gm : Nat) (wv : Value) (ws : Ws) (d e : Int) : Prop where
 bd : BlkAt w gp [wv,.map (some gm),.int .i64 d,errC e]
 row : RowG w wv 1 ws.length (ws.map Value.string)
 far : ∀ g off m c,wv = .slice (some ⟨g,off,none⟩) m c → g < gp
 sg : MapL w gm sgL
 lt : gm < gp
 e0 : e ≠ 0 → ws = []
 few : ws.length ≤ 100
theorem PS.ne {w : World} {gp gm : Nat} {wv : Value} {ws : Ws} {d e : Int} (h : PS w gp gm wv ws d e) : gm ≠ gp:=Nat.ne_of_lt h.lt
theorem ps_far {w w' : World} {gp gm : Nat} {wv : Value} {ws : Ws} {d e : Int} {bad : Nat → Prop} (h : PS w gp gm wv ws d e) (hk : KeptB w w' bad) (hb : ∀ k,bad k → gp < k) : PS w' gp gm wv ws d e :=
 ⟨blk_kept h.bd hk (fun e9 => by have:=hb _ e9;omega),rowG_kept h.row hk (fun g off m c e9 e8 => by have:=hb _ e8;have:=h.far g off m c e9;omega),h.far,mapL_kept h.sg hk (fun e9 => by have:=hb _ e9;have:=h.lt;omega),h.lt,h.e0,h.few⟩
theorem ps_kept {w w' : World} {gp gm : Nat} {wv : Value} {ws : Ws} {d e : Int} (h : PS w gp gm wv ws d e) (hb : Below w.heap.size w w') : PS w' gp gm wv ws d e :=
 ⟨blk_below h.bd hb h.bd.lt,rowG_below h.row hb,h.far,mapL_kept (bad:=fun _ => False) h.sg (keptB_of_below hb) id,h.lt,h.e0,h.few⟩
theorem ps_set {w : World} {gp gm : Nat} {wv : Value} {ws : Ws} {d e : Int} (h : PS w gp gm wv ws d e) (k : Nat) (u : Value) {wv' : Value} {ws' : Ws} {d' e' : Int}
  (hb : BlkAt (w.setCell ⟨gp,k,none⟩ u) gp [wv',.map (some gm),.int .i64 d',errC e']) (hr : RowG w wv' 1 ws'.length (ws'.map Value.string)) (hf : ∀ g off m c,wv' = .slice (some ⟨g,off,none⟩) m c → g < gp) (he : e' ≠ 0 → ws' = []) (hl : ws'.length ≤ 100) :
  PS (w.setCell ⟨gp,k,none⟩ u) gp gm wv' ws' d' e' ∧ KeptB w (w.setCell ⟨gp,k,none⟩ u) (fun q => q = gp):=by
 have ks : KeptB w (w.setCell ⟨gp,k,none⟩ u) (fun q => q = gp):=keptB_set (keptB_of_below (bad:=fun q => q = gp) (Below.refl w.heap.size w)) rfl k u
 exact ⟨⟨hb,rowG_kept hr ks (fun g off m c e9 e8 => by have:=hf g off m c e9;omega),hf,mapL_kept h.sg ks h.ne,h.lt,he,hl⟩,ks⟩
theorem row_tail {w : World} {v : Value} {x : ByteArray} {ws : Ws} (h : RowG w v 1 (x :: ws).length ((x :: ws).map Value.string)) : ∃ g off cap,v = .slice (some ⟨g,off,none⟩) (ws.length + 1) cap ∧ ws.length + 1 ≤ cap ∧ cap ≤ maxLen ∧ g < w.heap.size ∧ w.cell? ⟨g,off,none⟩ = some (.string x) ∧ RowG w (.slice (some ⟨g,off + 1,none⟩) ws.length (cap - 1)) 1 ws.length (ws.map Value.string):=by
 obtain ⟨h0,h⟩:=h
 rcases h with ⟨-,h⟩ | ⟨g,off,cap,h1,h2,h3,h4,h5⟩
 ·simp at h
 ·simp only [List.length_cons] at h1 h2
  refine ⟨g,off,cap,h1,h2,h3,h4,?_,by simp,.inr ⟨g,off + 1,cap - 1,rfl,by omega,by omega,h4,fun j hj => ?_⟩⟩
  ·have:=h5 0 (by simp)
   simpa using this
  ·have:=h5 (j + 1) (by simp;omega)
   rw [show off + 1 + j = off + (j + 1) from by omega,this]
   simp
theorem tl_same (a : ByteArray) : (a.toList == a.toList) = true:=by simp
theorem tl_other {a b : ByteArray} (h : a ≠ b) : (a.toList == b.toList) = false:=by
 rw [beq_eq_false_iff_ne]
 intro e
 apply h
 rw [Lib.toList_data,Lib.toList_data] at e
 cases a
 cases b
 simp at e
 rw [e]
def errN (e c : Int) : Int:=if e = 0 then c else e
theorem errN_0 (c : Int) : errN 0 c = c:=rfl
theorem errN_ne {e : Int} (h : e ≠ 0) (c : Int) : errN e c = e:=by unfold errN;rw [if_neg h]
def hdW (ws : Ws) : ByteArray:=match ws with
 | [] => ⟨#[]⟩
 | x :: _ => x
theorem next_any (gp gm : Nat) (wv : Value) (ws : Ws) (d e : Int) (w : World) (h : PS w gp gm wv ws d e) :
  Calls Tryz.prog 78 #[.pointer (some ⟨gp,0,none⟩)] w fun r w' => r = .returned (.string (hdW ws)) ∧ Below w.heap.size w w':=by
 have c0 : w.cell? ⟨gp,0,none⟩ = some wv:=h.bd.c 0 (by simp)
 cases ws with
 | nil =>
  obtain ⟨ao,cap,rfl⟩:=rowG_shape h.row
  clear h
  go_enter Tryz.func78,Tryz.ntmps78
  go_wp2_with fail
  go_ret
  exact ⟨rfl,Below.refl _ _⟩
 | cons x ws =>
  obtain ⟨g,off,cap,rfl,h1,h2,h3,h4,h5⟩:=row_tail h.row
  have hf:=h.few
  have hn : (((ws.length : Int) + 1) == 0) = false:=by simp;omega
  have hn2 : (0 : Int) < (ws.length : Int) + 1:=by omega
  unfold maxLen at h2
  clear h h5
  go_enter Tryz.func78,Tryz.ntmps78
  go_wp2_with fail
  go_ret
  exact ⟨rfl,Below.refl _ _⟩
theorem skip_any (gp gm : Nat) (wv : Value) (x : ByteArray) (ws : Ws) (d e : Int) (w : World) (h : PS w gp gm wv (x :: ws) d e) :
  Calls Tryz.prog 79 #[.pointer (some ⟨gp,0,none⟩)] w fun r w' => r = .returned (.tuple #[]) ∧ KeptB w w' (fun q => q = gp) ∧ ∃ wv',PS w' gp gm wv' ws d e:=by
 have c0 : w.cell? ⟨gp,0,none⟩ = some wv:=h.bd.c 0 (by simp)
 obtain ⟨g,off,cap,rfl,h1,h2,h3,h4,h5⟩:=row_tail h.row
 have f0:=h.bd.fz 0
 have hg : g < gp:=h.far g off _ cap rfl
 have he : e = 0:=Classical.byContradiction fun he => by have:=h.e0 he;cases this
 have hle : (1 : Int) ≤ (ws.length : Int) + 1:=by omega
 have hcp : (ws.length : Int) + 1 ≤ (cap : Int):=by omega
 have far2 : ∀ (o m c : Nat) g' off' m' c',Value.slice (some ⟨g,o,none⟩) m c = .slice (some ⟨g',off',none⟩) m' c' → g' < gp:=fun o m c g' off' m' c' hq => by
  simp only [Value.slice.injEq,Option.some.injEq,Addr.mk.injEq] at hq
  rw [← hq.1.1]
  exact hg
 have hfw : ws.length ≤ 100:=by have:=h.few;simp at this;omega
 by_cases hc1 : cap = 1
 ·have hw0 : ws = []:=List.eq_nil_of_length_eq_zero (by omega)
  subst hc1 hw0
  have B0:=blk_set h.bd 0 (.slice (some ⟨g,off,none⟩) 0 0) (by simp)
  have PS0:=hidE (ps_set h 0 (.slice (some ⟨g,off,none⟩) 0 0) (ws':=[]) (d':=d) (e':=e) (by simpa using B0) ⟨rfl,.inl ⟨⟨_,_,rfl⟩,rfl⟩⟩ (far2 off 0 0) (fun h9 => absurd he h9) (by simp))
  clear h h5 B0 far2
  go_enter Tryz.func79,Tryz.ntmps79
  go_wp2_with fail
  refine ⟨rfl,_,by simp [results],rfl,PS0.out.2,_,PS0.out.1⟩
 ·have B0:=blk_set h.bd 0 (.slice (some ⟨g,off + 1,none⟩) ws.length (cap - 1)) (by simp)
  have PS0:=hidE (ps_set h 0 (.slice (some ⟨g,off + 1,none⟩) ws.length (cap - 1)) (d':=d) (e':=e) (by simpa using B0) h5 (far2 _ _ _) (fun h9 => absurd he h9) hfw)
  unfold maxLen at h2
  have hc2 : ¬ (cap : Int) = 1:=by omega
  have hc3 : 0 < cap - 1:=by omega
  clear h h5 B0 far2
  go_enter Tryz.func79,Tryz.ntmps79
  go_wp2_with fail
  refine ⟨rfl,_,by simp [results],rfl,PS0.out.2,_,PS0.out.1⟩
def TakeR (w w' : World) (gp gm : Nat) (word : ByteArray) (wv : Value) (ws : Ws) (d e : Int) (r : Ending) : Prop :=
 match tk word ws with
 | some ws1 => r = .returned (.bool true) ∧ KeptB w w' (fun q => q = gp) ∧ ∃ wv',PS w' gp gm wv' ws1 d e
 | none => r = .returned (.bool false) ∧ KeptB w w' (fun q => q = gp) ∧ PS w' gp gm wv ws d e
theorem take_any (gp gm : Nat) (word : ByteArray) (hw0 : word ≠ ⟨#[]⟩) (wv : Value) (ws : Ws) (d e : Int) (w : World) (h : PS w gp gm wv ws d e) :
  Calls Tryz.prog 52 #[.pointer (some ⟨gp,0,none⟩),.string word] w fun r w' => TakeR w w' gp gm word wv ws d e r:=by
 have NX:=hidE (next_any gp gm wv ws d e w h)
 have H:=hidE h
 unfold TakeR
 cases ht : tk word ws with
 | none =>
  have hne : ((hdW ws).toList == word.toList) = false:=by
   cases ws with
   | nil => exact tl_other (fun e9 => hw0 e9.symm)
   | cons x r =>
    simp only [tk] at ht
    by_cases e9 : x = word
    ·rw [if_pos e9] at ht;cases ht
    ·exact tl_other e9
  clear h ht hw0
  generalize hdW ws = x at *
  go_enter Tryz.func52,Tryz.ntmps52
  go_wp2_with fail
  refine NX.out.mono ?_
  rintro r w1 ⟨rfl,hb⟩
  have HB:=hidE hb
  clear hb NX
  go_wp2_with fail
  go_ret
  exact ⟨rfl,keptB_of_below HB.out,ps_kept H.out HB.out⟩
 | some ws1 =>
  cases ws with
  | nil => simp [tk] at ht
  | cons x r =>
   simp only [tk] at ht
   by_cases e9 : x = word
   ·rw [if_pos e9] at ht
    cases ht
    subst e9
    have hx : hdW (x :: ws1) = x:=rfl
    rw [hx] at NX
    have hne : (x.toList == x.toList) = true:=tl_same x
    clear h hx hw0
    go_enter Tryz.func52,Tryz.ntmps52
    go_wp2_with fail
    refine NX.out.mono ?_
    rintro r w1 ⟨rfl,hb⟩
    have HB:=hidE hb
    have SK:=hidE (skip_any gp gm wv x ws1 d e w1 (ps_kept H.out hb))
    clear hb NX
    go_wp2_with fail
    refine SK.out.mono ?_
    rintro r w2 ⟨rfl,hk,wv',hp⟩
    have HK:=hidE hk
    have HP:=hidE hp
    clear hk hp SK
    go_wp2_with fail
    go_ret
    exact ⟨rfl,keptB_trans (keptB_of_below HB.out) HK.out,wv',HP.out⟩
   ·rw [if_neg e9] at ht
    cases ht
theorem fail_any (gp gm : Nat) (c : Int) (hc : 0 < c) (wv : Value) (ws : Ws) (d e : Int) (w : World) (h : PS w gp gm wv ws d e) :
  Calls Tryz.prog 55 #[.pointer (some ⟨gp,0,none⟩),.iface 48 (.int .i64 c)] w fun r w' => r = .returned (.tuple #[]) ∧ KeptB w w' (fun q => q = gp) ∧ PS w' gp gm (.slice none 0 0) [] d (errN e c):=by
 have c3 : w.cell? ⟨gp,3,none⟩ = some (errC e):=h.bd.c 3 (by simp)
 have c0 : w.cell? ⟨gp,0,none⟩ = some wv:=h.bd.c 0 (by simp)
 have f3:=h.bd.fz 3
 have f0:=h.bd.fz 0
 have nilrow : ∀ w : World,RowG w (.slice none 0 0) 1 ([] : Ws).length (([] : Ws).map Value.string):=fun w => ⟨rfl,.inl ⟨⟨_,_,rfl⟩,rfl⟩⟩
 have nofar : ∀ g off m c',Value.slice none 0 0 = .slice (some ⟨g,off,none⟩) m c' → g < gp:=fun g off m c' hq => by simp at hq
 by_cases he : e = 0
 ·subst he
  have ec : errC 0 = .nilIface:=rfl
  rw [ec] at c3
  have B3:=blk_set h.bd 3 (.iface 48 (.int .i64 c)) (by simp)
  have c0b : (w.setCell ⟨gp,3,none⟩ (.iface 48 (.int .i64 c))).cell? ⟨gp,0,none⟩ = some wv:=B3.c 0 (by simp)
  have f0b:=B3.fz 0
  have B0:=blk_set B3 0 (.slice none 0 0) (by simp)
  have cne : errC c = .iface 48 (.int .i64 c):=by unfold errC;rw [if_neg (by omega)]
  have ks : KeptB w ((w.setCell ⟨gp,3,none⟩ (.iface 48 (.int .i64 c))).setCell ⟨gp,0,none⟩ (.slice none 0 0)) (fun q => q = gp):=keptB_set (keptB_set (keptB_of_below (bad:=fun q => q = gp) (Below.refl w.heap.size w)) rfl 3 _) rfl 0 _
  have P0 : Hid (PS ((w.setCell ⟨gp,3,none⟩ (.iface 48 (.int .i64 c))).setCell ⟨gp,0,none⟩ (.slice none 0 0)) gp gm (.slice none 0 0) [] d c):=by
   refine ⟨?_,nilrow _,nofar,mapL_kept h.sg ks h.ne,h.lt,fun _ => rfl,by simp⟩
   rw [cne]
   simpa using B0
  have KS:=hidE ks
  clear h B3 B0 ks cne ec
  go_enter Tryz.func55,Tryz.ntmps55
  go_wp2_with fail
  refine ⟨rfl,_,by simp [results],rfl,KS.out,by rw [errN_0];exact P0.out⟩
 ·have ec : errC e = .iface 48 (.int .i64 e):=by unfold errC;rw [if_neg he]
  rw [ec] at c3
  have B0:=blk_set h.bd 0 (.slice none 0 0) (by simp)
  have P0:=hidE (ps_set h 0 (.slice none 0 0) (ws':=[]) (d':=d) (e':=e) (by simpa using B0) (nilrow _) nofar (fun _ => rfl) (by simp))
  have HE:=hidE he
  clear h B0 ec he
  go_enter Tryz.func55,Tryz.ntmps55
  go_wp2_with fail
  refine ⟨rfl,_,by simp [results],rfl,P0.out.2,by rw [errN_ne HE.out];exact P0.out.1⟩
theorem must_any (gp gm : Nat) (word : ByteArray) (hw0 : word ≠ ⟨#[]⟩) (wv : Value) (ws : Ws) (d e : Int) (w : World) (h : PS w gp gm wv ws d e) :
  Calls Tryz.prog 50 #[.pointer (some ⟨gp,0,none⟩),.string word] w fun r w' => r = .returned (.tuple #[]) ∧ KeptB w w' (fun q => q = gp) ∧ ∃ wv',match tk word ws with
   | some ws1 => PS w' gp gm wv' ws1 d e
   | none => PS w' gp gm wv' [] d (errN e 4):=by
 have TK:=take_any gp gm word hw0 wv ws d e w h
 unfold TakeR at TK
 clear h
 cases ht : tk word ws with
 | some ws1 =>
  rw [ht] at TK
  have TK:=hidE TK
  go_enter Tryz.func50,Tryz.ntmps50
  go_wp2_with fail
  refine TK.out.mono ?_
  rintro r w1 ⟨rfl,hk,wv',hp⟩
  have HK:=hidE hk
  have HP:=hidE hp
  clear hk hp TK
  go_wp2_with fail
  refine ⟨rfl,_,by simp [results],rfl,HK.out,wv',HP.out⟩
 | none =>
  rw [ht] at TK
  have TK:=hidE TK
  go_enter Tryz.func50,Tryz.ntmps50
  go_wp2_with fail
  refine TK.out.mono ?_
  rintro r w1 ⟨rfl,hk,hp⟩
  have HK:=hidE hk
  have FL:=hidE (fail_any gp gm 4 (by decide) wv ws d e w1 hp)
  clear hk hp TK
  go_wp2_with fail
  refine FL.out.mono ?_
  rintro r w2 ⟨rfl,hk,hp⟩
  have HK2:=hidE hk
  have HP:=hidE hp
  clear hk hp FL
  go_wp2_with fail
  refine ⟨rfl,_,by simp [results],rfl,keptB_trans HK.out HK2.out,_,HP.out⟩
structure RD (w : World) (g : Nat) (wv : Value) (all : Ws) (n : Nat) (ws : Ws) (d e : Int) : Prop where
 bd : BlkAt w g [wv,.int .i64 (n : Int),.int .i64 d,.int .i64 e]
 row : RowG w wv 1 all.length (all.map Value.string)
 far : ∀ g' off m c,wv = .slice (some ⟨g',off,none⟩) m c → g' < g
 few : all.length ≤ 100
 le : n ≤ all.length
 ep : 0 ≤ e
 ws0 : ws = if e = 0 then all.drop n else []
theorem rd_kept {w w' : World} {g : Nat} {wv : Value} {all : Ws} {n : Nat} {ws : Ws} {d e : Int} (h : RD w g wv all n ws d e) (hb : Below w.heap.size w w') : RD w' g wv all n ws d e :=
 ⟨blk_below h.bd hb h.bd.lt,rowG_below h.row hb,h.far,h.few,h.le,h.ep,h.ws0⟩
theorem rd_far {w w' : World} {g : Nat} {wv : Value} {all : Ws} {n : Nat} {ws : Ws} {d e : Int} {bad : Nat → Prop} (h : RD w g wv all n ws d e) (hk : KeptB w w' bad) (hb : ∀ k,bad k → g < k) : RD w' g wv all n ws d e :=
 ⟨blk_kept h.bd hk (fun e9 => by have:=hb _ e9;omega),rowG_kept h.row hk (fun g' off m c e9 e8 => by have:=hb _ e8;have:=h.far g' off m c e9;omega),h.far,h.few,h.le,h.ep,h.ws0⟩
theorem drewN_below {B : Nat} {a w : World} (h : Below B a w) (q : Nat) : Below B a (w.drewN q):=⟨h.os,h.tape,h.output,h.size,h.block⟩
theorem rd_set {w : World} {g : Nat} {wv : Value} {all : Ws} {n : Nat} {ws : Ws} {d e : Int} (h : RD w g wv all n ws d e) (k : Nat) (u : Value) {n' : Nat} {ws' : Ws} {d' e' : Int}
  (hb : BlkAt (w.setCell ⟨g,k,none⟩ u) g [wv,.int .i64 (n' : Int),.int .i64 d',.int .i64 e']) (hl : n' ≤ all.length) (he : 0 ≤ e') (hw : ws' = if e' = 0 then all.drop n' else []) :
  RD (w.setCell ⟨g,k,none⟩ u) g wv all n' ws' d' e' ∧ KeptB w (w.setCell ⟨g,k,none⟩ u) (fun q => q = g):=by
 have ks : KeptB w (w.setCell ⟨g,k,none⟩ u) (fun q => q = g):=keptB_set (keptB_of_below (bad:=fun q => q = g) (Below.refl w.heap.size w)) rfl k u
 exact ⟨⟨hb,rowG_kept h.row ks (fun g' off m c e9 e8 => by have:=h.far g' off m c e9;omega),h.far,h.few,hl,he,hw⟩,ks⟩
theorem rnext_any (g : Nat) (wv : Value) (all : Ws) (n : Nat) (ws : Ws) (d e : Int) (w : World) (h : RD w g wv all n ws d e) :
  Calls Tryz.prog 56 #[.pointer (some ⟨g,0,none⟩)] w fun r w' => r = .returned (.string (hdW ws)) ∧ Below w.heap.size w w':=by
 have c0 : w.cell? ⟨g,0,none⟩ = some wv:=h.bd.c 0 (by simp)
 have c1 : w.cell? ⟨g,1,none⟩ = some (.int .i64 (n : Int)):=h.bd.c 1 (by simp)
 have c3 : w.cell? ⟨g,3,none⟩ = some (.int .i64 e):=h.bd.c 3 (by simp)
 have hws:=h.ws0
 have hep:=h.ep
 have hfw:=h.few
 have hle:=h.le
 by_cases he : e = 0
 ·subst he
  rw [if_pos rfl] at hws
  rcases Nat.lt_or_ge n all.length with hn | hn
  ·obtain ⟨x,hx⟩ : ∃ x,all[n]? = some x:=⟨all[n],by simp [hn]⟩
   have hw1 : hdW ws = x:=by
    rw [hws,List.drop_eq_getElem_cons hn]
    simp only [hdW]
    rw [List.getElem?_eq_getElem hn] at hx
    exact Option.some.inj hx
   rw [hw1]
   obtain ⟨-,hr⟩:=h.row
   rcases hr with ⟨-,hr⟩ | ⟨g',off,cap,rfl,h2,h3,h4,h5⟩
   ·simp at hr
    subst hr
    simp at hn
   ·have hc:=h5 n (by simp;omega)
    simp only [List.getElem?_map,hx,Option.map_some] at hc
    unfold maxLen at h3
    have hn1 : (n : Int) < (all.length : Int):=by omega
    have q1 : decide ((all.length : Int) ≤ (n : Int)) = false:=by simp;omega
    have q0 : decide ((0 : Int) < 0) = false:=by decide
    clear h h5 hws hw1 hle
    generalize all.length = L at *
    go_enter Tryz.func56,Tryz.ntmps56
    go_wp2_with fail
    go_quiet (fail)
    go_wp2_with fail
    go_quiet (fail)
    go_wp2_with fail
    go_ret
    exact ⟨rfl,drewN_below (drewN_below (Below.refl _ _) _) _⟩
  ·have hw1 : hdW ws = ⟨#[]⟩:=by
    rw [hws,List.drop_eq_nil_of_le hn]
    rfl
   rw [hw1]
   obtain ⟨ao,cap,rfl⟩:=rowG_shape h.row
   have q1 : decide ((all.length : Int) ≤ (n : Int)) = true:=by simp;omega
   have q0 : decide ((0 : Int) < 0) = false:=by decide
   clear h hws hw1 hle
   generalize all.length = L at *
   go_enter Tryz.func56,Tryz.ntmps56
   go_wp2_with fail
   go_quiet (fail)
   go_wp2_with fail
   go_ret
   exact ⟨rfl,drewN_below (Below.refl _ _) _⟩
 ·rw [if_neg he] at hws
  subst hws
  have q0 : decide ((0 : Int) < e) = true:=by simp;omega
  clear h hle
  go_enter Tryz.func56,Tryz.ntmps56
  go_wp2_with fail
  go_quiet (fail)
  go_wp2_with fail
  go_ret
  exact ⟨rfl,drewN_below (Below.refl _ _) _⟩
theorem rfail_any (g : Nat) (c : Int) (hc : 0 < c) (wv : Value) (all : Ws) (n : Nat) (ws : Ws) (d e : Int) (w : World) (h : RD w g wv all n ws d e) :
  Calls Tryz.prog 35 #[.pointer (some ⟨g,0,none⟩),.int .i64 c] w fun r w' => r = .returned (.tuple #[]) ∧ KeptB w w' (fun q => q = g) ∧ RD w' g wv all n [] d (errN e c):=by
 have c3 : w.cell? ⟨g,3,none⟩ = some (.int .i64 e):=h.bd.c 3 (by simp)
 have f3:=h.bd.fz 3
 by_cases he : e = 0
 ·subst he
  have B3:=blk_set h.bd 3 (.int .i64 c) (by simp)
  have P3:=hidE (rd_set h 3 (.int .i64 c) (n':=n) (ws':=[]) (d':=d) (e':=c) (by simpa using B3) h.le (by omega) (by rw [if_neg (by omega)]))
  clear h B3
  go_enter Tryz.func35,Tryz.ntmps35
  go_wp2_with fail
  refine ⟨rfl,_,by simp [results],rfl,P3.out.2,by rw [errN_0];exact P3.out.1⟩
 ·have H:=hidE h
  have hw:=h.ws0
  rw [if_neg he] at hw
  subst hw
  have HE:=hidE he
  have hz : (e == 0) = false:=by simpa using he
  clear h
  go_enter Tryz.func35,Tryz.ntmps35
  go_wp2_with fail
  refine ⟨rfl,_,by simp [results],rfl,keptB_of_below (Below.refl _ _),by rw [errN_ne HE.out];exact H.out⟩
def RTakeR (w w' : World) (g : Nat) (word : ByteArray) (wv : Value) (all : Ws) (n : Nat) (ws : Ws) (d e : Int) (r : Ending) : Prop :=
 match tk word ws with
 | some ws1 => r = .returned (.bool true) ∧ KeptB w w' (fun q => q = g) ∧ RD w' g wv all (n + 1) ws1 d e
 | none => r = .returned (.bool false) ∧ KeptB w w' (fun q => q = g) ∧ RD w' g wv all n ws d e
theorem toList_ne {x : ByteArray} (h : x ≠ ⟨#[]⟩) : ¬ x.toList = []:=by
 intro e
 apply h
 rw [Lib.toList_data] at e
 cases x
 simp at e
 rw [e]
theorem ws_one {all : Ws} {n : Nat} {x : ByteArray} {ws1 : Ws} {e : Int} (h : x :: ws1 = if e = 0 then all.drop n else []) : e = 0 ∧ n < all.length ∧ all.drop (n + 1) = ws1:=by
 by_cases he : e = 0
 ·rw [if_pos he] at h
  have hn : n < all.length:=by
   rcases Nat.lt_or_ge n all.length with h9 | h9
   ·exact h9
   ·rw [List.drop_eq_nil_of_le h9] at h
    cases h
  rw [List.drop_eq_getElem_cons hn] at h
  exact ⟨he,hn,(List.cons.inj h).2.symm⟩
 ·rw [if_neg he] at h
  cases h
theorem rtake_any (g : Nat) (word : ByteArray) (hw0 : word ≠ ⟨#[]⟩) (wv : Value) (all : Ws) (hne : ∀ x ∈ all,x ≠ ⟨#[]⟩) (n : Nat) (ws : Ws) (d e : Int) (w : World) (h : RD w g wv all n ws d e) :
  Calls Tryz.prog 34 #[.pointer (some ⟨g,0,none⟩),.string word] w fun r w' => RTakeR w w' g word wv all n ws d e r:=by
 have NX:=hidE (rnext_any g wv all n ws d e w h)
 have H:=hidE h
 unfold RTakeR
 cases ws with
 | nil =>
  simp only [tk]
  simp only [hdW] at NX
  clear h hw0 hne
  go_enter Tryz.func34,Tryz.ntmps34
  go_wp2_with fail
  refine NX.out.mono ?_
  rintro r w1 ⟨rfl,hb⟩
  have HB:=hidE hb
  clear hb NX
  go_wp2_with fail
  go_ret
  exact ⟨rfl,keptB_of_below HB.out,rd_kept H.out HB.out⟩
 | cons x ws1 =>
  obtain ⟨he,hn,hd⟩:=ws_one h.ws0
  have hx : x ≠ ⟨#[]⟩:=hne x (by
   have h9:=h.ws0
   rw [if_pos he] at h9
   exact List.mem_of_mem_drop (h9 ▸ List.mem_cons_self))
  have e0 : ¬ x.toList = []:=toList_ne hx
  have e1 : x.toList.isEmpty = false:=by simp [e0]
  simp only [tk]
  simp only [hdW] at NX
  by_cases e9 : x = word
  ·subst e9
   have e2 : (x.toList == x.toList) = true:=tl_same x
   rw [if_pos rfl]
   have hlt : n < 100:=by have:=h.few;omega
   clear h hw0 hne hx
   go_enter Tryz.func34,Tryz.ntmps34
   go_wp2_with fail
   refine NX.out.mono ?_
   rintro r w1 ⟨rfl,hb⟩
   have H1:=rd_kept H.out hb
   have c1 : w1.cell? ⟨g,1,none⟩ = some (.int .i64 (n : Int)):=H1.bd.c 1 (by simp)
   have f1:=H1.bd.fz 1
   have B1:=blk_set H1.bd 1 (.int .i64 ((n : Int) + 1)) (by simp)
   have P1:=hidE (rd_set H1 1 (.int .i64 ((n : Int) + 1)) (n':=n + 1) (ws':=ws1) (d':=d) (e':=e) (by simpa using B1) (by omega) H1.ep (by rw [if_pos he,hd]))
   have HB:=hidE hb
   clear hb NX H1 B1
   go_wp2_with fail
   go_ret
   exact ⟨rfl,keptB_trans (keptB_of_below HB.out) P1.out.2,P1.out.1⟩
  ·have e2 : (x.toList == word.toList) = false:=tl_other e9
   rw [if_neg e9]
   clear h hw0 hne hx
   go_enter Tryz.func34,Tryz.ntmps34
   go_wp2_with fail
   refine NX.out.mono ?_
   rintro r w1 ⟨rfl,hb⟩
   have HB:=hidE hb
   clear hb NX
   go_wp2_with fail
   go_ret
   exact ⟨rfl,keptB_of_below HB.out,rd_kept H.out HB.out⟩
end Go.Proofs.YteaanpdckkmjoaaGreatDoor
