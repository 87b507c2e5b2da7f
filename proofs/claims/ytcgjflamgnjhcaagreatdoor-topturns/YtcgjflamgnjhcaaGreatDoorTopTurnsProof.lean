/- The statement TopTurns of package penstocktop, and its card: for every text all parts and turns the call returns true, and each argument reads afterwards as it read before. Conditions: the listed variables hold what the program's own text lays. -/
import Derived.Test.YtcgjflamgnjhcaaGreatDoorCards
import Derived.Test.YtcgjflamgnjhcaaGreatDoorTie
import Derived.Test.YtcgjflamgnjhcaaGreatDoorTTuJ
import Derived.Test.YtcgjflamgnjhcaaGreatDoorRows
import Derived.Test.YtcgjflamgnjhcaaGreatDoorKinJ
import Derived.WalkKit
import Derived.ProofKit
import Derived.OpenShut
import Derived.ShutString
import Derived.ChangeOld
import Derived.Below
import Derived.Lib.SmallJoins
import Derived.Deep.DeepHandedRow
import Derived.Deep.DeepWitnessRowRef
import Derived.Stop.LaidErr
import Derived.Lib.LaidTab
set_option linter.unusedVariables false
set_option linter.unusedSimpArgs false
set_option maxRecDepth 100000
set_option maxHeartbeats 8000000
namespace Go.Proofs.YtcgjflamgnjhcaaGreatDoor
open Go.ChangeShapes Go.WideShapes Go.ChangeAt Go.RowKit Go.Joins
open Go.ChangeMaps (open_string shut_string)
theorem starName : "*" ++ "errors.errorString" = "*errors.errorString" := by decide
theorem pX (u : TypeId) (h : Tryz.prog.typeName? 3 u = some "*errors.errorString") : u = 253 :=
 typeName_ptr_named (nm := "errors.errorString") (by rw [starName]; kernel_rfl) (by kernel_rfl) (by decide) u (by rw [starName]; exact h)
theorem cells_of_names {H : Type} {enc : TypeId × Value → H} {P : Program} {w : World} {base : Nat} {sp : Nat → Bool} {held : Bool} {fuel : Nat} {t e : TypeId} {n : Nat} {cs : List Value} {zs : List (List UInt8)} {p : List MemPlace}
  (ht : P.underlying t = some (.array n e)) (he : P.underlying e = some .string) (hce : P.cellsOf e = 1) (hct : P.cellsOf t = n)
  (h : DataW.trod enc P w base sp held fuel t cs = some (.agg (zs.map fun z => .lit (.string z)), p)) : cs = zs.map fun z => Value.string ⟨z.toArray⟩ := by
 cases fuel with
 | zero => simp [DataW.trod] at h
 | succ fuel =>
  simp only [DataW.trod, ht, hce, hct, Nat.mul_one] at h
  split at h
  ·rename_i hl;obtain ⟨xs, hm, hx⟩ := Option.map_eq_some_iff.1 h;have hxs : xs.map (·.1) = zs.map fun z => (DataW.lit (.string z) : DataW H) := by
    have := congrArg Prod.fst hx
    simpa using this
   have hxl : xs.length = n := by simpa using Lib.mapM_length hm
   have hzl : zs.length = n := by
    have := congrArg List.length hxs;simp at this;omega
   apply List.ext_getElem?
   intro i
   by_cases hi : i < n
   ·obtain ⟨b, hb, hf⟩ := Lib.mapM_at hm i i (by simp [hi]);obtain ⟨z, hc, rfl, _⟩ := DataW.trod_string he hf;have h1 : cs[i]? = some (.string z) := by
     have := congrArg (·[0]?) hc
     simpa [List.getElem?_take, List.getElem?_drop] using this
    have h2 : (xs.map (·.1))[i]? = some (DataW.lit (.string z.data.toList) : DataW H) := by simp [hb]
    rw [hxs] at h2;simp only [List.getElem?_map, Option.map_eq_some_iff, DataW.lit.injEq, Lit.string.injEq] at h2;obtain ⟨z', hz', rfl⟩ := h2;rw [h1]
    simp [hz']
   ·rw [List.getElem?_eq_none (by omega), List.getElem?_eq_none (by simp; omega)]
  ·cases h
theorem tabs_of_laid (W : World) (hL : laidMet Tryz.prog Rows.topTurnsRow.laid W) : TabQ W := by
 have h2 : laidMet Tryz.prog [("internal/strconv.uint64pow10", Lib.tabData .u64 Lib.pow10Tab), ("strconv.ErrRange", Rows.laid_strconv_ErrRange), ("strconv.ErrSyntax", Rows.laid_strconv_ErrSyntax), ("penstock/query.fieldNames", Rows.laid_penstock_query_fieldNames)] W := hL.tail.tail;have hp : Lib.TabIs Tryz.prog W "internal/strconv.uint64pow10" .u64 Lib.pow10Tab :=
  Lib.tabIs_of_head (g := 4) (t := 268) (e := 244) (n := 20) (by kernel_rfl) (by kernel_rfl) (by kernel_rfl) (by kernel_rfl) (by kernel_rfl) (by kernel_rfl) h2
 obtain ⟨a1, s1, hr, -, -, -⟩ := laid_sentinel h2.tail (g := 2) (ti := 33) (tp := 253) (te := 255) (ts := 9) (by kernel_rfl) (by kernel_rfl) Tryz.underlying33 pX Tryz.underlying253 Tryz.underlying255 rfl rfl Tryz.underlying9 (by kernel_rfl) (by kernel_rfl);obtain ⟨a0, s0, hs, -, -, -⟩ := laid_sentinel h2.tail.tail (g := 1) (ti := 33) (tp := 253) (te := 255) (ts := 9) (by kernel_rfl) (by kernel_rfl) Tryz.underlying33 pX Tryz.underlying253 Tryz.underlying255 rfl rfl Tryz.underlying9 (by kernel_rfl) (by kernel_rfl);have hsz : 7 ≤ W.heap.size := by
  obtain ⟨ps6, ⟨g6, t6, cs6, fuel6, p6, q6, hg6, ht6, hvar6, hd6, _, _⟩, _⟩ := hL.tail
  rcases Nat.lt_or_ge 6 W.heap.size with h | h
  ·exact h
  ·exfalso
   unfold World.var? at hvar6;rw [show Tryz.prog.globalNamed "math/bits.deBruijn64tab" = some 6 by kernel_rfl] at hvar6;simp only [Option.bind_some] at hvar6;rw [Array.getElem?_eq_none h] at hvar6;simp at hvar6
 obtain ⟨psn, ⟨g', t', cs, fuel, p, q, hg', ht', hvar, hd, _, _⟩, _⟩ := h2.tail.tail.tail;obtain rfl := Option.some.inj ((show Tryz.prog.globalNamed "penstock/query.fieldNames" = some 3 by kernel_rfl).symm.trans hg');obtain rfl := Option.some.inj ((show (Tryz.prog.globals[3]?).map (·.type) = some 264 by kernel_rfl).symm.trans ht');have hc := cells_of_names (zs := [[116], [107], [97], [98]]) (t := 264) (e := 9) (n := 4) (by kernel_rfl) Tryz.underlying9 (by kernel_rfl) (by kernel_rfl) hd;have hcell : ∀ j, W.cell? ⟨3, j, none⟩ = cs[j]? := fun j => World.var?_cell (by kernel_rfl) hvar j
 have hl : ∀ j : Nat, cs[j]? = cs.toList[j]? := fun j => by simp
 refine ⟨⟨hp, hsz, ⟨_, _, hs⟩, ⟨_, _, hr⟩⟩, ?_, ?_, ?_, ?_⟩
 ·rw [hcell, hl, hc]; rfl
 ·rw [hcell, hl, hc]; rfl
 ·rw [hcell, hl, hc]; rfl
 ·rw [hcell, hl, hc]; rfl
def vNames : Array Value := #[.string ⟨#[116]⟩, .string ⟨#[107]⟩, .string ⟨#[97]⟩, .string ⟨#[98]⟩]
def vPow : Array Value := (Lib.pow10Tab.map fun z => Value.int .u64 z).toArray
def v32 : Array Value := #[.int .u8 0, .int .u8 1, .int .u8 28, .int .u8 2, .int .u8 29, .int .u8 14, .int .u8 24, .int .u8 3, .int .u8 30, .int .u8 22, .int .u8 20, .int .u8 15, .int .u8 25, .int .u8 17, .int .u8 4, .int .u8 8, .int .u8 31, .int .u8 27, .int .u8 13, .int .u8 23, .int .u8 21, .int .u8 19, .int .u8 16, .int .u8 7, .int .u8 26, .int .u8 12, .int .u8 18, .int .u8 6, .int .u8 11, .int .u8 5, .int .u8 10, .int .u8 9]
def v64 : Array Value := #[.int .u8 0, .int .u8 1, .int .u8 56, .int .u8 2, .int .u8 57, .int .u8 49, .int .u8 28, .int .u8 3, .int .u8 61, .int .u8 58, .int .u8 42, .int .u8 50, .int .u8 38, .int .u8 29, .int .u8 17, .int .u8 4, .int .u8 62, .int .u8 47, .int .u8 59, .int .u8 36, .int .u8 45, .int .u8 43, .int .u8 51, .int .u8 22, .int .u8 53, .int .u8 39, .int .u8 33, .int .u8 30, .int .u8 24, .int .u8 18, .int .u8 12, .int .u8 5, .int .u8 63, .int .u8 55, .int .u8 48, .int .u8 27, .int .u8 60, .int .u8 41, .int .u8 37, .int .u8 16, .int .u8 46, .int .u8 35, .int .u8 44, .int .u8 21, .int .u8 52, .int .u8 32, .int .u8 23, .int .u8 11, .int .u8 54, .int .u8 26, .int .u8 40, .int .u8 15, .int .u8 34, .int .u8 20, .int .u8 31, .int .u8 10, .int .u8 25, .int .u8 14, .int .u8 19, .int .u8 9, .int .u8 13, .int .u8 8, .int .u8 7, .int .u8 6]
def fO (cs : Array Value) : Obj → Obj
 | .cells _ t frozen => .cells cs t frozen
 | o => o
def errBlocks : Array Obj := #[.cells #[.string ⟨#[105, 110, 118, 97, 108, 105, 100, 32, 115, 121, 110, 116, 97, 120]⟩] 255, .cells #[.string ⟨#[118, 97, 108, 117, 101, 32, 111, 117, 116, 32, 111, 102, 32, 114, 97, 110, 103, 101]⟩] 255]
def oB (w : World) (l : Nat) : World :=
 { w with heap := (((((w.heap.modify 3 (fO vNames)).modify 1 (fO #[.iface 253 (.pointer (some ⟨l, 0, none⟩))])).modify 2 (fO #[.iface 253 (.pointer (some ⟨l + 1, 0, none⟩))])).modify 4 (fO vPow)).modify 5 (fO v32)).modify 6 (fO v64) }
theorem topTurns_laid (os : Os) (args : Array Value) : laidMet Tryz.prog Rows.topTurnsRow.laid ((oB (World.holding Tryz.prog os ⟨errBlocks, #[], []⟩) 12).forCall (fun _ _ => 0) ⟨#[], args, []⟩).memory :=
 laidMet_of_run' 8 (by kernel_rfl) (by kernel_rfl)
theorem topTurns_reads (os : Os) {H : Type} (enc : TypeId × Value → H) : ∃ places, DataW.whole enc Tryz.prog ((oB (World.holding Tryz.prog os ⟨errBlocks, #[], []⟩) 12).forCall (fun _ _ => 0) ⟨#[], #[.string ⟨#[]⟩, .slice none 0 0, .slice none 0 0], []⟩).memory Tryz.f8.params.toList Rows.topTurnsSpec.vars false (#[.string ⟨#[]⟩, .slice none 0 0, .slice none 0 0] : Array Value).toList 8 = some ([.lit (.string []), .nil, .nil], [], places) :=
 ⟨[], by kernel_rfl⟩
theorem cellsInt9 : Tryz.prog.cellsOf 3 = 1 := by kernel_rfl
theorem open_intsE {H : Type} {enc : TypeId × Value → H} {W : World} {sp : Nat → Bool} {hd : Bool} {fuel : Nat} {v : Value} {x : DataW H × List MemPlace}
  (h : DataW.trod enc Tryz.prog W 0 sp hd fuel 56 [v] = some x) : ∃ l : List Int, pz W v l ∧ l.length ≤ maxLen := by
 obtain ⟨l, hr, hl, -⟩ := jp (f := fun n : Int => [Value.int .i64 n]) (S := 1) (Pz := fun _ => True) (fun _ => rfl) (by decide) Tryz.underlying56 cellsInt9 0 (fun {fuel cs x} h => by
  obtain ⟨a, e, -, -⟩ := DataW.trod_int Tryz.underlying3 h;exact ⟨a, e, trivial⟩) h
 rw [eo] at hr;exact ⟨l, hr, hl⟩
theorem topTurns_contract (H : Type) (enc : TypeId × Value → H) (W : World) (base : Nat) (args : Array Value) (ds gs : List (DataW H)) (before : List MemPlace)
  (hval : ∀ (j : Nat) t v, Tryz.f8.params[j]? = some t → args[j]? = some v → Value.okWide Tryz.prog W .any base t v)
  (hL : laidMet Tryz.prog Rows.topTurnsRow.laid W)
  (hW : DataW.Whole enc Tryz.prog Tryz.f8.params.toList Rows.topTurnsSpec.vars false W args.toList ds gs before) :
  Calls Tryz.prog 8 args W fun e W' => ∃ v, e = .returned v ∧ Rows.topTurnsSpec.post enc Tryz.prog Tryz.f8 false true false false W args v W' := by
 have hW' := hW;obtain ⟨p, q, hA0, hV, rfl, hfz, hnd⟩ := hW;have hA : DataW.TrodAll enc Tryz.prog W 0 (fun _ => true) true Tryz.f8.params.toList args.toList ds p := hA0;rw [Tryz.params8] at hA hval;obtain ⟨v0, vs0, d0, ds0, p0, q0, hargs, rfl, rfl, h0, r0⟩ := trodAll_cons hA;obtain ⟨v1, vs1, d1, ds1, p1, q1, rfl, rfl, rfl, h1, r1⟩ := trodAll_cons r0;obtain ⟨v2, vs2, d2, ds2, p2, q2, rfl, rfl, rfl, h2, r2⟩ := trodAll_cons r1;obtain ⟨rfl, rfl, rfl⟩ := trodAll_nil r2;obtain rfl : args = #[v0, v1, v2] := by cases args; simp_all
 obtain ⟨rfl, rfl⟩ := trodVars_none hV;have k0 := h0;have k1 := h1;have k2 := h2;obtain ⟨s, rfl, rfl, rfl, hs⟩ := open_string Tryz.underlying9 (hval 0 9 v0 rfl rfl) h0;obtain ⟨al, lal, cal, rfl⟩ := okWide_slice Tryz.underlying49 (hval 1 49 v1 rfl rfl);obtain ⟨fuel, hfu⟩ := h1;obtain ⟨vs, M, hM, hml⟩ := open_parts hfu;obtain ⟨al2, lal2, cal2, rfl⟩ := okWide_slice Tryz.underlying56 (hval 2 56 v2 rfl rfl);obtain ⟨fuel2, hfu2⟩ := h2;obtain ⟨T2, hT2, htl2⟩ := open_intsE hfu2;clear hA0;refine (topTurns_walk s _ _ vs M T2 W (tabs_of_laid W hL) hM hml hT2 htl2).mono fun e W' ⟨he, bel⟩ => ?_
 subst he;exact ⟨_, rfl, _, _, _, [], _, [], hW', trodAll_mk1 (shut_bool Tryz.underlying4 _), (trodAll_cons_mk (again (by kernel_rfl) (of_decide_eq_true (by kernel_rfl)) k0 bel) (trodAll_cons_mk (again (by kernel_rfl) (of_decide_eq_true (by kernel_rfl)) k1 bel) (trodAll_cons_mk (again (by kernel_rfl) (of_decide_eq_true (by kernel_rfl)) k2 bel) trodAll_mk0))), rfl, bel.frame _, fun h => by cases h⟩
theorem topTurns_lifted (os : Os) (started : os.Started) (H : Type) (enc : TypeId × Value → H) (F : Stop.Interp) :
  ReturnsInHanded {} Tryz.checked os 8 .any ((OpenSpec.ofChange Rows.topTurnsSpec).preRow enc Tryz.prog Tryz.f8 Rows.topTurnsRow.domain false Rows.topTurnsRow.laid) (((OpenSpec.ofChange Rows.topTurnsSpec).at F).post enc Tryz.prog Tryz.f8 false true false false) := by
 obtain ⟨places, hx⟩ := topTurns_reads os enc;refine returnsInHanded_of_row (C := Tryz.checked) (s := OpenSpec.ofChange Rows.topTurnsSpec) own started (by kernel_rfl) Tryz.func8
  (witness_row_atRef (enc := enc) (C := Tryz.checked) false (oB (World.holding Tryz.prog os ⟨errBlocks, #[], []⟩) 12) #[.string ⟨#[]⟩, .slice none 0 0, .slice none 0 0] rfl (by kernel_rfl) (by kernel_rfl) (by kernel_rfl)
   (OpenSpec.preRow_of_cond 8 hx (by kernel_rfl) (fun k hk => by cases hk) (by kernel_rfl) (topTurns_laid os _))) ?_
 intro W base args ds gs before hval hW _ _ _ hL _ _;exact topTurns_contract H enc W base args ds gs before hval hL hW
theorem topTurns_said : Rows.TopTurnsSaid :=
 OpenClaim.holds_of_cond 8 Tryz.f8 rfl rfl rfl rfl rfl rfl rfl ⟨rfl, rfl, rfl, rfl, rfl⟩ rfl rfl rfl rfl rfl (by kernel_rfl) Tryz.func8 (by kernel_rfl)
  (of_decide_eq_true (by kernel_rfl)) (by unfold Func.isWrapper; first | (rw [if_pos (by decide +kernel)]; kernel_rfl) | (rw [if_neg (by decide +kernel)]; exact ⟨rfl, rfl⟩))
  (fun os started H enc _ F => by rw [OpenClaim.pre_eq_preRow]; exact topTurns_lifted os started H enc F)
theorem topTurns_plain (f : FuncId) (fn : Func) (hf : Tryz.pinned.checked.prog.funcNamed Rows.topTurnsRow.func = some f) (hfn : Tryz.pinned.checked.prog.funcs[f]? = some fn) :
  true = Tryz.pinned.checked.prog.looks [] ∧ ∀ (j : Nat) t, fn.params[j]? = some t → Tryz.pinned.checked.prog.wantsStandIn t = false := by
 obtain rfl : f = 8 := Option.some.inj ((show Tryz.prog.funcNamed Rows.topTurnsRow.func = some 8 by kernel_rfl).symm.trans hf) |>.symm
 obtain rfl : fn = Tryz.f8 := (Option.some.inj (Tryz.func8.symm.trans hfn)).symm;refine ⟨by kernel_rfl, fun j t ht => ?_⟩;rw [Tryz.params8] at ht
 rcases j with - | - | - | j
 ·obtain rfl : t = 9 := (Option.some.inj ht).symm;exact (show Tryz.prog.wantsStandIn 9 = false by kernel_rfl)
 ·obtain rfl : t = 49 := (Option.some.inj ht).symm;exact (show Tryz.prog.wantsStandIn 49 = false by kernel_rfl)
 ·obtain rfl : t = 56 := (Option.some.inj ht).symm;exact (show Tryz.prog.wantsStandIn 56 = false by kernel_rfl)
 ·simp at ht
theorem topTurns_card : Rows.TopTurnsCardSaid :=
 Claim7.holds_tied_plain_at .later [] _ _ _ _ topTurns_said (fun _ h => by cases h) (by kernel_rfl) (fun _ h => by cases h) topTurns_row_tie rfl ⟨rfl, rfl⟩ (by kernel_rfl) rfl topTurns_plain (by kernel_rfl)
#print axioms topTurns_card
end Go.Proofs.YtcgjflamgnjhcaaGreatDoor
