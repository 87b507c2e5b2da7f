/- What the walks of this seat share: rows of cells in slices, and worlds that keep what was there. Conditions: none. -/
import Derived.Test.YtjiopjdbifcfkacRows
import Derived.Test.YtjiopjdbifcfkacKin
import Derived.WalkKit
import Derived.ProofKit
import Derived.OpenShut
import Derived.ShutString
import Derived.ChangeOld
import Derived.Below
import Derived.Outline
import Derived.OwnWalk
import Derived.Deep.QuietTactic
import Derived.BigQuiet
import Derived.RegionTactic
import Derived.Deep.RegionWith
import Derived.Deep.DeepMust
namespace Go.Proofs.Ytjiopjdbifcfkac
open Go.ChangeShapes Go.WideShapes Go.ChangeAt Go.RowKit
set_option linter.unusedVariables false
set_option linter.unusedSimpArgs false

theorem hidE {p : Prop} (h : p) : Hid p := h

theorem bcell {W w1 : World} (hb : Below W.heap.size W w1) : (∀ b o, b < W.heap.size → w1.cell? ⟨b, o, none⟩ = W.cell? ⟨b, o, none⟩) ∧ (∀ b o, b < W.heap.size → w1.frozen? ⟨b, o, none⟩ = W.frozen? ⟨b, o, none⟩) :=
  ⟨fun b o h => hb.cell (p := ⟨b, o, none⟩) h, fun b o h => hb.frozen (p := ⟨b, o, none⟩) h⟩

theorem nxt {W0 wx wy : World} (h : Hid (Below W0.heap.size W0 wx)) (hb : Below wx.heap.size wx wy) : Hid (Below W0.heap.size W0 wy) := h.out.trans (hb.mono h.out.size)

theorem nxtd {W0 wx : World} (h : Hid (Below W0.heap.size W0 wx)) : Hid (Below W0.heap.size W0 wx.drew) := h.out.drew

theorem nxta {W0 wx : World} (h : Hid (Below W0.heap.size W0 wx)) (o : Obj) : Hid (Below W0.heap.size W0 (wx.alloc o)) := h.out.alloc h.out.size o

theorem rules {W0 wx : World} (h : Hid (Below W0.heap.size W0 wx)) : (∀ b o, b < W0.heap.size → wx.cell? ⟨b, o, none⟩ = W0.cell? ⟨b, o, none⟩) ∧ (∀ b o, b < W0.heap.size → wx.frozen? ⟨b, o, none⟩ = W0.frozen? ⟨b, o, none⟩) := bcell h.out

theorem done {w W0 wx : World} (h0 : Below w.heap.size w W0) (h : Hid (Below W0.heap.size W0 wx)) : Below w.heap.size w wx := h0.trans (h.out.mono h0.size)

theorem ended {w W0 wx : World} {g : Nat} (h : Hid (Below W0.heap.size W0 wx)) (h0 : Below w.heap.size w W0) (x y : Value) (hg : w.heap.size ≤ g := by omega) : Below w.heap.size w ((wx.setCell ⟨g, 0, none⟩ x).setCell ⟨g, 1, none⟩ y) :=
  ((done h0 h).setCell (p := ⟨g, 0, none⟩) hg x).setCell (p := ⟨g, 1, none⟩) hg y

def RowG (w : World) (v : Value) (size n : Nat) (xs : List Value) : Prop :=
  xs.length = n * size ∧ (((∃ ao cap, v = .slice ao 0 cap) ∧ n = 0) ∨ ∃ g off cap, v = .slice (some ⟨g, off, none⟩) n cap ∧ n ≤ cap ∧ cap ≤ maxLen ∧ g < w.heap.size ∧ ∀ j, j < n * size → w.cell? ⟨g, off + j, none⟩ = xs[j]?)

theorem rowG_of_owns {w : World} {base size n : Nat} {e : TypeId} {v : Value} {xs : List Value} (h : w.ownsRow base e size v n xs) : RowG w v size n xs := by
  obtain ⟨h0, h1⟩ := h
  refine ⟨h0, ?_⟩
  rcases h1 with ⟨rfl, hn⟩ | ⟨g, cap, cur, rfl, hb, hg, hle, hm, hs, ht⟩
  · exact .inl ⟨⟨_, _, rfl⟩, hn⟩
  · have hsz : g < w.heap.size := (Array.getElem?_eq_some_iff.1 hg).1
    refine .inr ⟨g, 0, cap, rfl, hle, hm, hsz, fun i hi => ?_⟩
    have hc := World.ownsRow.cellAt (w := w) (base := base) (e := e) (size := size) (g := g) (n := n) (cap := cap) ⟨h0, .inr ⟨g, cap, cur, rfl, hb, hg, hle, hm, hs, ht⟩⟩ i hi
    rw [Nat.zero_add, hc]

theorem rowG_below {w w' : World} {size n : Nat} {v : Value} {xs : List Value} (h : RowG w v size n xs) (hb : Below w.heap.size w w') : RowG w' v size n xs := by
  obtain ⟨h0, h⟩ := h
  refine ⟨h0, ?_⟩
  rcases h with h | ⟨g, off, cap, h1, h2, h3, h4, h5⟩
  · exact .inl h
  · exact .inr ⟨g, off, cap, h1, h2, h3, Nat.lt_of_lt_of_le h4 hb.size, fun i hi => by rw [hb.cell (p := ⟨g, off + i, none⟩) h4]; exact h5 i hi⟩

theorem rowG_shape {w : World} {size n : Nat} {v : Value} {xs : List Value} (h : RowG w v size n xs) : ∃ ao cap, v = .slice ao n cap := by
  rcases h.2 with ⟨⟨ao, cap, rfl⟩, rfl⟩ | ⟨g, off, cap, rfl, _⟩
  · exact ⟨ao, cap, rfl⟩
  · exact ⟨_, _, rfl⟩

theorem rowG_lit (w : World) (e : TypeId) (l : List Value) (g n : Nat) (hg : g = w.heap.size) (hn : n = l.length) (hm : n ≤ maxLen) : RowG (w.alloc (.cells l.toArray e)) (.slice (some ⟨g, 0, none⟩) n n) 1 n l := by
  subst hg hn
  have h := World.ownsRow_lit (base := 0) (size := 1) (e := e) w l.toArray l.length (Nat.zero_le _) hm (by simp)
  exact rowG_of_owns (base := 0) (by simpa using h)

theorem rowG_cell {w : World} {n : Nat} {ao : Option Addr} {cap : Nat} {xs : List Value} (h : RowG w (.slice ao n cap) 1 n xs) (j : Nat) (hj : j < n) :
    ∃ g off x, ao = some ⟨g, off, none⟩ ∧ xs[j]? = some x ∧ w.cell? ⟨g, off + j, none⟩ = some x ∧ n ≤ cap ∧ cap ≤ maxLen ∧ g < w.heap.size := by
  obtain ⟨h0, h⟩ := h
  rcases h with ⟨-, h⟩ | ⟨g, off, cap', e, h1, h2, h3, h4⟩
  · omega
  · simp only [Value.slice.injEq] at e
    obtain ⟨rfl, -, rfl⟩ := e
    have hx := h4 j (by omega)
    rw [List.getElem?_eq_getElem (by omega)] at hx
    exact ⟨g, off, _, rfl, List.getElem?_eq_getElem (by omega), hx, h1, h2, h3⟩

theorem own_keep {w w' : World} {B base : Nat} {e : TypeId} {size n : Nat} {v : Value} {xs : List Value} (h : w.ownsRow base e size v n xs) (hb : Below B w w') (hB : w.heap.size ≤ B) : w'.ownsRow base e size v n xs := by
  obtain ⟨h0, h1⟩ := h
  refine ⟨h0, ?_⟩
  rcases h1 with h1 | ⟨g, cap, cur, e1, hb', hg, hle, hm, hs, ht⟩
  · exact .inl h1
  · have hsz : g < w.heap.size := (Array.getElem?_eq_some_iff.1 hg).1
    exact .inr ⟨g, cap, cur, e1, hb', by rw [hb.block g (by omega)]; exact hg, hle, hm, hs, ht⟩

theorem owns_shapeE {w : World} {base : Nat} {e : TypeId} {size : Nat} {v : Value} {n : Nat} {xs : List Value} (h : w.ownsRow base e size v n xs) : ∃ ao cap, v = .slice ao n cap := by
  rcases h.2 with ⟨rfl, rfl⟩ | ⟨g, cap, cur, rfl, _⟩
  · exact ⟨none, 0, rfl⟩
  · exact ⟨_, cap, rfl⟩

theorem infoI : (Try.prog.info? 3).map (fun i => (i.zero, i.size, i.bytes)) = some (some (.int .i64 0), 1, 8) := by kernel_rfl

theorem cell_one_newE (w : World) (v : Value) (e : TypeId) : ∀ j u, ([v] : List Value)[j]? = some u → (w.alloc (.cells #[v] e)).cell? ((⟨w.heap.size, 0, none⟩ : Addr).add j) = some u := by
  intro j u h
  have hj : j = 0 := by
    have := (List.getElem?_eq_some_iff.1 h).1
    simp at this; omega
  subst hj
  simp at h
  subst h
  have := World.ownsRow_lit (base := 0) (size := 1) (e := e) w #[v] 1 (Nat.zero_le _) (by decide) rfl
  have := this.cellAt 0 (by omega)
  rw [show (⟨w.heap.size, 0, none⟩ : Addr).add 0 = ⟨w.heap.size, 0, none⟩ from rfl, this]
  rfl

theorem cell_two_newE (w : World) (x y : Value) (e : TypeId) : ∀ j u, ([x, y] : List Value)[j]? = some u → (w.alloc (.cells #[x, y] e)).cell? ((⟨w.heap.size, 0, none⟩ : Addr).add j) = some u := by
  intro j u h
  have hj : j < 2 := by simpa using (List.getElem?_eq_some_iff.1 h).1
  have := World.ownsRow_lit (base := 0) (size := 2) (e := e) w #[x, y] 1 (Nat.zero_le _) (by decide) rfl
  have := this.cellAt j (by omega)
  rw [show (⟨w.heap.size, 0, none⟩ : Addr).add j = ⟨w.heap.size, j, none⟩ from by rcases (by omega : j = 0 ∨ j = 1) with rfl | rfl <;> rfl, this]
  exact h
end Go.Proofs.Ytjiopjdbifcfkac
