/- Own texts in one. Conditions: as named in each. -/
import Derived.Test.YtcgjflamgnjhcaaGreatDoorKinJ
import Derived.Deep.Slices
import Derived.Lib.SmallJoins
import Derived.Test.YtcgjflamgnjhcaaGreatDoorEnQJ
import Derived.Test.YtcgjflamgnjhcaaGreatDoorEoIJ
set_option linter.unusedVariables false
set_option linter.unusedSimpArgs false
set_option maxRecDepth 100000
set_option maxHeartbeats 8000000
namespace Go.Proofs.YtcgjflamgnjhcaaGreatDoor
open Go.ChangeShapes Go.WideShapes Go.ChangeAt Go.RowKit
open Go.Joins Go.Deep
section
variable {α:Type} {S:Nat} {f:α→List Value}
theorem jk {H:Type} {enc:TypeId×Value→H} {W:World} {v:Value} {x:DataW H×List MemPlace} {ts te:TypeId} {sp:Nat→Bool} {hd:Bool} {fuel:Nat} {Pz:α→Prop} (hf:∀ a,(f a).length=S) (hS:0 < S)
  (hu:Tryz.prog.underlying ts=some (.slice te)) (hc:Tryz.prog.cellsOf te=S) (dflt:α)
  (open1:∀ {fuel:Nat} {cs:List Value} {x:DataW H×List MemPlace},DataW.trod enc Tryz.prog W 0 sp hd fuel te cs=some x→∃ n:α,cs=f n∧Pz n)
  (h:DataW.trod enc Tryz.prog W 0 sp hd fuel ts [v]=some x) :
  ∃ l:List α,bT W v S l.length (rowOf f l)∧l.length≤maxLen∧∀ a∈l,Pz a:=by
 have nilcase:∀ (ao:Option Addr) (cp:Nat),∃ l:List α,bT W (.slice ao 0 cp) S l.length (rowOf f l)∧l.length≤maxLen∧∀ a∈l,Pz a:=fun ao cp =>
  ⟨[],⟨by simp [rowOf],.inl ⟨⟨_,_,rfl⟩,rfl⟩⟩,Nat.zero_le _,fun a ha=>by simp at ha⟩
 rcases open_slice hu h with ⟨hc',-⟩ | ⟨a,ln,cp,m,n,D,Pl,hc',-,hl,hm,hmm,-,hx⟩
 ·simp only [List.cons.injEq,and_true] at hc';subst hc';exact nilcase _ _
 ·simp only [List.cons.injEq,and_true] at hc';subst hc';have hlm:ln≤m:=by rw [hmm];split <;> omega
  rw [hc] at hx;have each:∀ i,i < ln→∃ nd:α,(∀ j,j < S→W.cell? (a.add (i * S+j))=(f nd)[j]?)∧Pz nd:=by
   intro i hi;obtain ⟨cs',h1,h2⟩:=hx i (by omega);obtain ⟨nd,rfl,hp⟩:=open1 h2;obtain ⟨-,hlen,hcell⟩:=World.cells?_some h1;refine ⟨nd,fun j hj=>?_,hp⟩
   have:=hcell j hj
   rw [← this,add_add]
  by_cases h0:ln=0
  ·subst h0;exact nilcase _ _
  ·obtain ⟨g,off,spot⟩:=a;have hspot:spot=none:=by
    obtain ⟨nd,hnd,-⟩:=each 0 (by omega);have h9:=hnd 0 hS;have hlt:0 < (f nd).length:=by rw [hf];exact hS
    rw [List.getElem?_eq_getElem hlt] at h9;exact (by simpa [Addr.add] using World.cell?_spot h9)
   subst hspot;have each2:∀ i,∃ nd:α,i < ln→(∀ j,j < S→W.cell? ⟨g,off+(i * S+j),none⟩=(f nd)[j]?)∧Pz nd:=by
    intro i
    by_cases hi:i < ln
    ·obtain ⟨nd,hnd,hp⟩:=each i hi;exact ⟨nd,fun _=>⟨fun j hj=>by rw [← hnd j hj,add_plain],hp⟩⟩
    ·exact ⟨dflt,fun h=>absurd h hi⟩
   obtain ⟨F,hF⟩:=Classical.axiomOfChoice each2;have hg:g < W.heap.size:=by
    obtain ⟨cs',h1,-⟩:=hx 0 (by omega)
    have:=World.cells?_block h1 (by omega)
    simpa [Addr.add] using this
   have hlen:((List.range ln).map F).length=ln:=by simp
   refine ⟨(List.range ln).map F,⟨bp hf _,.inr ⟨g,off,cp,by rw [hlen],by rw [hlen];omega,by omega,hg,fun j hj=>?_⟩⟩,by rw [hlen];omega,fun a ha=>?_⟩
   ·rw [hlen] at hj;have hi:j / S < ln:=(Nat.div_lt_iff_lt_mul hS).2 hj;have hr:j % S < S:=Nat.mod_lt _ hS;have e:j / S * S+j % S=j:=by rw [Nat.mul_comm];exact Nat.div_add_mod j S
    have h1:=(hF (j / S) hi).1 (j % S) hr;rw [e] at h1;rw [h1,← bU hf ((List.range ln).map F) (j / S) (j % S) (F (j / S)) (by simp [hi]) hr,e]
   ·obtain ⟨i,hi,rfl⟩:=List.mem_map.1 ha;exact (hF i (by simpa using hi)).2
end
end Go.Proofs.YtcgjflamgnjhcaaGreatDoor
namespace Go.Proofs.YtcgjflamgnjhcaaGreatDoor
open Go.ChangeShapes Go.WideShapes Go.ChangeAt Go.RowKit Go.Joins Go.Deep
theorem cellsEvents1:Tryz.prog.cellsOf 50=1:=by kernel_rfl
def oH (p:List Ev×Value):List Value:=[p.2]
theorem open_eventsT {H:Type} {enc:TypeId×Value→H} {W:World} {sp:Nat→Bool} {hd:Bool} {fuel:Nat} {v:Value} {x:DataW H×List MemPlace}
  (h:DataW.trod enc Tryz.prog W 0 sp hd fuel 50 [v]=some x):∃ l:List Ev,bT W v 7 l.length (rowOf gn l):=by
 obtain ⟨l,hr,-,-⟩:=jk (f:=gn) (S:=7) (Pz:=fun _=>True) gX (by decide) Tryz.underlying50 cellsEvent ⟨0,0,0,0,0,0,0⟩ (fun h=>by
  obtain ⟨n,e⟩:=open_ev h;exact ⟨n,e,trivial⟩) h
 exact ⟨l,hr⟩
theorem open_parts {H:Type} {enc:TypeId×Value→H} {W:World} {sp:Nat→Bool} {hd:Bool} {fuel:Nat} {v:Value} {x:DataW H×List MemPlace}
  (h:DataW.trod enc Tryz.prog W 0 sp hd fuel 49 [v]=some x):∃ (vs:List Value) (M:List (List Ev)),PtsR W v vs M∧M.length≤maxLen:=by
 obtain ⟨ps,hr,hl,hp⟩:=jk (f:=oH) (S:=1) (Pz:=fun p=>bT W p.2 7 p.1.length (rowOf gn p.1)) (fun _=>rfl) (by decide) Tryz.underlying49 cellsEvents1 ([],.slice none 0 0) (fun {fuel cs x} h=>by
  cases fuel with
  | zero=>simp [DataW.trod] at h
  | succ k =>
   have hlen:∃ c,cs=[c]:=by
    rcases open_slice Tryz.underlying50 h with ⟨hc,-⟩ | ⟨a,ln,cp,m,n,D,Pl,hc,-⟩
    ·exact ⟨_,hc⟩
    ·exact ⟨_,hc⟩
   obtain ⟨c,rfl⟩:=hlen;obtain ⟨l,hr⟩:=open_eventsT h;exact ⟨(l,c),rfl,hr⟩) h
 refine ⟨ps.map Prod.snd,ps.map Prod.fst,⟨?_,by simp,fun i v l h1 h2=>?_⟩,by simpa using hl⟩
 ·have e:rowOf oH ps=ps.map Prod.snd:=by
   clear hr hl hp
   induction ps with
   | nil=>rfl
   | cons a l ih=>rw [bQ,ih];rfl
  rw [e] at hr
  simpa using hr
 ·rw [List.getElem?_map] at h1 h2;cases hi:ps[i]? with
  | none=>rw [hi] at h1;simp at h1
  | some p =>
   rw [hi] at h1 h2;simp only [Option.map_some,Option.some.injEq] at h1 h2;subst h1 h2;exact hp p (List.mem_of_getElem? hi)
end Go.Proofs.YtcgjflamgnjhcaaGreatDoor
