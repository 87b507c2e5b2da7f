/- Several texts in one, each with its own head. What is proved: what the parts say. Conditions: theirs. -/
import Derived.Test.YteaanpdckkmjoaaGreatDoorParsePureJ
import Derived.Lib.ItoaNum
import Derived.Lib.AtoiAll
import Derived.Test.YteaanpdckkmjoaaGreatDoorTextVJ
import Derived.Test.YteaanpdckkmjoaaGreatDoorPrs0J
import Derived.Test.YteaanpdckkmjoaaGreatDoorExpr2J
import Derived.Test.YteaanpdckkmjoaaGreatDoorExpr9J
import Derived.Laws.IdiomCopy
import Derived.Laws.IdiomStrings
import Derived.Lib.LazyBuf
import Derived.Deep.MidRow
set_option linter.unusedVariables false
set_option linter.unusedSimpArgs false
set_option maxRecDepth 100000
set_option maxHeartbeats 8000000
namespace Go.Proofs.YteaanpdckkmjoaaGreatDoor
open Go.Lib
theorem natM_parse (most : Nat) (hm : most ≤ 1000000000) : ∀ (l : List UInt8) (acc v : Nat),acc ≤ most → natM most acc l = some v → parseUint10 acc l = .ok v ∧ v ≤ most
 | [],acc,v,ha,h => by
  simp only [natM] at h
  cases h
  exact ⟨rfl,ha⟩
 | c :: r,acc,v,ha,h => by
  simp only [natM] at h
  by_cases h1 : c.toNat < 48 ∨ 57 < c.toNat
  ·rw [if_pos h1] at h;cases h
  ·rw [if_neg h1] at h
   by_cases h2 : most < 10 * acc + (c.toNat - 48)
   ·rw [if_pos h2] at h;cases h
   ·rw [if_neg h2] at h
    have ih:=natM_parse most hm r _ v (by omega) h
    simp only [parseUint10]
    rw [if_pos (by omega),if_neg (by omega),if_neg (by omega),show acc * 10 + (c.toNat - 48) = 10 * acc + (c.toNat - 48) from by omega]
    exact ih
theorem parse_ge : ∀ (l : List UInt8) (acc v : Nat),parseUint10 acc l = .ok v → acc ≤ v
 | [],acc,v,h => by
  simp only [parseUint10] at h
  injection h with h
  omega
 | c :: r,acc,v,h => by
  simp only [parseUint10] at h
  by_cases h1 : 48 ≤ c.toNat ∧ c.toNat ≤ 57
  ·rw [if_pos h1] at h
   by_cases h2 : 1844674407370955162 ≤ acc
   ·rw [if_pos h2] at h;cases h
   ·rw [if_neg h2] at h
    by_cases h3 : 18446744073709551616 ≤ acc * 10 + (c.toNat - 48)
    ·rw [if_pos h3] at h;cases h
    ·rw [if_neg h3] at h
     have:=parse_ge r _ v h
     omega
  ·rw [if_neg h1] at h;cases h
theorem natM_none (most : Nat) : ∀ (l : List UInt8) (acc v : Nat),natM most acc l = none → parseUint10 acc l = .ok v → most < v
 | [],acc,v,h,_ => by simp [natM] at h
 | c :: r,acc,v,h,hp => by
  simp only [natM] at h
  simp only [parseUint10] at hp
  by_cases h1 : c.toNat < 48 ∨ 57 < c.toNat
  ·rw [if_neg (by omega)] at hp;cases hp
  ·rw [if_neg h1] at h
   rw [if_pos (by omega)] at hp
   by_cases h2 : 1844674407370955162 ≤ acc
   ·rw [if_pos h2] at hp;cases hp
   ·rw [if_neg h2] at hp
    by_cases h3 : 18446744073709551616 ≤ acc * 10 + (c.toNat - 48)
    ·rw [if_pos h3] at hp;cases hp
    ·rw [if_neg h3] at hp
     by_cases h4 : most < 10 * acc + (c.toNat - 48)
     ·have:=parse_ge r _ v hp
      omega
     ·rw [if_neg h4] at h
      exact natM_none most r _ v h (by rw [show 10 * acc + (c.toNat - 48) = acc * 10 + (c.toNat - 48) from by omega];exact hp)
theorem digit_of_natM {most acc v : Nat} {c : UInt8} {r : List UInt8} (h : natM most acc (c :: r) = some v) : 48 ≤ c.toNat ∧ c.toNat ≤ 57:=by
 simp only [natM] at h
 by_cases h1 : c.toNat < 48 ∨ 57 < c.toNat
 ·rw [if_pos h1] at h;cases h
 ·omega
theorem num_yes {most n : Nat} {s : ByteArray} (hm : most ≤ 1000000000) (h : numQ most s = some n) : atoiAll s.data.toList = .ok (n : Int) ∧ n ≤ most:=by
 unfold numQ at h
 cases hl : s.data.toList with
 | nil => rw [hl] at h;simp at h
 | cons c r =>
  rw [hl] at h
  rw [if_neg (by simp)] at h
  have hd:=digit_of_natM h
  obtain ⟨hp,hv⟩:=natM_parse most hm (c :: r) 0 n (by omega) h
  refine ⟨?_,hv⟩
  unfold atoiAll
  have e : (if c.toNat = 43 ∨ c.toNat = 45 then r else c :: r) = c :: r:=if_neg (by omega)
  have hmg : parseMag (c :: r) = .ok n:=by unfold parseMag;rw [if_neg (by simp)];exact hp
  simp only [e,hmg]
  rw [if_neg (by omega),if_neg (by omega),if_neg (by omega)]
theorem num_no {most : Nat} {s : ByteArray} (hw : wordy s.data.toList ∨ s.data.toList = []) (h : numQ most s = none) : ∀ v,atoiAll s.data.toList = .ok v → (most : Int) < v:=by
 intro v hv
 unfold numQ at h
 cases hl : s.data.toList with
 | nil => rw [hl] at hv;simp [atoiAll] at hv
 | cons c r =>
  rw [hl] at h hv hw
  rw [if_neg (by simp)] at h
  have hw : wordy (c :: r):=hw.elim id (fun e => by cases e)
  unfold atoiAll at hv
  by_cases hd : 48 ≤ c.toNat ∧ c.toNat ≤ 57
  ·have e : (if c.toNat = 43 ∨ c.toNat = 45 then r else c :: r) = c :: r:=if_neg (by omega)
   simp only [e] at hv
   cases hp : parseMag (c :: r) with
   | «syntax» => rw [hp] at hv;cases hv
   | range => rw [hp] at hv;cases hv
   | ok u =>
    rw [hp] at hv
    have hp2 : parseUint10 0 (c :: r) = .ok u:=by unfold parseMag at hp;rw [if_neg (by simp)] at hp;exact hp
    have hg:=natM_none most (c :: r) 0 u h hp2
    simp only at hv
    by_cases h1 : ¬ c.toNat = 45 ∧ 9223372036854775808 ≤ u
    ·rw [if_pos h1] at hv;cases hv
    ·rw [if_neg h1,if_neg (by omega),if_neg (by omega)] at hv
     injection hv with hv
     omega
  ·exfalso
   have hbad : ∀ l : List UInt8,(l = c :: r ∨ l = []) → ∀ u,parseMag l ≠ .ok u:=fun l hl u hu => by
    rcases hl with rfl | rfl
    ·unfold parseMag at hu
     rw [if_neg (by simp)] at hu
     simp only [parseUint10] at hu
     rw [if_neg hd] at hu
     cases hu
    ·unfold parseMag at hu
     simp at hu
   have hr : (c.toNat = 43 ∨ c.toNat = 45) → r = []:=fun hs => by
    rcases hw.2 with q | q | ⟨a,b,e9,q⟩ | ⟨a,e9,-⟩
    ·have:=q c (List.mem_cons_self ..)
     simp only [isLet,decide_eq_true_eq] at this
     omega
    ·have:=q c (List.mem_cons_self ..)
     simp only [isDig,decide_eq_true_eq] at this
     omega
    ·cases e9
     simp only [isTwo,Bool.or_eq_true,Bool.and_eq_true,beq_iff_eq] at q
     omega
    ·cases e9;rfl
   have hb2 : ∀ u,parseMag (if c.toNat = 43 ∨ c.toNat = 45 then r else c :: r) ≠ .ok u:=by
    by_cases hs : c.toNat = 43 ∨ c.toNat = 45
    ·rw [if_pos hs]
     exact hbad r (.inr (hr hs))
    ·rw [if_neg hs]
     exact hbad _ (.inl rfl)
   cases hp : parseMag (if c.toNat = 43 ∨ c.toNat = 45 then r else c :: r) with
   | «syntax» => simp only [hp] at hv;cases hv
   | range => simp only [hp] at hv;cases hv
   | ok u => exact hb2 u hp
end Go.Proofs.YteaanpdckkmjoaaGreatDoor
namespace Go.Proofs.YteaanpdckkmjoaaGreatDoor
open Go.ChangeShapes Go.WideShapes Go.ChangeAt Go.RowKit
def WQ (s : ByteArray) : Prop:=(wordy s.data.toList ∨ s.data.toList = []) ∧ s.size ≤ 240
def numB (most : Nat) (s : ByteArray) : Int × Bool:=match numQ most s with
 | some n => (n,true)
 | none => (0,false)
theorem qnumber_any (most : Nat) (hm : most ≤ 1000000000) (s : ByteArray) (hw : WQ s) (w : World) (ht : Tabs w) :
  Calls Tryz.prog 82 #[.string s,.int .i64 (most : Int)] w fun e w' => e = .returned (.tuple #[.int .i64 (numB most s).1,.bool (numB most s).2]) ∧ Below w.heap.size w w':=by
 have hsz:=hw.2
 cases hq : numQ most s with
 | some n =>
  obtain ⟨h1,h2⟩:=num_yes hm hq
  have AT:=hidE (atoi_any s n w (by omega) h1)
  have e : numB most s = ((n : Int),true):=by unfold numB;rw [hq]
  rw [e]
  have d1 : decide ((most : Int) < (n : Int)) = false:=by simp;omega
  clear hq h1 e hw hm
  go_enter Tryz.func82,Tryz.ntmps82
  go_wp2_with fail
  refine AT.out.mono ?_
  rintro e w1 ⟨rfl,hb⟩
  have HB:=hidE hb
  clear hb AT
  go_wp2_with fail
  go_ret2
  exact ⟨rfl,HB.out⟩
 | none =>
  have e : numB most s = (0,false):=by unfold numB;rw [hq]
  rw [e]
  have hno:=num_no hw.1 hq
  by_cases hv : ∃ v,Lib.atoiAll s.data.toList = .ok v
  ·obtain ⟨v,hv⟩:=hv
   have hlt:=hno v hv
   have AT:=hidE (atoi_any s v w (by omega) hv)
   have d1 : decide ((most : Int) < v) = true:=by simp;omega
   clear hq hv e hw hm hno hlt
   go_enter Tryz.func82,Tryz.ntmps82
   go_wp2_with fail
   refine AT.out.mono ?_
   rintro e w1 ⟨rfl,hb⟩
   have HB:=hidE hb
   clear hb AT
   go_wp2_with fail
   go_ret2
   exact ⟨rfl,HB.out⟩
  ·have AT:=hidE (atoi_no s w (by omega) (fun v h => hv ⟨v,h⟩) ht)
   clear hq hv e hw hm hno
   go_enter Tryz.func82,Tryz.ntmps82
   go_wp2_with fail
   refine AT.out.mono ?_
   rintro e w1 ⟨v,t,p,rfl,hb⟩
   have HB:=hidE hb
   clear hb AT
   go_wp2_with fail
   go_ret2
   exact ⟨rfl,HB.out⟩
theorem bt_getQ (s : ByteArray) (k : Nat) (h : k < s.size) : (s[k].toNat : Int) = ((s.data.toList.getD k 0).toNat : Int):=by
 have h2 : k < s.data.toList.length:=by simpa using h
 simp only [List.getD,List.getElem?_eq_getElem h2,Option.getD_some]
 rfl
theorem dropQ_at (s : ByteArray) (k : Nat) (h : k < s.size) : s.data.toList.drop k = s.data.toList.getD k 0 :: s.data.toList.drop (k + 1):=by
 have h2 : k < s.data.toList.length:=by simpa using h
 rw [List.drop_eq_getElem_cons h2]
 simp only [List.getD,List.getElem?_eq_getElem h2,Option.getD_some]
def RestQ (M : Nat) (s : ByteArray) (k a : Nat) (r : Option Nat) : Prop:=natM M a (s.data.toList.drop k) = r
theorem restQ_end {M : Nat} {s : ByteArray} {k a : Nat} {r : Option Nat} (h : RestQ M s k a r) (hk : k = s.size) : r = some a:=by
 unfold RestQ at h
 rw [List.drop_eq_nil_of_le (by simp [hk])] at h
 exact h.symm
theorem restQ_bad {M : Nat} {s : ByteArray} {k a : Nat} {r : Option Nat} (h : RestQ M s k a r) (hk : k < s.size) (hb : (s[k].toNat : Int) < 48 ∨ 57 < (s[k].toNat : Int)) : r = none:=by
 unfold RestQ at h
 rw [dropQ_at s k hk,natM,if_pos (by have:=bt_getQ s k hk;omega)] at h
 exact h.symm
theorem restQ_big {M : Nat} {s : ByteArray} {k a : Nat} {r : Option Nat} (h : RestQ M s k a r) (hk : k < s.size) (h1 : 48 ≤ (s[k].toNat : Int)) (h2 : (s[k].toNat : Int) ≤ 57) (hb : (M : Int) < 10 * (a : Int) + ((s[k].toNat : Int) - 48)) : r = none:=by
 unfold RestQ at h
 have hg:=bt_getQ s k hk
 rw [dropQ_at s k hk,natM,if_neg (by omega),if_pos (by omega)] at h
 exact h.symm
theorem restQ_next {M : Nat} {s : ByteArray} {k a : Nat} {r : Option Nat} (h : RestQ M s k a r) (hk : k < s.size) (h1 : 48 ≤ (s[k].toNat : Int)) (h2 : (s[k].toNat : Int) ≤ 57) (hb : 10 * (a : Int) + ((s[k].toNat : Int) - 48) ≤ (M : Int)) :
  ∃ b : Nat,(b : Int) = 10 * (a : Int) + ((s[k].toNat : Int) - 48) ∧ b ≤ M ∧ RestQ M s (k + 1) b r:=by
 unfold RestQ at h ⊢
 have hg:=bt_getQ s k hk
 rw [dropQ_at s k hk,natM,if_neg (by omega),if_neg (by omega)] at h
 exact ⟨_,by omega,by omega,h⟩
def natQ (M : Nat) (s : ByteArray) : Int:=match numQ M s with
 | some n => (n : Int)
 | none => -1
theorem rnat_any (M : Nat) (hM : M ≤ 1000000000) (s : ByteArray) (w : World) (hs : s.size ≤ 240) :
  Calls Tryz.prog 62 #[.string s,.int .i64 (M : Int),.bool false] w fun e w' => e = .returned (.int .i64 (natQ M s)) ∧ Below w.heap.size w w':=by
 have hlen : s.data.toList.length = s.size:=by simp
 unfold natQ numQ
 by_cases h1 : s.size < 1
 ·have hn : s.data.toList = []:=List.eq_nil_of_length_eq_zero (by omega)
  rw [if_pos hn]
  have h1i : (s.size : Int) < 1:=by omega
  have q0 : decide ((s.size : Int) < 1) = true:=by simp;omega
  clear hn hlen h1
  go_enter Tryz.func62,Tryz.ntmps62
  go_wp2_with fail
  go_ret
  exact ⟨rfl,Below.refl _ _⟩
 ·have hn : ¬ s.data.toList = []:=fun h9 => by rw [h9] at hlen;simp at hlen;omega
  rw [if_neg hn]
  have hr : RestQ M s 0 0 (natM M 0 s.data.toList):=by unfold RestQ;simp
  generalize natM M 0 s.data.toList = r at hr
  have HR:=hidT hr
  have q0 : decide ((s.size : Int) < 1) = false:=by simp;omega
  have MH:=hidT hM
  clear hr hn hlen h1 hM
  go_enter Tryz.func62,Tryz.ntmps62
  go_wp2_with fail
  go_loopw [7,8] (fun nv iv wr => ∃ k a : Nat,k ≤ s.size ∧ a ≤ M ∧ nv = .int .i64 a ∧ iv = .int .i64 k ∧ wr = w ∧ Hid (RestQ M s k a r)) (fun _ iv _ => s.size - (intOf iv).toNat)
  case atStart => exact ⟨0,0,Nat.zero_le _,Nat.zero_le _,rfl,rfl,rfl,HR⟩
  case round =>
   clear HR
   obtain ⟨k,a,hk,ha,rfl,rfl,rfl,HR⟩:=hrel
   have ha2 : a ≤ 1000000000:=Nat.le_trans ha MH.out
   by_cases hlt : k < s.size
   ·by_cases c1 : (s[k].toNat : Int) < 48
    ·obtain rfl:=restQ_bad HR.out hlt (Or.inl c1)
     go_wp2_with fail
     go_ret
     exact ⟨rfl,Below.refl _ _⟩
    ·by_cases c2 : 57 < (s[k].toNat : Int)
     ·obtain rfl:=restQ_bad HR.out hlt (Or.inr c2)
      go_wp2_with fail
      go_ret
      exact ⟨rfl,Below.refl _ _⟩
     ·by_cases c3 : (M : Int) < 10 * (a : Int) + ((s[k].toNat : Int) - 48)
      ·obtain rfl:=restQ_big HR.out hlt (by omega) (by omega) c3
       go_wp2_with fail
       go_ret
       exact ⟨rfl,Below.refl _ _⟩
      ·obtain ⟨b,hb,hb2,HN⟩:=restQ_next HR.out hlt (by omega) (by omega) (by omega)
       have HN:=hidT HN
       clear HR
       go_wp2_with fail
       go_roundw
       case rel => exact ⟨k + 1,b,by omega,hb2,by rw [hb],by go_num,by trivial,HN⟩
       case measure => simp [intOf];omega
   ·obtain rfl:=restQ_end HR.out (by omega)
    go_wp2_with fail
    go_ret
    exact ⟨rfl,Below.refl _ _⟩
theorem rmust_any (g : Nat) (word : ByteArray) (hw0 : word ≠ ⟨#[]⟩) (wv : Value) (all : Ws) (hne : ∀ x ∈ all,x ≠ ⟨#[]⟩) (n : Nat) (ws : Ws) (d e : Int) (w : World) (h : RD w g wv all n ws d e) :
  Calls Tryz.prog 33 #[.pointer (some ⟨g,0,none⟩),.string word] w fun r w' => r = .returned (.tuple #[]) ∧ KeptB w w' (fun q => q = g) ∧ match tk word ws with
   | some ws1 => RD w' g wv all (n + 1) ws1 d e
   | none => RD w' g wv all n [] d (errN e 4):=by
 have TK:=rtake_any g word hw0 wv all hne n ws d e w h
 unfold RTakeR at TK
 clear h hne
 cases ht : tk word ws with
 | some ws1 =>
  rw [ht] at TK
  have TK:=hidE TK
  go_enter Tryz.func33,Tryz.ntmps33
  go_wp2_with fail
  refine TK.out.mono ?_
  rintro r w1 ⟨rfl,hk,hp⟩
  have HK:=hidE hk
  have HP:=hidE hp
  clear hk hp TK
  go_wp2_with fail
  refine ⟨rfl,_,by simp [results],rfl,HK.out,HP.out⟩
 | none =>
  rw [ht] at TK
  have TK:=hidE TK
  go_enter Tryz.func33,Tryz.ntmps33
  go_wp2_with fail
  refine TK.out.mono ?_
  rintro r w1 ⟨rfl,hk,hp⟩
  have HK:=hidE hk
  have FL:=hidE (rfail_any g 4 (by decide) wv all n ws d e w1 hp)
  clear hk hp TK
  go_wp2_with fail
  refine FL.out.mono ?_
  rintro r w2 ⟨rfl,hk,hp⟩
  have HK2:=hidE hk
  have HP:=hidE hp
  clear hk hp FL
  go_wp2_with fail
  refine ⟨rfl,_,by simp [results],rfl,keptB_trans HK.out HK2.out,HP.out⟩
theorem rd_mem {w : World} {g : Nat} {wv : Value} {all : Ws} {n : Nat} {ws : Ws} {d e : Int} (h : RD w g wv all n ws d e) : ∀ x ∈ ws,x ∈ all:=by
 intro x hx
 rw [h.ws0] at hx
 by_cases he : e = 0
 ·rw [if_pos he] at hx
  exact List.mem_of_mem_drop hx
 ·rw [if_neg he] at hx
  cases hx
theorem rin_any (g : Nat) (wv : Value) (all : Ws) (n : Nat) (ws : Ws) (d e : Int) (w : World) (h : RD w g wv all n ws d e) (d0 : 0 ≤ d) (d1 : d ≤ 100) :
  Calls Tryz.prog 58 #[.pointer (some ⟨g,0,none⟩)] w fun r w' => r = .returned (.tuple #[]) ∧ KeptB w w' (fun q => q = g) ∧
   RD w' g wv all n (if 12 ≤ d then [] else ws) (d + 1) (if 12 ≤ d then errN e 2 else e):=by
 have c2 : w.cell? ⟨g,2,none⟩ = some (.int .i64 d):=h.bd.c 2 (by simp)
 have f2:=h.bd.fz 2
 have B2:=blk_set h.bd 2 (.int .i64 (d + 1)) (by simp)
 have P2:=rd_set h 2 (.int .i64 (d + 1)) (n':=n) (ws':=ws) (d':=d + 1) (e':=e) (by simpa using B2) h.le h.ep h.ws0
 have c2b : (w.setCell ⟨g,2,none⟩ (.int .i64 (d + 1))).cell? ⟨g,2,none⟩ = some (.int .i64 (d + 1)):=B2.c 2 (by simp)
 by_cases hd : 12 ≤ d
 ·rw [if_pos hd,if_pos hd]
  have q1 : decide ((12 : Int) < d + 1) = true:=by simp;omega
  have q2 : (12 : Int) < d + 1:=by omega
  have FL:=hidE (rfail_any g 2 (by decide) wv all n ws (d + 1) e _ P2.1)
  have HK:=hidE P2.2
  clear h B2 P2
  go_enter Tryz.func58,Tryz.ntmps58
  go_wp2_with fail
  refine FL.out.mono ?_
  rintro r w1 ⟨rfl,hk,hp⟩
  have HK2:=hidE hk
  have HP:=hidE hp
  clear hk hp FL
  go_wp2_with fail
  refine ⟨rfl,_,by simp [results],rfl,keptB_trans HK.out HK2.out,HP.out⟩
 ·rw [if_neg hd,if_neg hd]
  have q1 : decide ((12 : Int) < d + 1) = false:=by simp;omega
  have q2 : ¬ (12 : Int) < d + 1:=by omega
  have P:=hidE P2
  clear h B2 P2
  go_enter Tryz.func58,Tryz.ntmps58
  go_wp2_with fail
  refine ⟨rfl,_,by simp [results],rfl,P.out.2,P.out.1⟩
def RNumR (w w' : World) (M : Nat) (g : Nat) (wv : Value) (all : Ws) (n : Nat) (ws : Ws) (d e : Int) (r : Ending) : Prop :=
 KeptB w w' (fun q => q = g) ∧ match ws with
 | [] => r = .returned (.int .i64 0) ∧ RD w' g wv all n [] d (errN e 4)
 | x :: ws1 => match numQ M x with
  | none => r = .returned (.int .i64 0) ∧ RD w' g wv all n [] d (errN e 4)
  | some v => r = .returned (.int .i64 (v : Int)) ∧ RD w' g wv all (n + 1) ws1 d e
theorem natQ_nil (M : Nat) : natQ M ⟨#[]⟩ = -1:=by
 unfold natQ numQ
 simp
theorem rnum_bad (M : Nat) (hM : M ≤ 1000000000) (g : Nat) (wv : Value) (all : Ws) (hsz : ∀ x ∈ all,x.size ≤ 240) (n : Nat) (ws : Ws) (d e : Int) (w : World) (h : RD w g wv all n ws d e) (hb : natQ M (hdW ws) = -1) :
  Calls Tryz.prog 37 #[.pointer (some ⟨g,0,none⟩),.int .i64 (M : Int)] w fun r w' => KeptB w w' (fun q => q = g) ∧ r = .returned (.int .i64 0) ∧ RD w' g wv all n [] d (errN e 4):=by
 have NX:=hidE (rnext_any g wv all n ws d e w h)
 have H:=hidE h
 have hs : (hdW ws).size ≤ 240:=by
  cases ws with
  | nil => exact Nat.zero_le _
  | cons x ws1 => exact hsz x (rd_mem h x List.mem_cons_self)
 have NT:=fun w => rnat_any M hM (hdW ws) w hs
 rw [hb] at NT
 clear h hb hs hsz hM
 generalize hdW ws = x at *
 go_enter Tryz.func37,Tryz.ntmps37
 go_wp2_with fail
 refine NX.out.mono ?_
 rintro r w1 ⟨rfl,hb⟩
 have HB:=hidE hb
 have NT1:=hidE (NT w1)
 clear hb NX NT
 go_wp2_with fail
 refine NT1.out.mono ?_
 rintro r w2 ⟨rfl,hb⟩
 have HB2:=hidE (HB.out.trans (hb.mono HB.out.size))
 have FL:=hidE (rfail_any g 4 (by decide) wv all n ws d e w2 (rd_kept H.out HB2.out))
 clear hb NT1
 go_wp2_with fail
 refine FL.out.mono ?_
 rintro r w3 ⟨rfl,hk,hp⟩
 have HK:=hidE hk
 have HP:=hidE hp
 clear hk hp FL
 go_wp2_with fail
 go_ret
 exact ⟨keptB_trans (keptB_of_below HB2.out) HK.out,rfl,HP.out⟩
theorem rnum_good (M : Nat) (hM : M ≤ 1000000000) (g : Nat) (wv : Value) (all : Ws) (hsz : ∀ x ∈ all,x.size ≤ 240) (n : Nat) (x : ByteArray) (ws1 : Ws) (d e : Int) (w : World) (h : RD w g wv all n (x :: ws1) d e) (v : Nat) (hb : natQ M x = v) :
  Calls Tryz.prog 37 #[.pointer (some ⟨g,0,none⟩),.int .i64 (M : Int)] w fun r w' => KeptB w w' (fun q => q = g) ∧ r = .returned (.int .i64 (v : Int)) ∧ RD w' g wv all (n + 1) ws1 d e:=by
 have NX:=hidE (rnext_any g wv all n (x :: ws1) d e w h)
 have H:=hidE h
 have hs : x.size ≤ 240:=hsz x (rd_mem h x List.mem_cons_self)
 obtain ⟨he,hn,hd⟩:=ws_one h.ws0
 have hlt : n < 100:=by have:=h.few;omega
 have NT:=fun w => rnat_any M hM x w hs
 rw [hb] at NT
 simp only [hdW] at NX
 have q0 : decide ((v : Int) < 0) = false:=by simp
 have q1 : ¬ (v : Int) < 0:=by omega
 clear h hb hs hsz hM
 go_enter Tryz.func37,Tryz.ntmps37
 go_wp2_with fail
 refine NX.out.mono ?_
 rintro r w1 ⟨rfl,hb⟩
 have HB:=hidE hb
 have NT1:=hidE (NT w1)
 clear hb NX NT
 go_wp2_with fail
 refine NT1.out.mono ?_
 rintro r w2 ⟨rfl,hb⟩
 have HB2:=hidE (HB.out.trans (hb.mono HB.out.size))
 have H1:=rd_kept H.out HB2.out
 have c1 : w2.cell? ⟨g,1,none⟩ = some (.int .i64 (n : Int)):=H1.bd.c 1 (by simp)
 have f1:=H1.bd.fz 1
 have B1:=blk_set H1.bd 1 (.int .i64 ((n : Int) + 1)) (by simp)
 have P1:=hidE (rd_set H1 1 (.int .i64 ((n : Int) + 1)) (n':=n + 1) (ws':=ws1) (d':=d) (e':=e) (by simpa using B1) (by omega) H1.ep (by rw [if_pos he,hd]))
 clear hb NT1 H1 B1
 go_wp2_with fail
 go_ret
 exact ⟨keptB_trans (keptB_of_below HB2.out) P1.out.2,rfl,P1.out.1⟩
theorem rnumq_any (M : Nat) (hM : M ≤ 1000000000) (g : Nat) (wv : Value) (all : Ws) (hsz : ∀ x ∈ all,x.size ≤ 240) (n : Nat) (ws : Ws) (d e : Int) (w : World) (h : RD w g wv all n ws d e) :
  Calls Tryz.prog 37 #[.pointer (some ⟨g,0,none⟩),.int .i64 (M : Int)] w fun r w' => RNumR w w' M g wv all n ws d e r:=by
 unfold RNumR
 cases ws with
 | nil => exact rnum_bad M hM g wv all hsz n [] d e w h (natQ_nil M)
 | cons x ws1 =>
  cases hq : numQ M x with
  | none => simp only [hq];exact rnum_bad M hM g wv all hsz n (x :: ws1) d e w h (by simp only [hdW];unfold natQ;rw [hq])
  | some v => simp only [hq];exact rnum_good M hM g wv all hsz n x ws1 d e w h v (by unfold natQ;rw [hq])
theorem rput_err (g : Nat) (op : Int) (u v wv : Value) (all : Ws) (n : Nat) (ws : Ws) (d e : Int) (he : e ≠ 0) (w : World) (h : RD w g wv all n ws d e) :
  Calls Tryz.prog 59 #[.pointer (some ⟨g,0,none⟩),.int .i64 op,u,v] w fun r w' => r = .returned u ∧ Below w.heap.size w w':=by
 have c3 : w.cell? ⟨g,3,none⟩ = some (.int .i64 e):=h.bd.c 3 (by simp)
 have hep:=h.ep
 have q0 : decide ((0 : Int) < e) = true:=by simp;omega
 have q1 : (0 : Int) < e:=by omega
 clear h hep
 go_enter Tryz.func59,Tryz.ntmps59
 go_wp2_with fail
 go_ret
 exact ⟨rfl,Below.refl _ _⟩
theorem rput_many (g : Nat) (op : Int) (u v wv : Value) (all : Ws) (n : Nat) (ws : Ws) (d : Int) (w : World) (h : RD w g wv all n ws d 0) (l m : List Nd) (hl : l.length ≤ 1000) (hm : m.length ≤ 1000)
  (hu : RowG w u 6 l.length (rowN l)) (hv : RowG w v 6 m.length (rowN m)) (hb : 40 < l.length + m.length + 1) :
  Calls Tryz.prog 59 #[.pointer (some ⟨g,0,none⟩),.int .i64 op,u,v] w fun r w' => r = .returned u ∧ KeptB w w' (fun q => q = g) ∧ RD w' g wv all n [] d 2:=by
 have c3 : w.cell? ⟨g,3,none⟩ = some (.int .i64 0):=h.bd.c 3 (by simp)
 obtain ⟨a1,c1,rfl⟩:=rowG_shape hu
 obtain ⟨a2,c2,rfl⟩:=rowG_shape hv
 have FL:=hidE (rfail_any g 2 (by decide) wv all n ws d 0 w h)
 have q1 : decide ((40 : Int) < (l.length : Int) + (m.length : Int) + 1) = true:=by simp;omega
 have q2 : (40 : Int) < (l.length : Int) + (m.length : Int) + 1:=by omega
 clear h hu hv hb
 generalize l.length = L at *
 generalize m.length = M at *
 go_enter Tryz.func59,Tryz.ntmps59
 go_wp2_with fail
 refine FL.out.mono ?_
 rintro r w1 ⟨rfl,hk,hp⟩
 have HK:=hidE hk
 have HP:=hidE hp
 clear hk hp FL
 go_wp2_with fail
 go_ret
 exact ⟨rfl,HK.out,by have:=HP.out;rw [errN_0] at this;exact this⟩
theorem rarity_any (op : Int) (w : World) :
  Calls Tryz.prog 63 #[.int .i64 op] w fun e w' => e = .returned (.int .i64 (ar op)) ∧ w' = w:=by
 by_cases h : 1 ≤ op ∧ op ≤ 12
 ·rcases (by omega : op = 1 ∨ op = 2 ∨ op = 3 ∨ op = 4 ∨ op = 5 ∨ op = 6 ∨ op = 7 ∨ op = 8 ∨ op = 9 ∨ op = 10 ∨ op = 11 ∨ op = 12) with rfl | rfl | rfl | rfl | rfl | rfl | rfl | rfl | rfl | rfl | rfl | rfl
  all_goals
   clear h
   go_enter Tryz.func63,Tryz.ntmps63
   go_wp2
   go_ret
   exact ⟨rfl,rfl⟩
 ·have e : ar op = -1:=by unfold ar;rw [if_neg (by omega),if_neg (by omega),if_neg (by omega)]
  rw [e]
  by_cases h1 : op ≤ 0
  ·have g1 : (op == 1) = false:=by simp;omega
   have g2 : (op == 2) = false:=by simp;omega
   clear h e
   go_enter Tryz.func63,Tryz.ntmps63
   go_wp2
   go_ret
   exact ⟨rfl,rfl⟩
  ·have g1 : (op == 1) = false:=by simp;omega
   have g2 : (op == 2) = false:=by simp;omega
   have g3 : 3 ≤ op:=by omega
   have g4 : decide (op ≤ 5) = false:=by simp;omega
   have g5 : 6 ≤ op:=by omega
   have g6 : decide (op ≤ 12) = false:=by simp;omega
   clear h e h1
   go_enter Tryz.func63,Tryz.ntmps63
   go_wp2
   go_ret
   exact ⟨rfl,rfl⟩
theorem goes_any (op k : Int) (w : World) :
  Calls Tryz.prog 107 #[.int .i64 op,.int .i64 k] w fun e w' => e = .returned (.bool (goes op k)) ∧ w' = w:=by
 by_cases h4 : op = 4 ∨ op = 9 ∨ op = 10
 ·have e : goes op k = !(k == 1):=by unfold goes;rw [if_pos h4]
  rw [e]
  rcases h4 with rfl | rfl | rfl
  all_goals
   clear e
   go_enter Tryz.func107,Tryz.ntmps107
   go_wp2
   go_ret
   exact ⟨rfl,rfl⟩
 ·by_cases h5 : op = 5
  ·have e : goes op k = true:=by unfold goes;rw [if_neg h4,if_pos h5]
   rw [e]
   subst h5
   clear e h4
   go_enter Tryz.func107,Tryz.ntmps107
   go_wp2
   go_ret
   exact ⟨rfl,rfl⟩
  ·have e : goes op k = !(k == 2):=by unfold goes;rw [if_neg h4,if_neg h5]
   rw [e]
   have g4 : (op == 4) = false:=by simp;omega
   have g9 : (op == 9) = false:=by simp;omega
   have g10 : (op == 10) = false:=by simp;omega
   have g5 : (op == 5) = false:=by simp;omega
   clear e h4 h5
   go_enter Tryz.func107,Tryz.ntmps107
   go_wp2
   go_ret
   exact ⟨rfl,rfl⟩
theorem kindOf_any (n : Nd) (w : World) :
  Calls Tryz.prog 88 #[aggN n] w fun e w' => e = .returned (.int .i64 (kindN n)) ∧ Below w.heap.size w w':=by
 obtain ⟨op,x,y,nn,k,v⟩:=n
 unfold aggN
 simp only
 have H0 : Hid (Below w.heap.size w (w.alloc (.cells #[.int .i64 op,.int .i64 x,.int .i64 y,.int .i64 nn,.int .i64 k,.int .i64 v] 91))):=(Below.refl _ _).alloc (Nat.le_refl _) _
 by_cases h1 : op = 1
 ·have e : kindN ⟨op,x,y,nn,k,v⟩ = k:=by unfold kindN;rw [if_pos h1]
  rw [e]
  have g1 : (op == 1) = true:=by simp [h1]
  clear h1 e
  go_enter Tryz.func88,Tryz.ntmps88
  go_wp2
  go_ret
  exact ⟨rfl,H0.out⟩
 ·have g1 : (op == 1) = false:=by simp [h1]
  by_cases h2 : op = 4 ∨ op = 5 ∨ op = 9 ∨ op = 10 ∨ op = 11 ∨ op = 12
  ·have e : kindN ⟨op,x,y,nn,k,v⟩ = 2:=by unfold kindN;rw [if_neg h1,if_pos h2]
   rw [e]
   clear h1 g1 e
   rcases h2 with rfl | rfl | rfl | rfl | rfl | rfl
   all_goals
    go_enter Tryz.func88,Tryz.ntmps88
    go_wp2
    go_ret
    exact ⟨rfl,H0.out⟩
  ·have e : kindN ⟨op,x,y,nn,k,v⟩ = 1:=by unfold kindN;rw [if_neg h1,if_neg h2]
   rw [e]
   have g4 : (op == 4) = false:=by simp;omega
   have g5 : (op == 5) = false:=by simp;omega
   have g9 : (op == 9) = false:=by simp;omega
   have g10 : (op == 10) = false:=by simp;omega
   have g11 : (op == 11) = false:=by simp;omega
   have g12 : (op == 12) = false:=by simp;omega
   clear h1 h2 e
   go_enter Tryz.func88,Tryz.ntmps88
   go_wp2
   go_ret
   exact ⟨rfl,H0.out⟩
def fitS (op : Int) (ks : List Int) : List Int → Bool
 | [] => true
 | p :: ps => if fitP op ks p then fitS op ks ps else false
theorem fitS_is (n : Nd) (ks : List Int) : fitS n.op ks (partsN n) = fitN n ks:=by
 unfold partsN fitN
 by_cases h1 : ar n.op = 1
 ·rw [if_pos h1,if_pos h1]
  simp only [fitS]
  cases fitP n.op ks n.x <;> rfl
 ·rw [if_neg h1,if_neg h1]
  by_cases h2 : ar n.op = 2
  ·rw [if_pos h2,if_pos h2]
   simp only [fitS]
   cases fitP n.op ks n.y <;> cases fitP n.op ks n.x <;> rfl
  ·rw [if_neg h2,if_neg h2]
   rfl
theorem partsFit_any (n : Nd) (ks : List Int) (v : Value) (w : World) (hl : ks.length ≤ 1000) (hr : RowG w v 1 ks.length (ks.map (Value.int .i64))) :
  Calls Tryz.prog 87 #[aggN n,v] w fun e w' => e = .returned (.bool (fitN n ks)) ∧ Below w.heap.size w w':=by
 obtain ⟨ao,cap,rfl⟩:=rowG_shape hr
 have HR:=hidE hr
 clear hr
 rw [← fitS_is]
 have H0 : Hid (Below w.heap.size w (w.alloc (.cells #[.int .i64 n.op,.int .i64 n.x,.int .i64 n.y,.int .i64 n.n,.int .i64 n.k,.int .i64 n.v] 91))):=(Below.refl _ _).alloc (Nat.le_refl _) _
 have HL:=hidE (lastFirst_any n (w.alloc (.cells #[.int .i64 n.op,.int .i64 n.x,.int .i64 n.y,.int .i64 n.n,.int .i64 n.k,.int .i64 n.v] 91)))
 have h2 : (partsN n).length ≤ 2:=by unfold partsN;(repeat' split);all_goals simp
 unfold aggN at HL ⊢
 generalize hT : fitS n.op ks (partsN n) = T
 have HT:=hidE hT
 clear hT
 generalize partsN n = ps at *
 go_enter Tryz.func87,Tryz.ntmps87
 go_wp2_with fail
 refine HL.out.mono ?_
 rintro e w1 ⟨u,rfl,hr,hb⟩
 obtain ⟨ao1,cap1,rfl⟩:=rowG_shape hr
 have HB0:=hidE hb
 have HB:=hidE (H0.out.trans (hb.mono H0.out.size))
 have HR:=hidE (rowG_below HR.out HB.out)
 have HP:=hidE hr
 have hop : w1.cell? ⟨w.heap.size,0,none⟩ = some (.int .i64 n.op):=by rw [hb.cell (p:=⟨w.heap.size,0,none⟩) (by simp)];go_simp
 clear hr hb HL H0
 go_wp2_with fail
 have kn:=kin_some w1
 obtain ⟨kc,kf⟩:=kin_rules w1
 have hsw : w.heap.size < w1.heap.size:=by
  have:=HB0.out.size
  simp only [World.size_alloc] at this
  omega
 go_loopw [10] (fun i wr => ∃ m : Nat,m ≤ ps.length ∧ i = .int .i64 m ∧ Hid (Below w1.heap.size w1 wr) ∧ Hid (fitS n.op ks (ps.drop m) = T)) (fun i _ => ps.length - (intOf i).toNat)
 case atStart => exact ⟨0,Nat.zero_le _,rfl,Below.refl _ _,HT⟩
 case round =>
  clear HT
  obtain ⟨m,hm,rfl,HBr,HS⟩:=hrel
  obtain ⟨hc,hf'⟩:=rules HBr
  by_cases hlt : m < ps.length
  ·obtain ⟨g,off,x,rfl,hx,cx,l1,l2,l3⟩:=rowG_cell HP.out m hlt
   rw [List.getElem?_map,List.getElem?_eq_getElem hlt] at hx
   simp only [Option.map_some,Option.some.injEq] at hx
   subst hx
   have hS:=HS.out
   rw [List.drop_eq_getElem_cons hlt] at hS
   generalize ps[m] = p at *
   simp only [fitS] at hS
   unfold maxLen at l2
   by_cases h0 : p < 0
   ·have e : T = false:=by rw [← hS];unfold fitP;rw [if_pos (Or.inl h0)];rfl
    subst e
    clear hS HS
    go_wp2_with fail
    refine wp_region_kin HBr (by kernel_rfl) (by kernel_rfl) ?_
    repeat (go_big_quiet_step (fail))
    refine wpQuiet_nil ?_
    rintro _ ⟨pk,rfl⟩
    have HBr : Hid _:=pk.h
    go_wp2_with fail
    go_ret
    exact ⟨rfl,done HB.out HBr⟩
   ·by_cases h1 : (ks.length : Int) ≤ p
    ·have e : T = false:=by rw [← hS];unfold fitP;rw [if_pos (Or.inr h1)];rfl
     subst e
     have z0 : decide (p < 0) = false:=by simpa using h0
     clear hS HS h0
     go_wp2_with fail
     refine wp_region_kin HBr (by kernel_rfl) (by kernel_rfl) ?_
     repeat (go_big_quiet_step (fail))
     refine wpQuiet_nil ?_
     rintro _ ⟨pk,rfl⟩
     have HBr : Hid _:=pk.h
     go_wp2_with fail
     go_ret
     exact ⟨rfl,done HB.out HBr⟩
    ·obtain ⟨d,rfl⟩ : ∃ d : Nat,p = (d : Int):=⟨p.toNat,by omega⟩
     have hd : d < ks.length:=by omega
     obtain ⟨g2,off2,x2,rfl,hx2,cx2,l12,l22,l32⟩:=rowG_cell HR.out d hd
     rw [List.getElem?_map,List.getElem?_eq_getElem hd] at hx2
     simp only [Option.map_some,Option.some.injEq] at hx2
     subst hx2
     have hf : fitP n.op ks (d : Int) = goes n.op ks[d]:=by
      unfold fitP
      rw [if_neg (by omega),List.getD_eq_getElem?_getD,Int.toNat_natCast,List.getElem?_eq_getElem hd];rfl
     rw [hf] at hS
     generalize ks[d] = q at *
     unfold maxLen at l22
     have HG:=hidE (fun w => goes_any n.op q w)
     have z0 : decide ((d : Int) < 0) = false:=by simp
     have z1 : decide (ks.length ≤ d) = false:=by simp;omega
     have z2 : decide ((ks.length : Int) ≤ (d : Int)) = false:=by simp;omega
     clear hf h0 h1
     cases hg : goes n.op q
     ·rw [hg] at hS HG
      simp only [Bool.false_eq_true,if_false] at hS
      subst hS
      clear hg HS
      go_wp2_with fail
      refine wp_region_kin HBr (by kernel_rfl) (by kernel_rfl) ?_
      repeat (go_big_quiet_step ((go_at_call 107;exact kin_same (HG.out _))))
      refine wpQuiet_nil ?_
      rintro _ ⟨pk,rfl⟩
      have HBr : Hid _:=pk.h
      go_wp2_with fail
      go_ret
      exact ⟨rfl,done HB.out HBr⟩
     ·rw [hg] at hS HG
      simp only [if_true] at hS
      have HS:=hidE hS
      clear hg hS
      go_wp2_with fail
      refine wp_region_kin HBr (by kernel_rfl) (by kernel_rfl) ?_
      repeat (go_big_quiet_step ((go_at_call 107;exact kin_same (HG.out _))))
      refine wpQuiet_nil ?_
      rintro _ ⟨pk,rfl⟩
      have HBr : Hid _:=pk.h
      go_wp2_with fail
      go_roundw
      case rel => exact ⟨m + 1,by omega,by go_num,HBr,HS⟩
      case measure => simp [intOf];omega
  ·have e : T = true:=by
    have:=HS.out
    rw [List.drop_eq_nil_of_le (by omega)] at this
    exact this.symm
   subst e
   go_wp2_with fail
   go_ret
   exact ⟨rfl,done HB.out HBr⟩
section
variable {P : Program} {md : Region.Mode} {ops : Array Oper} {Q : Exit → Act → World → Prop} {S : World → Prop}
theorem wp_then {X : Code} {K K' : Act → World → Prop} {a : Act} {w : World} (h : X.wp P (Exit.then K Q) a w) (hk : ∀ a w,K a w → K' a w) : X.wp P (Exit.then K' Q) a w :=
 wp_mono h (fun e a w h => by
  cases e
  ·exact hk _ _ h
  all_goals exact h)
end
theorem below_alloc (w : World) (o : Obj) : Below w.heap.size w (w.alloc o):=(Below.refl _ _).alloc (Nat.le_refl _) o
theorem blk_alloc (w : World) (cs : List Value) (e : TypeId) : BlkAt (w.alloc (.cells cs.toArray e)) w.heap.size cs:=by
 refine ⟨fun j hj => ?_,fun o => by go_simp,by simp⟩
 simp
theorem add_at (g o j : Nat) : (⟨g,o,none⟩ : Addr).add j = ⟨g,o + j,none⟩:=by unfold Addr.add;split <;> simp_all
theorem wrapIn2 (n : Int) (h0 : -9223372036854775808 ≤ n) (h1 : n ≤ 9223372036854775807) : IntKind.i64.wrap n = n:=by
 rw [IntKind.wrap_i64]
 omega
end Go.Proofs.YteaanpdckkmjoaaGreatDoor
