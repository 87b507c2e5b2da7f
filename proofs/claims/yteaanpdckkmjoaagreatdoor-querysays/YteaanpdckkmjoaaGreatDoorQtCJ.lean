/- Several texts in one, each with its own head. What is proved: what the parts say. Conditions: theirs. -/
import Derived.Test.YteaanpdckkmjoaaGreatDoorQtAJ
import Derived.Test.YteaanpdckkmjoaaGreatDoorRq5J
set_option linter.unusedVariables false
set_option linter.unusedSimpArgs false
set_option maxRecDepth 100000
set_option maxHeartbeats 8000000
namespace Go.Proofs.YteaanpdckkmjoaaGreatDoor
open Go.ChangeShapes Go.WideShapes Go.ChangeAt Go.RowKit
theorem nt_two (x y nn k v : Int) (m : Nat) (hm : m < 7) (sx sy sg : ByteArray) (hsg : ([.string ⟨#[43]⟩,.string ⟨#[45]⟩,.string ⟨#[42]⟩,.string ⟨#[97,110,100]⟩,.string ⟨#[111,114]⟩,.string ⟨#[60]⟩,.string ⟨#[61]⟩] : List Value)[m]? = some (.string sg)) (hgs : sg.size ≤ 3) (hx : sx.size ≤ 20400000000000) (hy : sy.size ≤ 20400000000000) (l : List Nd) (ao : Option Addr) (cap : Nat) (i : Nat) (hi : i < l.length) (hl : l.length ≤ 1000) (w : World) (hr : RowG w (.slice ao l.length cap) 6 l.length (rowN l)) (hn : l[i]? = some ⟨(m : Int) + 6,x,y,nn,k,v⟩)
  (ihx : ∀ w',Below w.heap.size w w' → Calls Tryz.prog 27 #[.slice ao l.length cap,.int .i64 x] w' fun e w'' => e = .returned (.string sx) ∧ Below w'.heap.size w' w'')
  (ihy : ∀ w',Below w.heap.size w w' → Calls Tryz.prog 27 #[.slice ao l.length cap,.int .i64 y] w' fun e w'' => e = .returned (.string sy) ∧ Below w'.heap.size w' w'') :
  Calls Tryz.prog 27 #[.slice ao l.length cap,.int .i64 (i : Int)] w fun e w' => e = .returned (.string (⟨#[40]⟩ ++ sx ++ ⟨#[32]⟩ ++ sg ++ ⟨#[32]⟩ ++ sy ++ ⟨#[41]⟩)) ∧ Below w.heap.size w w':=by
 obtain ⟨g,off,rfl,hnode,l1,l2,l3⟩:=rowN_node hr i hi
 have e9 : l[i] = ⟨(m : Int) + 6,x,y,nn,k,v⟩:=(List.getElem?_eq_some_iff.1 hn).2
 rw [e9] at hnode
 obtain ⟨n0,n1,n2,n3,n4,n5⟩:=hnode
 simp only at n0 n1 n2 n3 n4 n5
 unfold maxLen at l2
 have b1:=below_alloc w (.cells [.int .i64 ((m : Int) + 6),.int .i64 x,.int .i64 y,.int .i64 nn,.int .i64 k,.int .i64 v].toArray 91)
 have b2:=below_alloc (w.alloc (.cells [.int .i64 ((m : Int) + 6),.int .i64 x,.int .i64 y,.int .i64 nn,.int .i64 k,.int .i64 v].toArray 91)) (.cells [.string ⟨#[116]⟩,.string ⟨#[107]⟩,.string ⟨#[97]⟩,.string ⟨#[98]⟩].toArray 9)
 have b3:=below_alloc ((w.alloc (.cells [.int .i64 ((m : Int) + 6),.int .i64 x,.int .i64 y,.int .i64 nn,.int .i64 k,.int .i64 v].toArray 91)).alloc (.cells [.string ⟨#[116]⟩,.string ⟨#[107]⟩,.string ⟨#[97]⟩,.string ⟨#[98]⟩].toArray 9)) (.cells [.string ⟨#[43]⟩,.string ⟨#[45]⟩,.string ⟨#[42]⟩,.string ⟨#[97,110,100]⟩,.string ⟨#[111,114]⟩,.string ⟨#[60]⟩,.string ⟨#[61]⟩].toArray 9)
 have BB : Below w.heap.size w (((w.alloc (.cells [.int .i64 ((m : Int) + 6),.int .i64 x,.int .i64 y,.int .i64 nn,.int .i64 k,.int .i64 v].toArray 91)).alloc (.cells [.string ⟨#[116]⟩,.string ⟨#[107]⟩,.string ⟨#[97]⟩,.string ⟨#[98]⟩].toArray 9)).alloc (.cells [.string ⟨#[43]⟩,.string ⟨#[45]⟩,.string ⟨#[42]⟩,.string ⟨#[97,110,100]⟩,.string ⟨#[111,114]⟩,.string ⟨#[60]⟩,.string ⟨#[61]⟩].toArray 9)):=(b1.trans (b2.mono b1.size)).trans (b3.mono (b1.trans (b2.mono b1.size)).size)
 have HBB:=hidE BB
 have z1 : (w.alloc (.cells [.int .i64 ((m : Int) + 6),.int .i64 x,.int .i64 y,.int .i64 nn,.int .i64 k,.int .i64 v].toArray 91)).heap.size = w.heap.size + 1:=by simp
 have z2 : ((w.alloc (.cells [.int .i64 ((m : Int) + 6),.int .i64 x,.int .i64 y,.int .i64 nn,.int .i64 k,.int .i64 v].toArray 91)).alloc (.cells [.string ⟨#[116]⟩,.string ⟨#[107]⟩,.string ⟨#[97]⟩,.string ⟨#[98]⟩].toArray 9)).heap.size = w.heap.size + 1 + 1:=by simp
 have z3 : (((w.alloc (.cells [.int .i64 ((m : Int) + 6),.int .i64 x,.int .i64 y,.int .i64 nn,.int .i64 k,.int .i64 v].toArray 91)).alloc (.cells [.string ⟨#[116]⟩,.string ⟨#[107]⟩,.string ⟨#[97]⟩,.string ⟨#[98]⟩].toArray 9)).alloc (.cells [.string ⟨#[43]⟩,.string ⟨#[45]⟩,.string ⟨#[42]⟩,.string ⟨#[97,110,100]⟩,.string ⟨#[111,114]⟩,.string ⟨#[60]⟩,.string ⟨#[61]⟩].toArray 9)).heap.size = w.heap.size + 1 + 1 + 1:=by simp
 have N1:=blk_below (blk_alloc w [.int .i64 ((m : Int) + 6),.int .i64 x,.int .i64 y,.int .i64 nn,.int .i64 k,.int .i64 v] 91) (b2.trans (b3.mono b2.size)) (by omega)
 have N3:=blk_alloc ((w.alloc (.cells [.int .i64 ((m : Int) + 6),.int .i64 x,.int .i64 y,.int .i64 nn,.int .i64 k,.int .i64 v].toArray 91)).alloc (.cells [.string ⟨#[116]⟩,.string ⟨#[107]⟩,.string ⟨#[97]⟩,.string ⟨#[98]⟩].toArray 9)) [.string ⟨#[43]⟩,.string ⟨#[45]⟩,.string ⟨#[42]⟩,.string ⟨#[97,110,100]⟩,.string ⟨#[111,114]⟩,.string ⟨#[60]⟩,.string ⟨#[61]⟩] 9
 rw [z2] at N3
 have m0:=N1.c 0 (by simp)
 have m1:=N1.c 1 (by simp)
 have m2:=N1.c 2 (by simp)
 have ms:=N3.c m (by simpa using hm)
 rw [hsg] at ms
 simp only [List.getElem?_cons_zero,List.getElem?_cons_succ] at m0 m1 m2
 have IX : Hid (∀ w',Below (((w.alloc (.cells [.int .i64 ((m : Int) + 6),.int .i64 x,.int .i64 y,.int .i64 nn,.int .i64 k,.int .i64 v].toArray 91)).alloc (.cells [.string ⟨#[116]⟩,.string ⟨#[107]⟩,.string ⟨#[97]⟩,.string ⟨#[98]⟩].toArray 9)).alloc (.cells [.string ⟨#[43]⟩,.string ⟨#[45]⟩,.string ⟨#[42]⟩,.string ⟨#[97,110,100]⟩,.string ⟨#[111,114]⟩,.string ⟨#[60]⟩,.string ⟨#[61]⟩].toArray 9)).heap.size (((w.alloc (.cells [.int .i64 ((m : Int) + 6),.int .i64 x,.int .i64 y,.int .i64 nn,.int .i64 k,.int .i64 v].toArray 91)).alloc (.cells [.string ⟨#[116]⟩,.string ⟨#[107]⟩,.string ⟨#[97]⟩,.string ⟨#[98]⟩].toArray 9)).alloc (.cells [.string ⟨#[43]⟩,.string ⟨#[45]⟩,.string ⟨#[42]⟩,.string ⟨#[97,110,100]⟩,.string ⟨#[111,114]⟩,.string ⟨#[60]⟩,.string ⟨#[61]⟩].toArray 9)) w' → Calls Tryz.prog 27 #[.slice (some ⟨g,off,none⟩) l.length cap,.int .i64 x] w' fun e w'' => e = .returned (.string sx) ∧ Below w'.heap.size w' w''):=fun w' hb => ihx w' (BB.trans (hb.mono BB.size))
 have IY : Hid (∀ w',Below (((w.alloc (.cells [.int .i64 ((m : Int) + 6),.int .i64 x,.int .i64 y,.int .i64 nn,.int .i64 k,.int .i64 v].toArray 91)).alloc (.cells [.string ⟨#[116]⟩,.string ⟨#[107]⟩,.string ⟨#[97]⟩,.string ⟨#[98]⟩].toArray 9)).alloc (.cells [.string ⟨#[43]⟩,.string ⟨#[45]⟩,.string ⟨#[42]⟩,.string ⟨#[97,110,100]⟩,.string ⟨#[111,114]⟩,.string ⟨#[60]⟩,.string ⟨#[61]⟩].toArray 9)).heap.size (((w.alloc (.cells [.int .i64 ((m : Int) + 6),.int .i64 x,.int .i64 y,.int .i64 nn,.int .i64 k,.int .i64 v].toArray 91)).alloc (.cells [.string ⟨#[116]⟩,.string ⟨#[107]⟩,.string ⟨#[97]⟩,.string ⟨#[98]⟩].toArray 9)).alloc (.cells [.string ⟨#[43]⟩,.string ⟨#[45]⟩,.string ⟨#[42]⟩,.string ⟨#[97,110,100]⟩,.string ⟨#[111,114]⟩,.string ⟨#[60]⟩,.string ⟨#[61]⟩].toArray 9)) w' → Calls Tryz.prog 27 #[.slice (some ⟨g,off,none⟩) l.length cap,.int .i64 y] w' fun e w'' => e = .returned (.string sy) ∧ Below w'.heap.size w' w''):=fun w' hb => ihy w' (BB.trans (hb.mono BB.size))
 have wm : IntKind.i64.wrap (m : Int) = (m : Int):=wrapIn2 _ (by omega) (by omega)
 have o1 : ((m : Int) + 6 == 1) = false:=by simp;omega
 have o2 : ((m : Int) + 6 == 2) = false:=by simp;omega
 have o3 : ((m : Int) + 6 == 3) = false:=by simp;omega
 have o4 : ((m : Int) + 6 == 4) = false:=by simp;omega
 have o5 : ((m : Int) + 6 == 5) = false:=by simp;omega
 clear hr hn e9 b1 b2 b3 BB ihx ihy N1 N3 z1 z2 hsg
 generalize l.length = L at *
 go_enter Tryz.func27,Tryz.ntmps27
 go_wp2_with fail
 generalize (((w.alloc (.cells [.int .i64 ((m : Int) + 6),.int .i64 x,.int .i64 y,.int .i64 nn,.int .i64 k,.int .i64 v].toArray 91)).alloc (.cells [.string ⟨#[116]⟩,.string ⟨#[107]⟩,.string ⟨#[97]⟩,.string ⟨#[98]⟩].toArray 9)).alloc (.cells [.string ⟨#[43]⟩,.string ⟨#[45]⟩,.string ⟨#[42]⟩,.string ⟨#[97,110,100]⟩,.string ⟨#[111,114]⟩,.string ⟨#[60]⟩,.string ⟨#[61]⟩].toArray 9)) = w3 at *
 have hS : Below w3.heap.size w3 ({ w3 with drawn:=w3.drawn + 1 } : World):=(Below.refl _ _).drew
 refine wp_region_held (S:=fun w' => Below w3.heap.size w3 w') (by kernel_rfl) ?_
 generalize ({ w3 with drawn:=w3.drawn + 1 } : World) = wd at *
 refine held_take (i:=0) (v:=.slice (some ⟨g,off,none⟩) L cap) (L:=#[true,false,false,false,false,false,false,false,false,false,false,false,false,false,false,false,false,false,false,false,false]) rfl (by kernel_rfl) (by kernel_rfl) (by kernel_rfl) (fun c a w h => h) (Or.inl ⟨by kernel_rfl,fun wq hq => by go_simp⟩) hS (by kernel_rfl) ?_
 refine held_take (i:=1) (v:=.pointer (some ⟨w.heap.size,1,none⟩)) (L:=#[true,true,false,false,false,false,false,false,false,false,false,false,false,false,false,false,false,false,false,false,false]) rfl (by kernel_rfl) (by kernel_rfl) (by kernel_rfl) (fun c a w h => h) (Or.inl ⟨by kernel_rfl,fun wq hq => by go_simp⟩) hS (by kernel_rfl) ?_
 refine held_take (i:=2) (v:=.int .i64 x) (L:=#[true,true,true,false,false,false,false,false,false,false,false,false,false,false,false,false,false,false,false,false,false]) rfl (by kernel_rfl) (by kernel_rfl) (by kernel_rfl) (fun c a w h => h) (Or.inl ⟨by kernel_rfl,fun wq hq => by have q9:=(hq.cell (p:=⟨w.heap.size,1,none⟩) (by show w.heap.size < w3.heap.size;omega)).trans m1;go_simp⟩) hS (by kernel_rfl) ?_
 refine held_take (i:=6) (v:=.slice (some ⟨w.heap.size + 1 + 1,0,none⟩) 7 7) (L:=#[true,true,true,false,false,false,true,false,false,false,false,false,false,false,false,false,false,false,false,false,false]) rfl (by kernel_rfl) (by kernel_rfl) (by kernel_rfl) (fun c a w h => h) (Or.inl ⟨by kernel_rfl,fun wq hq => by go_simp⟩) hS (by kernel_rfl) ?_
 refine held_take (i:=7) (v:=.pointer (some ⟨w.heap.size,0,none⟩)) (L:=#[true,true,true,false,false,false,true,true,false,false,false,false,false,false,false,false,false,false,false,false,false]) rfl (by kernel_rfl) (by kernel_rfl) (by kernel_rfl) (fun c a w h => h) (Or.inl ⟨by kernel_rfl,fun wq hq => by go_simp⟩) hS (by kernel_rfl) ?_
 refine held_take (i:=8) (v:=.int .i64 ((m : Int) + 6)) (L:=#[true,true,true,false,false,false,true,true,true,false,false,false,false,false,false,false,false,false,false,false,false]) rfl (by kernel_rfl) (by kernel_rfl) (by kernel_rfl) (fun c a w h => h) (Or.inl ⟨by kernel_rfl,fun wq hq => by have q9:=(hq.cell (p:=⟨w.heap.size,0,none⟩) (by show w.heap.size < w3.heap.size;omega)).trans m0;go_simp⟩) hS (by kernel_rfl) ?_
 refine held_take (i:=9) (v:=.int .i64 (m : Int)) (L:=#[true,true,true,false,false,false,true,true,true,true,false,false,false,false,false,false,false,false,false,false,false]) rfl (by kernel_rfl) (by kernel_rfl) (by kernel_rfl) (fun c a w h => h) (Or.inl ⟨by kernel_rfl,fun wq hq => by go_simp⟩) hS (by kernel_rfl) ?_
 refine held_take (i:=10) (v:=.pointer (some ⟨w.heap.size + 1 + 1,m,none⟩)) (L:=#[true,true,true,false,false,false,true,true,true,true,true,false,false,false,false,false,false,false,false,false,false]) rfl (by kernel_rfl) (by kernel_rfl) (by kernel_rfl) (fun c a w h => h) (Or.inl ⟨by kernel_rfl,fun wq hq => by go_simp;exact fun h9 => absurd h9 (by omega)⟩) hS (by kernel_rfl) ?_
 refine held_take (i:=11) (v:=.string sg) (L:=#[true,true,true,false,false,false,true,true,true,true,true,true,false,false,false,false,false,false,false,false,false]) rfl (by kernel_rfl) (by kernel_rfl) (by kernel_rfl) (fun c a w h => h) (Or.inl ⟨by kernel_rfl,fun wq hq => by have q9:=(hq.cell (p:=⟨w.heap.size + 1 + 1,m,none⟩) (by show w.heap.size + 1 + 1 < w3.heap.size;omega)).trans ms;go_simp⟩) hS (by kernel_rfl) ?_
 refine held_take (i:=14) (v:=.slice (some ⟨g,off,none⟩) L cap) (L:=#[true,true,true,false,false,false,true,true,true,true,true,true,false,false,true,false,false,false,false,false,false]) rfl (by kernel_rfl) (by kernel_rfl) (by kernel_rfl) (fun c a w h => h) (Or.inl ⟨by kernel_rfl,fun wq hq => by go_simp⟩) hS (by kernel_rfl) ?_
 refine held_take (i:=15) (v:=.pointer (some ⟨w.heap.size,2,none⟩)) (L:=#[true,true,true,false,false,false,true,true,true,true,true,true,false,false,true,true,false,false,false,false,false]) rfl (by kernel_rfl) (by kernel_rfl) (by kernel_rfl) (fun c a w h => h) (Or.inl ⟨by kernel_rfl,fun wq hq => by go_simp⟩) hS (by kernel_rfl) ?_
 refine held_take (i:=16) (v:=.int .i64 y) (L:=#[true,true,true,false,false,false,true,true,true,true,true,true,false,false,true,true,true,false,false,false,false]) rfl (by kernel_rfl) (by kernel_rfl) (by kernel_rfl) (fun c a w h => h) (Or.inl ⟨by kernel_rfl,fun wq hq => by have q9:=(hq.cell (p:=⟨w.heap.size,2,none⟩) (by show w.heap.size < w3.heap.size;omega)).trans m2;go_simp⟩) hS (by kernel_rfl) ?_
 refine held_go (i:=3) (L:=#[true,true,true,true,false,false,true,true,true,true,true,true,false,false,true,true,true,false,false,false,false]) (by kernel_rfl) rfl (by kernel_rfl) (by kernel_rfl) ?_
 intro K' hK
 go_simp
 refine (IX.out _ hS).mono ?_
 rintro e w4 ⟨rfl,hb⟩
 have S4:=hS.trans (hb.mono hS.size)
 clear hb IX
 refine hK _ _ ⟨S4,?_⟩
 clear hK
 refine held_take (i:=4) (v:=.string (⟨#[40]⟩ ++ sx)) (L:=#[true,true,true,true,true,false,true,true,true,true,true,true,false,false,true,true,true,false,false,false,false]) rfl (by kernel_rfl) (by kernel_rfl) (by kernel_rfl) (fun c a w h => h) (Or.inl ⟨by kernel_rfl,fun wq hq => by first | (go_simp;done) | (go_simp;omega)⟩) S4 (by kernel_rfl) ?_
 refine held_take (i:=5) (v:=.string (⟨#[40]⟩ ++ sx ++ ⟨#[32]⟩)) (L:=#[true,true,true,true,true,true,true,true,true,true,true,true,false,false,true,true,true,false,false,false,false]) rfl (by kernel_rfl) (by kernel_rfl) (by kernel_rfl) (fun c a w h => h) (Or.inl ⟨by kernel_rfl,fun wq hq => by first | (go_simp;done) | (go_simp;omega)⟩) S4 (by kernel_rfl) ?_
 refine held_take (i:=12) (v:=.string (⟨#[40]⟩ ++ sx ++ ⟨#[32]⟩ ++ sg)) (L:=#[true,true,true,true,true,true,true,true,true,true,true,true,true,false,true,true,true,false,false,false,false]) rfl (by kernel_rfl) (by kernel_rfl) (by kernel_rfl) (fun c a w h => h) (Or.inl ⟨by kernel_rfl,fun wq hq => by first | (go_simp;done) | (go_simp;omega)⟩) S4 (by kernel_rfl) ?_
 refine held_take (i:=13) (v:=.string (⟨#[40]⟩ ++ sx ++ ⟨#[32]⟩ ++ sg ++ ⟨#[32]⟩)) (L:=#[true,true,true,true,true,true,true,true,true,true,true,true,true,true,true,true,true,false,false,false,false]) rfl (by kernel_rfl) (by kernel_rfl) (by kernel_rfl) (fun c a w h => h) (Or.inl ⟨by kernel_rfl,fun wq hq => by first | (go_simp;done) | (go_simp;omega)⟩) S4 (by kernel_rfl) ?_
 refine held_go (i:=17) (L:=#[true,true,true,true,true,true,true,true,true,true,true,true,true,true,true,true,true,true,false,false,false]) (by kernel_rfl) rfl (by kernel_rfl) (by kernel_rfl) ?_
 intro K' hK
 go_simp
 refine (IY.out _ S4).mono ?_
 rintro e w5 ⟨rfl,hb⟩
 have S5:=S4.trans (hb.mono S4.size)
 clear hb IY
 refine hK _ _ ⟨S5,?_⟩
 clear hK
 refine held_take (i:=18) (v:=.string (⟨#[40]⟩ ++ sx ++ ⟨#[32]⟩ ++ sg ++ ⟨#[32]⟩ ++ sy)) (L:=#[true,true,true,true,true,true,true,true,true,true,true,true,true,true,true,true,true,true,true,false,false]) rfl (by kernel_rfl) (by kernel_rfl) (by kernel_rfl) (fun c a w h => h) (Or.inl ⟨by kernel_rfl,fun wq hq => by first | (go_simp;done) | (go_simp;omega)⟩) S5 (by kernel_rfl) ?_
 refine held_take (i:=19) (v:=.string (⟨#[40]⟩ ++ sx ++ ⟨#[32]⟩ ++ sg ++ ⟨#[32]⟩ ++ sy ++ ⟨#[41]⟩)) (L:=#[true,true,true,true,true,true,true,true,true,true,true,true,true,true,true,true,true,true,true,true,false]) rfl (by kernel_rfl) (by kernel_rfl) (by kernel_rfl) (fun c a w h => h) (Or.inl ⟨by kernel_rfl,fun wq hq => by first | (go_simp;done) | (go_simp;omega)⟩) S5 (by kernel_rfl) ?_
 refine held_go (i:=20) (L:=#[true,true,true,true,true,true,true,true,true,true,true,true,true,true,true,true,true,true,true,true,true]) (by kernel_rfl) rfl (by kernel_rfl) (by kernel_rfl) ?_
 intro K' hK
 go_simp
 refine hK _ _ ⟨S5,?_⟩
 clear hK
 refine wpAnyH_done (by kernel_rfl) ?_ _
 go_wp2_with fail
 go_ret
 exact ⟨rfl,HBB.out.trans (S5.mono HBB.out.size)⟩
theorem ndtext_any (l : List Nd) (bs : List Nat) (ao : Option Addr) (cap : Nat) (h40 : l.length ≤ 40) (hg : Good l bs) :
  ∀ (i : Nat),i < l.length → ∀ w,RowG w (.slice ao l.length cap) 6 l.length (rowN l) →
  Calls Tryz.prog 27 #[.slice ao l.length cap,.int .i64 (i : Int)] w fun e w' => e = .returned (.string (txV l (i : Int))) ∧ Below w.heap.size w w':=by
 intro i
 induction i using Nat.strongRecOn with
 | ind i ih =>
  intro hi w hr
  have hn:=List.getElem?_eq_getElem hi
  have hv:=txV_eq hg hn
  obtain ⟨ok,a0,-⟩:=good_at hg hn
  obtain ⟨p1,p2⟩:=good_part hg hn
  obtain ⟨-,q1,q2,q3,q4,q5,q6⟩:=okN_parts ok
  have hvo:=okN_vok ok
  have hl : l.length ≤ 1000:=by omega
  have IH : ∀ (x : Int),0 ≤ x → x < i → ∀ w',Below w.heap.size w w' → Calls Tryz.prog 27 #[.slice ao l.length cap,.int .i64 x] w' fun e w'' => e = .returned (.string (txV l x)) ∧ Below w'.heap.size w' w'':=fun x h0 h1 w' hb => by
   obtain ⟨k,rfl⟩ : ∃ k : Nat,x = (k : Int):=⟨x.toNat,by omega⟩
   exact ih k (by omega) (by omega) w' (rowG_below hr hb)
  have SZ : ∀ (x : Int),0 ≤ x → x < i → (txV l x).size ≤ 20400000000000:=fun x h0 h1 => by
   obtain ⟨k,rfl⟩ : ∃ k : Nat,x = (k : Int):=⟨x.toNat,by omega⟩
   exact txV_max hg h40 (by omega)
  rw [hv]
  generalize l[i] = n at *
  obtain ⟨op,x,y,nn,k,v⟩:=n
  simp only at *
  rcases ar_op a0 with rfl | rfl | rfl | rfl | rfl | ⟨h6,h2⟩
  ·rw [if_pos rfl]
   by_cases h0 : v < 0
   ·exact nt_1n x y nn k v h0 hvo l ao cap i hi hl w hr hn
   ·exact nt_1p x y nn k v h0 hvo l ao cap i hi hl w hr hn
  ·rw [if_neg (by decide),if_pos rfl]
   rcases (by omega : nn = 0 ∨ nn = 1 ∨ nn = 2 ∨ nn = 3) with rfl | rfl | rfl | rfl
   ·exact nt_20 x y k v l ao cap i hi hl w hr hn
   ·exact nt_21 x y k v l ao cap i hi hl w hr hn
   ·exact nt_22 x y k v l ao cap i hi hl w hr hn
   ·exact nt_23 x y k v l ao cap i hi hl w hr hn
  ·obtain ⟨x0,x1,-⟩:=p1 (by decide)
   rw [if_neg (by decide),if_neg (by decide),if_pos (by decide)]
   exact nt_3 x y nn k v _ (SZ x x0 x1) l ao cap i hi hl w hr hn (IH x x0 x1)
  ·obtain ⟨x0,x1,-⟩:=p1 (by decide)
   rw [if_neg (by decide),if_neg (by decide),if_pos (by decide)]
   exact nt_4 x y nn k v _ (SZ x x0 x1) l ao cap i hi hl w hr hn (IH x x0 x1)
  ·obtain ⟨x0,x1,-⟩:=p1 (by decide)
   rw [if_neg (by decide),if_neg (by decide),if_pos (by decide)]
   exact nt_5 x y nn k v _ (SZ x x0 x1) l ao cap i hi hl w hr hn (IH x x0 x1)
  ·obtain ⟨x0,x1,-⟩:=p1 (by omega)
   obtain ⟨y0,y1,-⟩:=p2 h2
   rw [if_neg (by omega),if_neg (by omega),if_neg (by omega)]
   have h12:=two_cases h2
   obtain ⟨m,rfl⟩ : ∃ m : Nat,op = (m : Int) + 6:=⟨(op - 6).toNat,by omega⟩
   have hm : m < 7:=by omega
   have e : ∀ a b,txO ((m : Int) + 6) a b = ⟨#[40]⟩ ++ a ++ ⟨#[32]⟩ ++ sgnB ((m : Int) + 6) ++ ⟨#[32]⟩ ++ b ++ ⟨#[41]⟩:=fun a b => by
    unfold txO
    rw [if_neg (by omega),if_neg (by omega),if_neg (by omega)]
   rw [e]
   refine nt_two x y nn k v m hm _ _ (sgnB ((m : Int) + 6)) ?_ (sgnB_size _) (SZ x x0 x1) (SZ y (by omega) (by omega)) l ao cap i hi hl w hr hn (IH x x0 x1) (IH y (by omega) (by omega))
   rcases (by omega : m = 0 ∨ m = 1 ∨ m = 2 ∨ m = 3 ∨ m = 4 ∨ m = 5 ∨ m = 6) with rfl | rfl | rfl | rfl | rfl | rfl | rfl <;> rfl
theorem extext_any (l : List Nd) (ao : Option Addr) (cap : Nat) (w : World) (hc : chkE l = 0) (hr : NodG w (.slice ao l.length cap) l) :
  Calls Tryz.prog 27 #[.slice ao l.length cap,.int .i64 ((l.length : Int) - 1)] w fun e w' => e = .returned (.string (txL l)) ∧ Below w.heap.size w w':=by
 obtain ⟨bs,hg,h40,hpos,hb⟩:=good_of_chk hc
 have h9:=ndtext_any l bs ao cap h40 hg (l.length - 1) (by omega) w hr
 have e : ((l.length - 1 : Nat) : Int) = (l.length : Int) - 1:=by omega
 rw [e,txV_last] at h9
 exact h9
theorem txL_max {l : List Nd} (hc : chkE l = 0) : (txL l).size ≤ 20400000000000:=by
 obtain ⟨bs,hg,h40,hpos,hb⟩:=good_of_chk hc
 have h9:=txV_max hg h40 (i:=l.length - 1) (by omega)
 have e : ((l.length - 1 : Nat) : Int) = (l.length : Int) - 1:=by omega
 rw [e,txV_last] at h9
 exact h9
theorem listedT (t : List Value) (h : t.length = 107) : ∃ f : Nat → Value,t = f 0 :: f 1 :: f 2 :: f 3 :: f 4 :: f 5 :: f 6 :: f 7 :: f 8 :: f 9 :: f 10 :: f 11 :: f 12 :: f 13 :: f 14 :: f 15 :: f 16 :: f 17 :: f 18 :: f 19 :: f 20 :: f 21 :: f 22 :: f 23 :: f 24 :: f 25 :: f 26 :: f 27 :: f 28 :: f 29 :: f 30 :: f 31 :: f 32 :: f 33 :: f 34 :: f 35 :: f 36 :: f 37 :: f 38 :: f 39 :: f 40 :: f 41 :: f 42 :: f 43 :: f 44 :: f 45 :: f 46 :: f 47 :: f 48 :: f 49 :: f 50 :: f 51 :: f 52 :: f 53 :: f 54 :: f 55 :: f 56 :: f 57 :: f 58 :: f 59 :: f 60 :: f 61 :: f 62 :: f 63 :: f 64 :: f 65 :: f 66 :: f 67 :: f 68 :: f 69 :: f 70 :: f 71 :: f 72 :: f 73 :: f 74 :: f 75 :: f 76 :: f 77 :: f 78 :: f 79 :: f 80 :: f 81 :: f 82 :: f 83 :: f 84 :: f 85 :: f 86 :: f 87 :: f 88 :: f 89 :: f 90 :: f 91 :: f 92 :: f 93 :: f 94 :: f 95 :: f 96 :: f 97 :: f 98 :: f 99 :: f 100 :: f 101 :: f 102 :: f 103 :: f 104 :: f 105 :: f 106 :: [] ∧ ∀ i,i < 107 → t[i]? = some (f i):=by
 have e1 : t = (List.range 107).map (fun i => t.getD i undef):=by
  apply List.ext_getElem
  ·simp [h]
  ·intro i h1 h2
   simp [List.getD,h1]
 refine ⟨fun i => t.getD i undef,?_,fun i hi => ?_⟩
 ·have e2 : ∀ g : Nat → Value,(List.range 107).map g = g 0 :: g 1 :: g 2 :: g 3 :: g 4 :: g 5 :: g 6 :: g 7 :: g 8 :: g 9 :: g 10 :: g 11 :: g 12 :: g 13 :: g 14 :: g 15 :: g 16 :: g 17 :: g 18 :: g 19 :: g 20 :: g 21 :: g 22 :: g 23 :: g 24 :: g 25 :: g 26 :: g 27 :: g 28 :: g 29 :: g 30 :: g 31 :: g 32 :: g 33 :: g 34 :: g 35 :: g 36 :: g 37 :: g 38 :: g 39 :: g 40 :: g 41 :: g 42 :: g 43 :: g 44 :: g 45 :: g 46 :: g 47 :: g 48 :: g 49 :: g 50 :: g 51 :: g 52 :: g 53 :: g 54 :: g 55 :: g 56 :: g 57 :: g 58 :: g 59 :: g 60 :: g 61 :: g 62 :: g 63 :: g 64 :: g 65 :: g 66 :: g 67 :: g 68 :: g 69 :: g 70 :: g 71 :: g 72 :: g 73 :: g 74 :: g 75 :: g 76 :: g 77 :: g 78 :: g 79 :: g 80 :: g 81 :: g 82 :: g 83 :: g 84 :: g 85 :: g 86 :: g 87 :: g 88 :: g 89 :: g 90 :: g 91 :: g 92 :: g 93 :: g 94 :: g 95 :: g 96 :: g 97 :: g 98 :: g 99 :: g 100 :: g 101 :: g 102 :: g 103 :: g 104 :: g 105 :: g 106 :: []:=fun _ => rfl
  exact e1.trans (e2 _)
 ·simp [List.getD,h,hi]
structure FT (W w : World) (gz gn : Nat) (va vw vb : Value) (q : Qy) (ps : List (AgQ × Value)) : Prop where
 kp : Below W.heap.size W w
 bz : BlkAt w gz [va,vw,vb,.int .i64 q.size,.int .i64 q.slide,.int .i64 q.delay,.int .i64 q.late]
 bn : BlkAt w gn [.string ⟨#[]⟩,.string ⟨#[99,111,117,110,116]⟩,.string ⟨#[99,111,117,110,116]⟩,.string ⟨#[115,117,109]⟩,.string ⟨#[109,105,110]⟩,.string ⟨#[109,97,120]⟩]
 qg : QyG w va vw vb q ps
theorem ft_below {W w w' : World} {gz gn : Nat} {va vw vb : Value} {q : Qy} {ps : List (AgQ × Value)} (h : FT W w gz gn va vw vb q ps) (hb : Below w.heap.size w w') : FT W w' gz gn va vw vb q ps:=⟨h.kp.trans (hb.mono h.kp.size),blk_below h.bz hb h.bz.lt,blk_below h.bn hb h.bn.lt,qyG_below h.qg hb⟩
theorem lt_tT {a b : Int} (h : a < b) : decide (a < b) = true:=decide_eq_true h
theorem lt_fT {a b : Int} (h : ¬ a < b) : decide (a < b) = false:=decide_eq_false h
def accT (l : List AgQ) (j : Nat) : ByteArray:=⟨#[115,101,108,101,99,116,32]⟩ ++ ⟨(Lib.join ((l.take j).map fun a => (agB a).data.toList) [44,32]).toArray⟩
theorem accT_0 (l : List AgQ) : accT l 0 = ⟨#[115,101,108,101,99,116,32]⟩:=by
 unfold accT
 apply ByteArray.ext
 simp [ByteArray.data_append,Lib.join_nil]
theorem app_ext {a b : ByteArray} (h : a.data.toList = b.data.toList) : a = b:=by
 cases a;cases b
 simp at h
 subst h
 rfl
theorem accT_1 (l : List AgQ) (a : AgQ) (h : l[0]? = some a) : accT l 1 = accT l 0 ++ agB a:=by
 cases l with
 | nil => simp at h
 | cons b l =>
  simp at h
  subst h
  apply app_ext
  unfold accT
  simp [ByteArray.data_append,Lib.join_nil,Lib.join_one]
theorem accT_n (l : List AgQ) (j : Nat) (a : AgQ) (h0 : 0 < j) (h : l[j]? = some a) : accT l (j + 1) = accT l j ++ ⟨#[44,32]⟩ ++ agB a:=by
 cases l with
 | nil => simp at h
 | cons b l =>
  obtain ⟨k,rfl⟩ : ∃ k,j = k + 1:=⟨j - 1,by omega⟩
  have h' : l[k]? = some a:=by simpa using h
  have h9 : (l.map fun a => (agB a).data.toList)[k]? = some (agB a).data.toList:=by simp [h']
  have e:=Lib.joinTail_take_succ [44,32] (l.map fun a => (agB a).data.toList) k _ h9
  apply app_ext
  unfold accT
  simp only [List.take_succ_cons,List.map_cons,Lib.join_cons,ByteArray.data_append,Array.toList_append,List.map_take,e]
  simp
theorem agB_more {a : AgQ} (h1 : a.kind ≠ 1) : agB a = nmB a.kind ++ ⟨#[40]⟩ ++ txL a.of ++ ⟨#[41]⟩:=by unfold agB;rw [if_neg h1]
theorem agB_one {a : AgQ} (h1 : a.kind = 1) : agB a = nmB a.kind ++ ⟨#[40]⟩ ++ ⟨#[42]⟩ ++ ⟨#[41]⟩:=by
 unfold agB
 rw [if_pos h1,h1]
 rfl
theorem nm_at (k : Nat) (h1 : 1 ≤ k) (h5 : k ≤ 5) : ([.string ⟨#[]⟩,.string ⟨#[99,111,117,110,116]⟩,.string ⟨#[99,111,117,110,116]⟩,.string ⟨#[115,117,109]⟩,.string ⟨#[109,105,110]⟩,.string ⟨#[109,97,120]⟩] : List Value)[k]? = some (.string (nmB (k : Int))):=by
 rcases (by omega : k = 1 ∨ k = 2 ∨ k = 3 ∨ k = 4 ∨ k = 5) with rfl | rfl | rfl | rfl | rfl <;> rfl
def ofB (a : AgQ) : ByteArray:=if a.kind = 1 then ⟨#[42]⟩ else txL a.of
theorem ag_of (a : AgQ) : agB a = nmB a.kind ++ ⟨#[40]⟩ ++ ofB a ++ ⟨#[41]⟩:=by
 unfold ofB
 by_cases h : a.kind = 1
 ·rw [if_pos h];exact agB_one h
 ·rw [if_neg h];exact agB_more h
theorem chkA_kind {a : AgQ} (h : chkA a = 0) : 1 ≤ a.kind ∧ a.kind ≤ 5 ∧ (a.kind ≠ 1 → chkE a.of = 0):=by
 unfold chkA at h
 by_cases h1 : a.kind < 1 ∨ 5 < a.kind
 ·rw [if_pos h1] at h;exact absurd h (by decide)
 rw [if_neg h1] at h
 refine ⟨by omega,by omega,fun h2 => ?_⟩
 rw [if_neg h2] at h
 by_cases h3 : (kindQ a.of).2 = 0
 ·exact kindQ_zero h3
 ·rw [if_pos h3] at h;exact absurd h h3
theorem ofB_size {a : AgQ} (h : chkA a = 0) : (ofB a).size ≤ 20400000000000:=by
 unfold ofB
 by_cases h1 : a.kind = 1
 ·rw [if_pos h1];decide
 ·rw [if_neg h1];exact txL_max ((chkA_kind h).2.2 h1)
theorem uSep (Q : Exit → Act → World → Prop) (X : Code) (C6 : Code) (h6 : rgn 6 (Tryz.f11.body.getD .skip) = some C6) (C7 : Code) (h7 : rgn 7 (Tryz.f11.body.getD .skip) = some C7) (t : List Value) (j : Nat) (gz gn : Nat) (s : ByteArray) (va vw vb : Value) (q : Qy) (ps : List (AgQ × Value)) (W w : World) (hs : s.size ≤ 1000000000000000) (hj : j ≤ 4) (ht : t.length = 107) (k1 : t[1]? = some (.pointer (some ⟨gz,0,none⟩))) (k3 : t[3]? = some (.slice (some ⟨gn,0,none⟩) 6 6)) (k4 : t[4]? = some (.string s)) (k5 : t[5]? = some (.int .i64 (j : Int)))
  (h : FT W w gz gn va vw vb q ps)
  (hQ : ∀ (t' : List Value)  (w' : World),t'.length = 107 → t'[1]? = some (.pointer (some ⟨gz,0,none⟩)) → t'[3]? = some (.slice (some ⟨gn,0,none⟩) 6 6) → t'[4]? = some (.string (if 0 < j then s ++ ⟨#[44,32]⟩ else s)) → t'[5]? = some (.int .i64 (j : Int)) → FT W w' gz gn va vw vb q ps → Code.wp Tryz.prog X Q { tmps:=t'.toArray,defers:=[] } w') :
  Code.wp Tryz.prog (.seq (.seq C6 (.cond (.tmp 16) C7 .skip)) X) Q { tmps:=t.toArray,defers:=[] } w:=by
 have HQ:=hidE hQ
 have H:=hidE h
 clear hQ h
 obtain ⟨f,hf,hi⟩:=listedT t ht
 have e1:=some_at (hi 1 (by decide)) k1
 have e3:=some_at (hi 3 (by decide)) k3
 have e4:=some_at (hi 4 (by decide)) k4
 have e5:=some_at (hi 5 (by decide)) k5
 rw [e1,e3,e4,e5] at hf
 clear hi ht k1 e1 k3 e3 k4 e4 k5 e5
 subst hf
 unfold Tryz.f11 at h6
 simp [rgn] at h6
 subst h6
 unfold Tryz.f11 at h7
 simp [rgn] at h7
 subst h7
 by_cases h0 : 0 < j
 ·have q1:=lt_tT (a:=0) (b:=(j : Int)) (by omega)
  rw [if_pos h0] at HQ
  go_wp2_with fail
  exact HQ.out _ _ rfl rfl rfl rfl rfl H.out
 ·have q1:=lt_fT (a:=0) (b:=(j : Int)) (by omega)
  rw [if_neg h0] at HQ
  go_wp2_with fail
  exact HQ.out _ _ rfl rfl rfl rfl rfl H.out
theorem uOf (Q : Exit → Act → World → Prop) (X : Code) (C8 : Code) (h8 : rgn 8 (Tryz.f11.body.getD .skip) = some C8) (C9 : Code) (h9 : rgn 9 (Tryz.f11.body.getD .skip) = some C9) (C10 : Code) (h10 : rgn 10 (Tryz.f11.body.getD .skip) = some C10) (t : List Value) (j : Nat) (gz gn : Nat) (s : ByteArray) (va vw vb : Value) (q : Qy) (ps : List (AgQ × Value)) (W w : World) (hlt : j < ps.length) (k : Int) (l : List Nd) (v : Value) (hp : ps[j] = (⟨k,l⟩,v)) (hps : ps.length ≤ 4) (hk : chkA ⟨k,l⟩ = 0) (ht : t.length = 107) (k1 : t[1]? = some (.pointer (some ⟨gz,0,none⟩))) (k3 : t[3]? = some (.slice (some ⟨gn,0,none⟩) 6 6)) (k4 : t[4]? = some (.string s)) (k5 : t[5]? = some (.int .i64 (j : Int)))
  (h : FT W w gz gn va vw vb q ps)
  (hpan : ∀ c (a : Act) o v w,Q (.panic c) (a.put o v) w → Q (.panic c) a w)
  (hQ : ∀ (t' : List Value)  (w' : World),t'.length = 107 → t'[1]? = some (.pointer (some ⟨gz,0,none⟩)) → t'[3]? = some (.slice (some ⟨gn,0,none⟩) 6 6) → t'[4]? = some (.string s) → t'[5]? = some (.int .i64 (j : Int)) → t'[6]? = some (.string (ofB ⟨k,l⟩)) → FT W w' gz gn va vw vb q ps → Code.wp Tryz.prog X Q { tmps:=t'.toArray,defers:=[] } w') :
  Code.wp Tryz.prog (.seq C8 (.seq (.seq C9 (.cond (.tmp 25) C10 .skip)) X)) Q { tmps:=t.toArray,defers:=[] } w:=by
 have HQ:=hidE hQ
 have H:=hidE h
 clear hQ h
 obtain ⟨ao,cap,rfl⟩:=rowG_shape H.out.qg.ag.row
 obtain ⟨a2,c2,rfl⟩:=rowG_shape H.out.qg.wh
 obtain ⟨a3,c3,rfl⟩:=rowG_shape H.out.qg.by_
 have HPN:=hidE hpan
 clear hpan
 have z0:=H.out.bz.c 0 (by simp)
 have z1:=H.out.bz.c 1 (by simp)
 have z2:=H.out.bz.c 2 (by simp)
 have z3:=H.out.bz.c 3 (by simp)
 have z4:=H.out.bz.c 4 (by simp)
 have z5:=H.out.bz.c 5 (by simp)
 have z6:=H.out.bz.c 6 (by simp)
 simp only [List.getElem?_cons_zero,List.getElem?_cons_succ] at z0 z1 z2 z3 z4 z5 z6
 obtain ⟨g,off,hao,hcell,q1',q2',lg⟩:=rowOf_val cellsAg_len H.out.qg.ag.row j hlt
 have hnd:=H.out.qg.ag.nds ps[j] (List.getElem_mem hlt)
 subst hao
 rw [hp] at hcell hnd
 have y0 : w.cell? ⟨g,off + j * 2,none⟩ = some (.int .i64 k):=hcell 0 (by omega)
 have y1 : w.cell? ⟨g,off + j * 2 + 1,none⟩ = some v:=hcell 1 (by omega)
 obtain ⟨ax,cx,hvx⟩:=rowG_shape hnd.1
 have hvx : v = .slice ax l.length cx:=hvx
 subst hvx
 unfold maxLen at q2'
 clear hcell
 obtain ⟨hk1,hk5,hke⟩:=chkA_kind hk
 have hk1 : 1 ≤ k:=hk1
 have hk5 : k ≤ 5:=hk5
 have lgz:=H.out.bz.lt
 have hl9:=hnd.2
 have HND:=hidE hnd.1
 clear hnd hp hk
 have hl9 : l.length ≤ 1000:=hl9
 obtain ⟨f,hf,hi⟩:=listedT t ht
 have e1:=some_at (hi 1 (by decide)) k1
 have e3:=some_at (hi 3 (by decide)) k3
 have e4:=some_at (hi 4 (by decide)) k4
 have e5:=some_at (hi 5 (by decide)) k5
 rw [e1,e3,e4,e5] at hf
 clear hi ht k1 e1 k3 e3 k4 e4 k5 e5
 subst hf
 unfold Tryz.f11 at h8
 simp [rgn] at h8
 subst h8
 unfold Tryz.f11 at h9
 simp [rgn] at h9
 subst h9
 unfold Tryz.f11 at h10
 simp [rgn] at h10
 subst h10
 by_cases k1 : k = 1
 ·have q1:=lt_fT (a:=1) (b:=k) (by omega)
  have E:=hidE (show ofB ⟨k,l⟩ = ⟨#[42]⟩ by unfold ofB;rw [if_pos k1])
  clear k1 hke
  rw [E.out] at HQ
  go_wp2_with fail
  exact HQ.out _ _ rfl rfl rfl rfl rfl rfl H.out
 ·have q1:=lt_tT (a:=1) (b:=k) (by omega)
  have E:=hidE (show ofB ⟨k,l⟩ = txL l by unfold ofB;rw [if_neg k1])
  have NT : Hid (∀ w',Below w.heap.size w w' → Calls Tryz.prog 27 #[.slice ax l.length cx,.int .i64 ((l.length : Int) - 1)] w' fun e w'' => e = .returned (.string (txL l)) ∧ Below w'.heap.size w' w''):=fun w' hb => extext_any l ax cx w' (hke k1) (nodG_below HND.out hb)
  rw [E.out] at HQ
  generalize txL l = sx at *
  clear k1 hke
  go_wp2_with fail
  rename_i K2 hK2
  have hS : Below w.heap.size w ({ w with drawn:=w.drawn + 1 } : World):=(Below.refl _ _).drew
  refine wp_region_held (S:=fun w' => Below w.heap.size w w') (by kernel_rfl) ?_
  generalize ({ w with drawn:=w.drawn + 1 } : World) = wd at *
  refine held_take (i:=0) (v:=.pointer (some ⟨gz,0,none⟩)) (L:=#[true,false,false,false,false,false,false,false,false,false,false,false,false,false,false,false]) rfl (by kernel_rfl) (by kernel_rfl) (by kernel_rfl) (fun c a w h => HPN.out c _ _ _ _ h) (Or.inl ⟨by kernel_rfl,fun wq hq => by go_simp⟩) hS (by kernel_rfl) ?_
  refine held_take (i:=1) (v:=.slice (some ⟨g,off,none⟩) ps.length cap) (L:=#[true,true,false,false,false,false,false,false,false,false,false,false,false,false,false,false]) rfl (by kernel_rfl) (by kernel_rfl) (by kernel_rfl) (fun c a w h => HPN.out c _ _ _ _ h) (Or.inl ⟨by kernel_rfl,fun wq hq => by have q9:=(hq.cell (p:=⟨gz,0,none⟩) (by show gz < w.heap.size;omega)).trans z0;go_simp⟩) hS (by kernel_rfl) ?_
  refine held_take (i:=2) (v:=.int .i64 (j : Int)) (L:=#[true,true,true,false,false,false,false,false,false,false,false,false,false,false,false,false]) rfl (by kernel_rfl) (by kernel_rfl) (by kernel_rfl) (fun c a w h => HPN.out c _ _ _ _ h) (Or.inl ⟨by kernel_rfl,fun wq hq => by go_simp⟩) hS (by kernel_rfl) ?_
  refine held_take (i:=3) (v:=.pointer (some ⟨g,off + j * 2,none⟩)) (L:=#[true,true,true,true,false,false,false,false,false,false,false,false,false,false,false,false]) rfl (by kernel_rfl) (by kernel_rfl) (by kernel_rfl) (fun c a w h => HPN.out c _ _ _ _ h) (Or.inl ⟨by kernel_rfl,fun wq hq => by go_simp⟩) hS (by kernel_rfl) ?_
  refine held_take (i:=4) (v:=.pointer (some ⟨g,off + j * 2 + 1,none⟩)) (L:=#[true,true,true,true,true,false,false,false,false,false,false,false,false,false,false,false]) rfl (by kernel_rfl) (by kernel_rfl) (by kernel_rfl) (fun c a w h => HPN.out c _ _ _ _ h) (Or.inl ⟨by kernel_rfl,fun wq hq => by go_simp⟩) hS (by kernel_rfl) ?_
  refine held_take (i:=5) (v:=.slice ax l.length cx) (L:=#[true,true,true,true,true,true,false,false,false,false,false,false,false,false,false,false]) rfl (by kernel_rfl) (by kernel_rfl) (by kernel_rfl) (fun c a w h => HPN.out c _ _ _ _ h) (Or.inl ⟨by kernel_rfl,fun wq hq => by have q9:=(hq.cell (p:=⟨g,off + j * 2 + 1,none⟩) (by show g < w.heap.size;omega)).trans y1;go_simp⟩) hS (by kernel_rfl) ?_
  refine held_take (i:=6) (v:=.pointer (some ⟨gz,0,none⟩)) (L:=#[true,true,true,true,true,true,true,false,false,false,false,false,false,false,false,false]) rfl (by kernel_rfl) (by kernel_rfl) (by kernel_rfl) (fun c a w h => HPN.out c _ _ _ _ h) (Or.inl ⟨by kernel_rfl,fun wq hq => by go_simp⟩) hS (by kernel_rfl) ?_
  refine held_take (i:=7) (v:=.slice (some ⟨g,off,none⟩) ps.length cap) (L:=#[true,true,true,true,true,true,true,true,false,false,false,false,false,false,false,false]) rfl (by kernel_rfl) (by kernel_rfl) (by kernel_rfl) (fun c a w h => HPN.out c _ _ _ _ h) (Or.inl ⟨by kernel_rfl,fun wq hq => by have q9:=(hq.cell (p:=⟨gz,0,none⟩) (by show gz < w.heap.size;omega)).trans z0;go_simp⟩) hS (by kernel_rfl) ?_
  refine held_take (i:=8) (v:=.int .i64 (j : Int)) (L:=#[true,true,true,true,true,true,true,true,true,false,false,false,false,false,false,false]) rfl (by kernel_rfl) (by kernel_rfl) (by kernel_rfl) (fun c a w h => HPN.out c _ _ _ _ h) (Or.inl ⟨by kernel_rfl,fun wq hq => by go_simp⟩) hS (by kernel_rfl) ?_
  refine held_take (i:=9) (v:=.pointer (some ⟨g,off + j * 2,none⟩)) (L:=#[true,true,true,true,true,true,true,true,true,true,false,false,false,false,false,false]) rfl (by kernel_rfl) (by kernel_rfl) (by kernel_rfl) (fun c a w h => HPN.out c _ _ _ _ h) (Or.inl ⟨by kernel_rfl,fun wq hq => by go_simp⟩) hS (by kernel_rfl) ?_
  refine held_take (i:=10) (v:=.pointer (some ⟨g,off + j * 2 + 1,none⟩)) (L:=#[true,true,true,true,true,true,true,true,true,true,true,false,false,false,false,false]) rfl (by kernel_rfl) (by kernel_rfl) (by kernel_rfl) (fun c a w h => HPN.out c _ _ _ _ h) (Or.inl ⟨by kernel_rfl,fun wq hq => by go_simp⟩) hS (by kernel_rfl) ?_
  refine held_take (i:=11) (v:=.slice ax l.length cx) (L:=#[true,true,true,true,true,true,true,true,true,true,true,true,false,false,false,false]) rfl (by kernel_rfl) (by kernel_rfl) (by kernel_rfl) (fun c a w h => HPN.out c _ _ _ _ h) (Or.inl ⟨by kernel_rfl,fun wq hq => by have q9:=(hq.cell (p:=⟨g,off + j * 2 + 1,none⟩) (by show g < w.heap.size;omega)).trans y1;go_simp⟩) hS (by kernel_rfl) ?_
  refine held_take (i:=12) (v:=.int .i64 (l.length : Int)) (L:=#[true,true,true,true,true,true,true,true,true,true,true,true,true,false,false,false]) rfl (by kernel_rfl) (by kernel_rfl) (by kernel_rfl) (fun c a w h => HPN.out c _ _ _ _ h) (Or.inl ⟨by kernel_rfl,fun wq hq => by go_simp⟩) hS (by kernel_rfl) ?_
  refine held_take (i:=13) (v:=.int .i64 ((l.length : Int) - 1)) (L:=#[true,true,true,true,true,true,true,true,true,true,true,true,true,true,false,false]) rfl (by kernel_rfl) (by kernel_rfl) (by kernel_rfl) (fun c a w h => HPN.out c _ _ _ _ h) (Or.inl ⟨by kernel_rfl,fun wq hq => by go_simp;exact wrapIn2 _ (by omega) (by omega)⟩) hS (by kernel_rfl) ?_
  refine held_go (i:=14) (L:=#[true,true,true,true,true,true,true,true,true,true,true,true,true,true,true,false]) (by kernel_rfl) rfl (by kernel_rfl) (by kernel_rfl) ?_
  intro K' hK
  go_simp
  refine (NT.out _ hS).mono ?_
  rintro e w4 ⟨rfl,hb⟩
  have S4:=hS.trans (hb.mono hS.size)
  refine hK _ _ ⟨S4,?_⟩
  clear hK
  refine held_go (i:=15) (L:=#[true,true,true,true,true,true,true,true,true,true,true,true,true,true,true,true]) (by kernel_rfl) rfl (by kernel_rfl) (by kernel_rfl) ?_
  intro K' hK
  go_simp
  refine hK _ _ ⟨S4,?_⟩
  clear hK
  refine wpAnyH_done (by kernel_rfl) ?_ _
  exact then_normal (hK2 _ _ (HQ.out _ _ rfl rfl rfl rfl rfl rfl (ft_below H.out S4)))
end Go.Proofs.YteaanpdckkmjoaaGreatDoor
