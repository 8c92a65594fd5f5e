/- Regions that draw, in few words. -/
import Derived.Deep.RegionHeld3
import Derived.RowKit
import Derived.OpenShut
import Derived.Deep.Draws
import Derived.Lib.Builder
import Derived.Test.YtipngnjffjajpaaGreatDoorRows
import Derived.WalkKit
import Derived.WalkSpells
import Derived.WalkLawsBesides
import Derived.Test.YtipngnjffjajpaaGreatDoorShelf
import Derived.Lib.Strings
import Derived.Lib.Bytealg
namespace Go.Proofs.YtipngnjffjajpaaGreatDoor
open Go.RowKit
set_option linter.unusedVariables false
/-- what lies over a world; a cell; a name for a thing. -/
abbrev Ov (w w' : World) : Prop:=Below w.heap.size w w'
theorem nm {α : Type} (x : α) : ∃ q,q = x:=⟨x,rfl⟩
theorem aqt : (∀ (l : List Oper) (i : Nat) (h : i < l.toArray.size),l.toArray[i]'h = l[i]'(by simpa using h))∧(∀ (a : Oper) (l : List Oper) (i : Nat) (h : i + 1 < (a :: l).length),(a :: l)[i + 1]'h = l[i]'(by simpa using h))∧(∀ (a : Oper) (l : List Oper) (h : 0 < (a :: l).length),(a :: l)[0]'h = a)∧(∀ (a : Act) (d : Tmp) (v : Value),a.put (some d) v = { a with tmps:=a.tmps.setIfInBounds d v })∧(∀ (a : Act) (v : Value),a.put none v = a)∧(∀ (l : List Value) (i : Nat) (x : Value),l.toArray.setIfInBounds i x = (l.set i x).toArray)∧(∀ (l : List Value) (a x : Value),(a :: l).set 0 x = x :: l)∧(∀ (l : List Value) (a x : Value) (i : Nat),(a :: l).set (i + 1) x = a :: l.set i x) :=
  ⟨fun _ _ _ => by simp,fun _ _ _ _ => rfl,fun _ _ _ => rfl,fun _ _ _ => rfl,fun _ _ => rfl,fun _ _ _ => by simp,fun _ _ _ => rfl,fun _ _ _ _ => rfl⟩
/-- one operation that is taken first. -/
theorem kT {P : Program} {ops : Array Oper} {Q : Exit→Act→World→Prop} {md : Region.Mode} {S : World→Prop} {oi : Oper} {v : Value} {fuel : Nat} {listed : Array Bool} {a : Act} {w : World} {Z : Prop} (i : Nat) (h : Z)
    (hi : ops[i]? = some oi:=by rfl) (hy : YieldsIf P ops S oi v a:=by (refine Or.inl ⟨by rfl,?_⟩; intro w' hSw; (try dsimp only at hSw); go_simp; try with_reducible rfl)) (hS : S w:=by assumption)
    (hs : Region.noSelect ops = true:=by kernel_rfl) (hf : Region.free md ops listed i = true:=by kernel_rfl) (hr : (Region.ready md ops listed).contains i = true:=by kernel_rfl)
    (hQ : ∀ c a w,Q (.panic c) (a.put oi.dst v) w→Q (.panic c) a w:=by exact fun _ _ _ h => h)
    (hz : Z→wpAnyH P md ops Q S fuel (listed.setIfInBounds i true) (a.put oi.dst v) w:=by (intro hz; (try simp only [aqt]); exact hz)) : wpAnyH P md ops Q S (fuel + 1) listed a w :=
  wpAnyH_take hi hs hf hr hQ hy hS (hz h)
/-- the one operation, one of two, one of three, that may come up. -/
abbrev StepH (P : Program) (md : Region.Mode) (ops : Array Oper) (Q : Exit→Act→World→Prop) (S : World→Prop) (fuel : Nat) (listed : Array Bool) (a : Act) (w : World) (i : Nat) (o : Oper) : Prop :=
  ∀ K' : Act→World→Prop,Shut (∀ a w,S w→(S w→wpAnyH P md ops Q S fuel (listed.setIfInBounds i true) a w)→K' a w)→if Region.wanted o (yielded ops a.tmps) = true then Oper.wp P o a w K' Q else K' (a.put o.dst undef) w
theorem rdA {P : Program} {ops : Array Oper} {Q : Exit→Act→World→Prop} {md : Region.Mode} {S : World→Prop} {fuel : Nat} {listed : Array Bool} {a : Act} {w : World} (i : Nat) {o : Oper} (ho : ops[i]? = some o) (h : StepH P md ops Q S fuel listed a w i o)
    (hr : Region.ready md ops listed = [i]:=by kernel_rfl) : wpAnyH P md ops Q S (fuel + 1) listed a w :=
  wpAnyH_ready hr (by simp) (AllReadyH.cons ho h AllReadyH.nil)
theorem rdB {P : Program} {ops : Array Oper} {Q : Exit→Act→World→Prop} {md : Region.Mode} {S : World→Prop} {fuel : Nat} {listed : Array Bool} {a : Act} {w : World} (i j : Nat) {o p : Oper} (ho : ops[i]? = some o) (h : StepH P md ops Q S fuel listed a w i o) (hp : ops[j]? = some p) (h2 : StepH P md ops Q S fuel listed a w j p)
    (hr : Region.ready md ops listed = [i,j]:=by kernel_rfl) : wpAnyH P md ops Q S (fuel + 1) listed a w :=
  wpAnyH_ready hr (by simp) (AllReadyH.cons ho h (AllReadyH.cons hp h2 AllReadyH.nil))
theorem rdC {P : Program} {ops : Array Oper} {Q : Exit→Act→World→Prop} {md : Region.Mode} {S : World→Prop} {fuel : Nat} {listed : Array Bool} {a : Act} {w : World} (i j k : Nat) {o p q : Oper} (ho : ops[i]? = some o) (h : StepH P md ops Q S fuel listed a w i o) (hp : ops[j]? = some p) (h2 : StepH P md ops Q S fuel listed a w j p) (hq : ops[k]? = some q) (h3 : StepH P md ops Q S fuel listed a w k q)
    (hr : Region.ready md ops listed = [i,j,k]:=by kernel_rfl) : wpAnyH P md ops Q S (fuel + 1) listed a w :=
  wpAnyH_ready hr (by simp) (AllReadyH.cons ho h (AllReadyH.cons hp h2 (AllReadyH.cons hq h3 AllReadyH.nil)))
/-- the way back into the region. -/
theorem xK {S : World→Prop} {V : Act→World→Prop} {K' : Act→World→Prop} {a : Act} {w : World} {Z : Prop} (hK : Shut (∀ a w,S w→(S w→V a w)→K' a w)) (hS : S w) (h : S w→Z) (hz : Z→V a w:=by (intro hz; (try simp only [aqt]); exact hz)) : K' a w :=
  hK.out a w hS (fun hs => hz (h hs))
/-- the region's beginning, its end. -/
theorem gS {P : Program} {ops : Array Oper} {Q : Exit→Act→World→Prop} (S : World→Prop) {id : Nat} {a : Act} {w : World} (hS : S w.drew)
    (h : S w.drew→wpAnyH P .any ops Q S ops.size (Array.replicate ops.size false) a w.drew) (hm : P.follows .mixedOrders = true:=by kernel_rfl) : (Code.region id ops true).wp P Q a w :=
  wp_region_held_drew hm hS h
theorem gE {P : Program} {ops : Array Oper} {Q : Exit→Act→World→Prop} {md : Region.Mode} {S : World→Prop} {fuel : Nat} {listed : Array Bool} {a : Act} {w : World} (h : Q .normal a w) (hr : Region.ready md ops listed = []:=by kernel_rfl) : wpAnyH P md ops Q S fuel listed a w :=
  wpAnyH_done hr h fuel
/-- cells of boxes that were made just now. -/
theorem al10 (w : World) (l : List Value) (T : Nat) : ∀ (j : Nat) (u : Value),l[j]? = some u→(w.alloc (.cells l.toArray T)).cell? ⟨w.heap.size,j,none⟩ = some u:=fun j u hu => by
  rw [Lib.cell_of_heap (show (w.heap.push (.cells l.toArray T))[w.heap.size]? = some (.cells l.toArray T) by simp)]
  simpa using hu
theorem alUp {w : World} {a : Addr} {u : Value} (h : w.cell? a = some u) (o : Obj) : (w.alloc o).cell? a = some u:=by
  rw [World.cell?_alloc_some _ _ _ (by rw [h]; rfl)]; exact h
theorem alS (w : World) (o : Obj) : (w.alloc o).heap.size = w.heap.size + 1:=by simp
theorem al20 (w : World) (l : List Value) (T : Nat) (o1 : Obj) : ∀ (j : Nat) (u : Value),l[j]? = some u→((w.alloc (.cells l.toArray T)).alloc o1).cell? ⟨w.heap.size,j,none⟩ = some u:=fun j u hu => by
  have h:=al10 w l T j u hu
  exact (alUp h _)
theorem al21 (w : World) (o0 : Obj) (l : List Value) (T : Nat) : ∀ (j : Nat) (u : Value),l[j]? = some u→((w.alloc o0).alloc (.cells l.toArray T)).cell? ⟨w.heap.size + 1,j,none⟩ = some u:=fun j u hu => by
  have h:=al10 (w.alloc o0) l T j u hu
  rw [alS] at h
  exact h
theorem rc2 {P : Nat→Value→Prop} {a0 a1 : Value} {l : List Value} (h : ∀ (j : Nat) (u : Value),(a0 :: a1 :: l)[j]? = some u→P j u) : P 0 a0∧P 1 a1:=⟨h 0 _ rfl,h 1 _ rfl⟩
theorem rc4 {P : Nat→Value→Prop} {a0 a1 a2 a3 : Value} {l : List Value} (h : ∀ (j : Nat) (u : Value),(a0 :: a1 :: a2 :: a3 :: l)[j]? = some u→P j u) : P 0 a0∧P 1 a1∧P 2 a2∧P 3 a3:=⟨h 0 _ rfl,h 1 _ rfl,h 2 _ rfl,h 3 _ rfl⟩
theorem rc5 {P : Nat→Value→Prop} {a0 a1 a2 a3 a4 : Value} {l : List Value} (h : ∀ (j : Nat) (u : Value),(a0 :: a1 :: a2 :: a3 :: a4 :: l)[j]? = some u→P j u) : P 0 a0∧P 1 a1∧P 2 a2∧P 3 a3∧P 4 a4:=⟨h 0 _ rfl,h 1 _ rfl,h 2 _ rfl,h 3 _ rfl,h 4 _ rfl⟩
theorem rc6 {P : Nat→Value→Prop} {a0 a1 a2 a3 a4 a5 : Value} {l : List Value} (h : ∀ (j : Nat) (u : Value),(a0 :: a1 :: a2 :: a3 :: a4 :: a5 :: l)[j]? = some u→P j u) : P 0 a0∧P 1 a1∧P 2 a2∧P 3 a3∧P 4 a4∧P 5 a5:=⟨h 0 _ rfl,h 1 _ rfl,h 2 _ rfl,h 3 _ rfl,h 4 _ rfl,h 5 _ rfl⟩
theorem rc12 {P : Nat→Value→Prop} {a0 a1 a2 a3 a4 a5 a6 a7 a8 a9 a10 a11 : Value} {l : List Value} (h : ∀ (j : Nat) (u : Value),(a0 :: a1 :: a2 :: a3 :: a4 :: a5 :: a6 :: a7 :: a8 :: a9 :: a10 :: a11 :: l)[j]? = some u→P j u) : P 0 a0∧P 1 a1∧P 2 a2∧P 3 a3∧P 4 a4∧P 5 a5∧P 6 a6∧P 7 a7∧P 8 a8∧P 9 a9∧P 10 a10∧P 11 a11:=⟨h 0 _ rfl,h 1 _ rfl,h 2 _ rfl,h 3 _ rfl,h 4 _ rfl,h 5 _ rfl,h 6 _ rfl,h 7 _ rfl,h 8 _ rfl,h 9 _ rfl,h 10 _ rfl,h 11 _ rfl⟩
theorem rc13 {P : Nat→Value→Prop} {a0 a1 a2 a3 a4 a5 a6 a7 a8 a9 a10 a11 a12 : Value} {l : List Value} (h : ∀ (j : Nat) (u : Value),(a0 :: a1 :: a2 :: a3 :: a4 :: a5 :: a6 :: a7 :: a8 :: a9 :: a10 :: a11 :: a12 :: l)[j]? = some u→P j u) : P 0 a0∧P 1 a1∧P 2 a2∧P 3 a3∧P 4 a4∧P 5 a5∧P 6 a6∧P 7 a7∧P 8 a8∧P 9 a9∧P 10 a10∧P 11 a11∧P 12 a12:=⟨h 0 _ rfl,h 1 _ rfl,h 2 _ rfl,h 3 _ rfl,h 4 _ rfl,h 5 _ rfl,h 6 _ rfl,h 7 _ rfl,h 8 _ rfl,h 9 _ rfl,h 10 _ rfl,h 11 _ rfl,h 12 _ rfl⟩
theorem ovS {V W : World} (h : Below V.heap.size V W) : ∀ a : Addr,(V.cell? a).isSome = true→W.cell? a = V.cell? a:=fun a ha => by
  obtain ⟨u,hu⟩:=Option.isSome_iff_exists.1 ha
  exact h.cell (World.block_lt_of_cell? V _ hu)
/-- one operation that is taken first: what is held is that the world lies over another one, whose cells are told. -/
theorem kO {P : Program} {ops : Array Oper} {Q : Exit→Act→World→Prop} {md : Region.Mode} {S : World→Prop} {oi : Oper} {v : Value} {fuel : Nat} {listed : Array Bool} {a : Act} {w : World} {Z : Prop} (i : Nat) (h : Z)
    (hi : ops[i]? = some oi:=by rfl) (hy : YieldsIf P ops S oi v a:=by (refine Or.inl ⟨by rfl,?_⟩; intro w' hSw; have hSw:=ovS hSw; go_simp; try with_reducible rfl)) (hS : S w:=by assumption)
    (hs : Region.noSelect ops = true:=by kernel_rfl) (hf : Region.free md ops listed i = true:=by kernel_rfl) (hr : (Region.ready md ops listed).contains i = true:=by kernel_rfl)
    (hQ : ∀ c a w,Q (.panic c) (a.put oi.dst v) w→Q (.panic c) a w:=by exact fun _ _ _ h => h)
    (hz : Z→wpAnyH P md ops Q S fuel (listed.setIfInBounds i true) (a.put oi.dst v) w:=by (intro hz; (try simp only [aqt]); exact hz)) : wpAnyH P md ops Q S (fuel + 1) listed a w :=
  wpAnyH_take hi hs hf hr hQ hy hS (hz h)
/-- what is laid aside. -/
def Hx (p : Prop) : Prop:=p
theorem Hx.o {p : Prop} (h : Hx p) : p:=h
/-- cells that are carried over. -/
theorem ce1 {w w' : World} (hb : Below w.heap.size w w') {a : Addr} {u : Value} (h : w.cell? a = some u) : w'.cell? a = some u:=by
  rw [hb.cell (World.block_lt_of_cell? w _ h)]; exact h
theorem bA (w : World) (o : Obj) : Below w.heap.size w (w.alloc o):=(Below.refl _ w).alloc (Nat.le_refl _) o
theorem bD (w : World) : Below w.heap.size w w.drew:=(Below.refl _ w).drew
theorem bL {w : World} {a : Addr} {u : Value} (h : w.cell? a = some u) : a.block < w.heap.size:=World.block_lt_of_cell? w _ h
end Go.Proofs.YtipngnjffjajpaaGreatDoor
namespace Go.Proofs.YtipngnjffjajpaaGreatDoor
open Go.RowKit
theorem hide {p : Prop} (h : p) : Hid p:=h
def isL (c : UInt8) : Bool:=decide (97≤c.toNat∧c.toNat≤122)
def isD (c : UInt8) : Bool:=decide (48≤c.toNat∧c.toNat≤57)
def isN (c : UInt8) : Bool:=isL c || isD c
def noLf (c : UInt8) : Bool:=decide (¬ c.toNat = 10)
set_option maxHeartbeats 400000 in
theorem isLetter_any (c : UInt8) (w : World) :
    Calls Tryz.prog 116 #[.int .u8 (c.toNat : Int)] w fun e w' => e = .returned (.bool (isL c))∧w' = w:=by
  by_cases h1 : (97 : Int)≤(c.toNat : Int)
  · by_cases h2 : (c.toNat : Int)≤122
    · go_enter Tryz.func116,Tryz.ntmps116
      go_wp2
      go_ret
      exact ⟨by simp [isL]; omega,rfl⟩
    · go_enter Tryz.func116,Tryz.ntmps116
      go_wp2
      go_ret
      exact ⟨by simp [isL]; omega,rfl⟩
  · go_enter Tryz.func116,Tryz.ntmps116
    go_wp2
    go_ret
    exact ⟨by simp [isL]; omega,rfl⟩
set_option maxHeartbeats 400000 in
theorem isDigit_any (c : UInt8) (w : World) :
    Calls Tryz.prog 118 #[.int .u8 (c.toNat : Int)] w fun e w' => e = .returned (.bool (isD c))∧w' = w:=by
  by_cases h1 : (48 : Int)≤(c.toNat : Int)
  · by_cases h2 : (c.toNat : Int)≤57
    · go_enter Tryz.func118,Tryz.ntmps118
      go_wp2
      go_ret
      exact ⟨by simp [isD]; omega,rfl⟩
    · go_enter Tryz.func118,Tryz.ntmps118
      go_wp2
      go_ret
      exact ⟨by simp [isD]; omega,rfl⟩
  · go_enter Tryz.func118,Tryz.ntmps118
    go_wp2
    go_ret
    exact ⟨by simp [isD]; omega,rfl⟩
set_option maxHeartbeats 400000 in
theorem notLf_any (c : UInt8) (w : World) :
    Calls Tryz.prog 115 #[.int .u8 (c.toNat : Int)] w fun e w' => e = .returned (.bool (noLf c))∧w' = w:=by
  go_enter Tryz.func115,Tryz.ntmps115
  go_wp2
  go_ret
  exact ⟨congrArg (fun b => Ending.returned (.bool b)) (by rw [Bool.eq_iff_iff]; simp [noLf]; omega),rfl⟩
set_option maxHeartbeats 400000 in
theorem nameGoes_any (c : UInt8) (w : World) :
    Calls Tryz.prog 141 #[.int .u8 (c.toNat : Int)] w fun e w' => e = .returned (.bool (isN c))∧w' = w:=by
  by_cases h : isL c = true
  · go_enter Tryz.func141,Tryz.ntmps141
    go_wp2_with fail
    refine (isLetter_any c _).mono ?_
    rintro e w' ⟨rfl,rfl⟩
    go_wp2_with fail
    go_ret
    exact ⟨by simp [isN,h],rfl⟩
  · go_enter Tryz.func141,Tryz.ntmps141
    go_wp2_with fail
    refine (isLetter_any c _).mono ?_
    rintro e w' ⟨rfl,rfl⟩
    go_wp2_with fail
    refine (isDigit_any c _).mono ?_
    rintro e w' ⟨rfl,rfl⟩
    go_wp2_with fail
    go_ret
    exact ⟨by simp [isN,h],rfl⟩
def spanL (p : UInt8→Bool) (l : List UInt8) (i : Nat) : Nat:=i + ((l.drop i).takeWhile p).length
theorem spanL_step {p : UInt8→Bool} {l : List UInt8} {i : Nat} (h : i < l.length) (hp : p l[i] = true) : spanL p l i = spanL p l (i + 1):=by
  unfold spanL
  rw [List.drop_eq_getElem_cons h,List.takeWhile_cons,if_pos hp]
  simp; omega
theorem spanL_stop {p : UInt8→Bool} {l : List UInt8} {i : Nat} (h : i < l.length) (hp : p l[i] = false) : spanL p l i = i:=by
  unfold spanL
  rw [List.drop_eq_getElem_cons h,List.takeWhile_cons,if_neg (by simp [hp])]
  simp
theorem spanL_end {p : UInt8→Bool} {l : List UInt8} {i : Nat} (h : l.length≤i) : spanL p l i = i:=by
  unfold spanL
  rw [List.drop_of_length_le h]
  simp
set_option maxHeartbeats 400000 in
theorem span_any (F : FuncId) (p : UInt8→Bool) (hF : Hid (∀ (c : UInt8) (w : World),Calls Tryz.prog F #[.int .u8 (c.toNat : Int)] w fun e w' => e = .returned (.bool (p c))∧w' = w))
    (hC : ∀ (args : Array Value) (w : World),(callFunc F args).run Tryz.prog w = .ok (.enter F args) w) (s : ByteArray) (a : Nat) (ha : a≤s.size) (hs : s.size≤6000) (w : World) :
    Calls Tryz.prog 114 #[.string s,.int .i64 (a : Int),.func (.func F) #[] #[]] w fun e w' => e = .returned (.int .i64 (spanL p s.data.toList a : Nat))∧w' = w:=by
  go_enter Tryz.func114,Tryz.ntmps114
  go_wp2
  go_loop [1] (fun i => ∃ k : Nat,k≤s.size∧i = .int .i64 k∧spanL p s.data.toList k = spanL p s.data.toList a) (fun i => s.size - (intOf i).toNat)
  case atStart => exact ⟨a,ha,rfl,rfl⟩
  case round =>
    obtain ⟨k,hk,rfl,hsp⟩:=hrel
    have HS:=hide hsp
    clear hsp
    by_cases hlt : k < s.size
    · go_wp2_with fail
      refine (hF.out _ _).mono ?_
      rintro e w' ⟨rfl,rfl⟩
      by_cases hp : p s[k] = true
      · go_wp2_with fail
        refine ⟨⟨k + 1,by omega,by go_num,?_⟩,by simp [intOf]; omega⟩
        rw [← HS.out]
        exact (spanL_step (by simpa using hlt) hp).symm
      · have hp' : p s[k] = false:=by simpa using hp
        go_wp2_with fail
        go_ret
        refine ⟨?_,rfl⟩
        have:=HS.out
        rw [spanL_stop (by simpa using hlt) hp'] at this
        simp [← this]
    · go_wp2_with fail
      go_ret
      have hke : k = s.size:=by omega
      refine ⟨?_,rfl⟩
      have:=HS.out
      rw [spanL_end (by simp; omega)] at this
      simp [← this]
def blank (c : UInt8) : Bool:=decide (c.toNat = 32∨c.toNat = 9∨c.toNat = 10)
def skipN : Bool→List UInt8→Nat
  | _,[] => 0
  | true,c :: l => 1 + skipN (noLf c) l
  | false,c :: l => if c.toNat = 35 then 1 + skipN true l else if blank c = true then 1 + skipN false l else 0
def skipL (note : Bool) (l : List UInt8) (i : Nat) : Nat:=i + skipN note (l.drop i)
theorem skipN_le (note : Bool) (l : List UInt8) : skipN note l≤l.length:=by
  induction l generalizing note with
  | nil => cases note <;> simp [skipN]
  | cons c l ih =>
    cases note with
    | true => simp only [skipN,List.length_cons]; have:=ih (noLf c); omega
    | false =>
      have h1:=ih true
      have h2:=ih false
      simp only [skipN,List.length_cons]
      split
      · omega
      · split <;> omega
theorem skipL_le {note : Bool} {l : List UInt8} {i : Nat} (h : i≤l.length) : skipL note l i≤l.length:=by
  have:=skipN_le note (l.drop i)
  simp only [List.length_drop] at this
  unfold skipL
  omega
theorem skipN_true (l : List UInt8) : skipN true l = (l.takeWhile noLf).length + skipN false (l.drop (l.takeWhile noLf).length):=by
  induction l with
  | nil => simp [skipN]
  | cons c l ih =>
    by_cases h : noLf c = true
    · rw [List.takeWhile_cons,if_pos h]
      simp only [skipN,h,List.length_cons,List.drop_succ_cons]
      omega
    · have h' : noLf c = false:=by simpa using h
      rw [List.takeWhile_cons,if_neg h]
      simp only [skipN,h',List.length_nil,List.drop_zero]
      have h10 : c.toNat = 10:=by simpa [noLf] using h
      rw [if_neg (by omega),if_pos (by simp [blank,h10])]
      omega
theorem skipL_blank {l : List UInt8} {i : Nat} (h : i < l.length) (h35 : ¬ l[i].toNat = 35) (hb : blank l[i] = true) : skipL false l i = skipL false l (i + 1):=by
  unfold skipL
  rw [List.drop_eq_getElem_cons h]
  simp only [skipN,h35,hb,if_true,if_false]
  omega
theorem skipL_note {l : List UInt8} {i : Nat} (h : i < l.length) (h35 : l[i].toNat = 35) : skipL false l i = skipL false l (spanL noLf l i):=by
  unfold skipL spanL
  have e : skipN false (l.drop i) = skipN true (l.drop i):=by
    rw [List.drop_eq_getElem_cons h]
    simp [skipN,h35,noLf]
  rw [e,skipN_true,List.drop_drop]
  omega
theorem skipL_stop {l : List UInt8} {i : Nat} (h : i < l.length) (h35 : ¬ l[i].toNat = 35) (hb : blank l[i] = false) : skipL false l i = i:=by
  unfold skipL
  rw [List.drop_eq_getElem_cons h]
  simp [skipN,h35,hb]
theorem skipL_end {note : Bool} {l : List UInt8} {i : Nat} (h : l.length≤i) : skipL note l i = i:=by
  unfold skipL
  rw [List.drop_of_length_le h]
  simp [skipN]
theorem spanL_gt {p : UInt8→Bool} {l : List UInt8} {i : Nat} (h : i < l.length) (hp : p l[i] = true) : i < spanL p l i:=by
  unfold spanL
  rw [List.drop_eq_getElem_cons h,List.takeWhile_cons,if_pos hp]
  simp
theorem spanL_le {p : UInt8→Bool} {l : List UInt8} {i : Nat} (h : i≤l.length) : spanL p l i≤l.length:=by
  unfold spanL
  have:=(List.takeWhile_sublist p (l:=l.drop i)).length_le
  simp only [List.length_drop] at this
  omega
theorem call27 (args : Array Value) (w : World) : (callFunc 115 args).run Tryz.prog w = .ok (.enter 115 args) w:=by simp [go_sem]
theorem call30 (args : Array Value) (w : World) : (callFunc 118 args).run Tryz.prog w = .ok (.enter 118 args) w:=by simp [go_sem]
theorem call35 (args : Array Value) (w : World) : (callFunc 141 args).run Tryz.prog w = .ok (.enter 141 args) w:=by simp [go_sem]
set_option maxHeartbeats 400000 in
theorem skip_any (s : ByteArray) (a : Nat) (ha : a≤s.size) (hs : s.size≤6000) (w : World) :
    Calls Tryz.prog 81 #[.string s,.int .i64 (a : Int)] w fun e w' => e = .returned (.int .i64 (skipL false s.data.toList a : Nat))∧w' = w:=by
  go_enter Tryz.func81,Tryz.ntmps81
  go_wp2
  go_loop [1] (fun i => ∃ k : Nat,k≤s.size∧i = .int .i64 k∧skipL false s.data.toList k = skipL false s.data.toList a) (fun i => s.size - (intOf i).toNat)
  case atStart => exact ⟨a,ha,rfl,rfl⟩
  case round =>
    obtain ⟨k,hk,rfl,hsp⟩:=hrel
    have HS:=hide hsp
    clear hsp
    by_cases hlt : k < s.size
    · have step : ¬ s[k].toNat = 35→blank s[k] = true→skipL false s.data.toList (k + 1) = skipL false s.data.toList a:=fun h35 hb => by
        rw [← HS.out]
        exact (skipL_blank (by simpa using hlt) h35 hb).symm
      have STEP:=hide step
      clear step
      by_cases h32 : s[k].toNat = 32
      · have b32 : ((s[k].toNat : Int) == 32) = true:=by simp; omega
        have H32:=hide h32
        clear h32
        go_wp2_with fail
        exact ⟨⟨k + 1,by omega,by go_num,STEP.out (by have:=H32.out; omega) (by simp [blank,H32.out])⟩,by simp [intOf]; omega⟩
      by_cases h9 : s[k].toNat = 9
      · have b9 : ((s[k].toNat : Int) == 9) = true:=by simp; omega
        have b32 : ((s[k].toNat : Int) == 32) = false:=by simp; omega
        have H9:=hide h9
        clear h9 h32
        go_wp2_with fail
        exact ⟨⟨k + 1,by omega,by go_num,STEP.out (by have:=H9.out; omega) (by simp [blank,H9.out])⟩,by simp [intOf]; omega⟩
      by_cases h10 : s[k].toNat = 10
      · have b10 : ((s[k].toNat : Int) == 10) = true:=by simp; omega
        have b32 : ((s[k].toNat : Int) == 32) = false:=by simp; omega
        have b9 : ((s[k].toNat : Int) == 9) = false:=by simp; omega
        have H10:=hide h10
        clear h9 h32 h10
        go_wp2_with fail
        exact ⟨⟨k + 1,by omega,by go_num,STEP.out (by have:=H10.out; omega) (by simp [blank,H10.out])⟩,by simp [intOf]; omega⟩
      have b32 : ((s[k].toNat : Int) == 32) = false:=by simp; omega
      have b9 : ((s[k].toNat : Int) == 9) = false:=by simp; omega
      have b10 : ((s[k].toNat : Int) == 10) = false:=by simp; omega
      have nb : blank s[k] = false:=by simp [blank]; omega
      have NB:=hide nb
      clear nb h32 h9
      by_cases h35 : s[k].toNat = 35
      · have b35 : ((s[k].toNat : Int) == 35) = true:=by simp; omega
        have hgt : k < spanL noLf s.data.toList k:=spanL_gt (by simpa using hlt) (by simp [noLf]; exact h10)
        have hle : spanL noLf s.data.toList k≤s.size:=by have:=spanL_le (p:=noLf) (l:=s.data.toList) (i:=k) (by simp; omega); simpa using this
        have e : skipL false s.data.toList (spanL noLf s.data.toList k) = skipL false s.data.toList a:=by
          rw [← HS.out]
          exact (skipL_note (by simpa using hlt) h35).symm
        have E:=hide e
        clear e h35 h10
        go_wp2_with fail
        refine (span_any 115 noLf (hide notLf_any) call27 s k hk hs _).mono ?_
        rintro e w' ⟨rfl,rfl⟩
        go_wp2_with fail
        exact ⟨⟨_,hle,rfl,E.out⟩,by simp [intOf]; omega⟩
      · have b35 : ((s[k].toNat : Int) == 35) = false:=by simp; omega
        have h35' : skipL false s.data.toList k = k:=skipL_stop (by simpa using hlt) h35 NB.out
        have H35:=hide h35'
        clear h35 h35' h10
        go_wp2_with fail
        go_ret
        refine ⟨?_,rfl⟩
        have:=HS.out
        rw [H35.out] at this
        simp [← this]
    · go_wp2_with fail
      go_ret
      refine ⟨?_,rfl⟩
      have:=HS.out
      rw [skipL_end (by simp; omega)] at this
      simp [← this]
end Go.Proofs.YtipngnjffjajpaaGreatDoor
namespace Go.Proofs.YtipngnjffjajpaaGreatDoor
open Go.RowKit
set_option linter.unusedVariables false
theorem bcell {W w1 : World} (hb : Below W.heap.size W w1) : (∀ b o,b < W.heap.size→w1.cell? ⟨b,o,none⟩ = W.cell? ⟨b,o,none⟩)∧(∀ b o,b < W.heap.size→w1.frozen? ⟨b,o,none⟩ = W.frozen? ⟨b,o,none⟩) :=
  ⟨fun b o h => hb.cell (p:=⟨b,o,none⟩) h,fun b o h => hb.frozen (p:=⟨b,o,none⟩) h⟩
theorem Tryz.info5 : (Tryz.prog.info? 5).map (fun i => (i.zero,i.size,i.bytes)) = some (some (.int .u8 0),1,1):=by kernel_rfl
set_option maxHeartbeats 400000 in
theorem clone_any (s : ByteArray) (w : World) (hlim : s.size≤6000) :
    Calls Tryz.prog 158 #[.string s] w fun e w' => e = .returned (.string s)∧Below w.heap.size w w':=by
  go_enter Tryz.func158,Tryz.ntmps158
  go_wp2_with fail
  refine (Tryz.stringslite_Clone s _ (by omega)).mono ?_
  rintro e w' ⟨rfl,hb⟩
  go_wp2_with fail
  go_ret
  exact ⟨rfl,hb⟩
set_option maxHeartbeats 400000 in
theorem cut_any (s : ByteArray) (k : Int) (a b : Nat) (hs : s.size≤6000) (hab : a≤b) (hb : b≤s.size) (w : World) :
    Calls Tryz.prog 142 #[.string s,.int .i64 k,.int .i64 (a : Int),.int .i64 (b : Int)] w fun e w' =>
      e = .returned (.agg #[.int .i64 k,.int .i64 (a : Int),.string (s.extract a b)])∧Below w.heap.size w w':=by
  go_enter Tryz.func142,Tryz.ntmps142
  go_wp2_with fail
  refine (clone_any (s.extract a b) _ (by simp; omega)).mono ?_
  rintro e w1 ⟨rfl,hb1⟩
  have hb1' : Below (w.heap.size + 1) (w.alloc (Obj.cells #[Value.int IntKind.i64 0,Value.int IntKind.i64 0,Value.string { data:=#[] }] 44)) w1:=by simpa using hb1
  obtain ⟨hc,hf⟩:=bcell hb1
  have hz : w.heap.size < w1.heap.size:=by have:=hb1.size; simp at this; omega
  go_wp2_with fail
  refine bodyPost_ret (v:=.agg #[.int .i64 k,.int .i64 (a : Int),.string (s.extract a b)]) (by simp [results,Tryz.results142,go_sem,hc]) rfl ⟨rfl,?_⟩
  have hb0 : Below w.heap.size w w1:=((Below.refl _ w).alloc (Nat.le_refl _) _).trans (hb1.mono (by simp))
  exact ((hb0.setCell (by simp) _).setCell (by simp) _).setCell (by simp) _
set_option maxHeartbeats 400000 in
theorem liteHasPrefix_any (s t : ByteArray) (hs : s.size≤6000) (ht : t.size≤6000) (w : World) :
    Calls Tryz.prog 159 #[.string s,.string t] w fun e w' => e = .returned (.bool (decide (t.size≤s.size) && ((s.extract 0 t.size).toList == t.toList)))∧w' = w:=by
  by_cases h : t.size≤s.size
  · go_enter Tryz.func159,Tryz.ntmps159
    go_wp2
    go_ret
    exact ⟨by simp [h],rfl⟩
  · go_enter Tryz.func159,Tryz.ntmps159
    go_wp2
    go_ret
    exact ⟨by simp [h],rfl⟩
set_option maxHeartbeats 400000 in
theorem hasPrefix_any (s t : ByteArray) (hs : s.size≤6000) (ht : t.size≤6000) (w : World) :
    Calls Tryz.prog 143 #[.string s,.string t] w fun e w' => e = .returned (.bool (decide (t.size≤s.size) && ((s.extract 0 t.size).toList == t.toList)))∧w' = w:=by
  go_enter Tryz.func143,Tryz.ntmps143
  go_wp2_with fail
  refine (liteHasPrefix_any s t hs ht _).mono ?_
  rintro e w' ⟨rfl,rfl⟩
  go_wp2_with fail
  go_ret
  exact ⟨rfl,rfl⟩
theorem Tryz.run44 (args : Array Value) (w : World) : (callFunc 171 args).run Tryz.prog w = ((Extern.BytealgIndexByte.indexByte args).run Tryz.prog w).andThen fun v w' => .ok (.value v) w' :=
  run_callFunc_indexByte Tryz.func171 (by kernel_rfl) (by kernel_rfl) (by kernel_rfl) (by kernel_rfl) args w
set_option maxHeartbeats 400000 in
theorem liteIndexByte_any (s : ByteArray) (c : UInt8) (w : World) :
    Calls Tryz.prog 160 #[.string s,.int .u8 (c.toNat : Int)] w fun e w' => e = .returned (.int .i64 (Lib.indexByte s.data.toList c))∧w' = w:=by
  have h44 : ∀ w,(callFunc 171 #[.string s,.int .u8 (c.toNat : Int)]).run Tryz.prog w = .ok (.value (.int .i64 (Lib.indexByte s.data.toList c))) w:=fun w => by
    rw [Tryz.run44,Lib.run_indexByteString]
    simp [Result.andThen]
  go_enter Tryz.func160,Tryz.ntmps160
  go_wp2
  go_ret
  exact ⟨rfl,rfl⟩
set_option maxHeartbeats 400000 in
theorem indexByte_any (s : ByteArray) (c : UInt8) (w : World) :
    Calls Tryz.prog 144 #[.string s,.int .u8 (c.toNat : Int)] w fun e w' => e = .returned (.int .i64 (Lib.indexByte s.data.toList c))∧w' = w:=by
  go_enter Tryz.func144,Tryz.ntmps144
  go_wp2_with fail
  refine (liteIndexByte_any s c _).mono ?_
  rintro e w' ⟨rfl,rfl⟩
  go_wp2_with fail
  go_ret
  exact ⟨rfl,rfl⟩
/-- what a panic of a place lays: where, and why. -/
def gaveUp (a e : Int) : Ending:=.panicked [{ v:=.iface 116 (.agg #[.int .i64 a,.int .i64 e]),recovered:=false }]
def tokVal (k a : Int) (t : ByteArray) : Value:=.agg #[.int .i64 k,.int .i64 a,.string t]
set_option maxHeartbeats 400000 in
theorem name_ok (s : ByteArray) (a : Nat) (ha : a≤s.size) (hs : s.size≤6000) (h : spanL isN s.data.toList a - a≤12) (w : World) :
    Calls Tryz.prog 117 #[.string s,.int .i64 (a : Int)] w fun e w' => e = .returned (tokVal 1 a (s.extract a (spanL isN s.data.toList a)))∧Below w.heap.size w w':=by
  have hle : spanL isN s.data.toList a≤s.size:=by have:=spanL_le (p:=isN) (l:=s.data.toList) (i:=a) (by simpa using ha); simpa using this
  have hge : a≤spanL isN s.data.toList a:=by unfold spanL; omega
  obtain ⟨b,hb⟩ : ∃ b,b = spanL isN s.data.toList a:=⟨_,rfl⟩
  rw [← hb] at h hle hge ⊢
  have hsp:=span_any 141 isN (hide nameGoes_any) call35 s a ha hs
  rw [← hb] at hsp
  have HSP:=hide hsp
  clear hb hsp
  go_enter Tryz.func117,Tryz.ntmps117
  go_wp2_with fail
  refine (HSP.out _).mono ?_
  rintro e w' ⟨rfl,rfl⟩
  go_wp2_with fail
  refine (cut_any s 1 a b hs hge hle _).mono ?_
  rintro e w1 ⟨rfl,hb1⟩
  obtain ⟨hc,hf⟩:=bcell hb1
  have hz : w.heap.size < w1.heap.size:=by have:=hb1.size; simp at this; omega
  go_wp2_with fail
  refine bodyPost_ret (v:=tokVal 1 a (s.extract a b)) (by simp [tokVal,results,Tryz.results117,go_sem,hc]) rfl ⟨rfl,?_⟩
  have hb0 : Below w.heap.size w w1:=((Below.refl _ w).alloc (Nat.le_refl _) _).trans (hb1.mono (by simp))
  exact ((hb0.setCell (by simp) _).setCell (by simp) _).setCell (by simp) _
set_option maxHeartbeats 400000 in
theorem name_bad (s : ByteArray) (a : Nat) (ha : a≤s.size) (hs : s.size≤6000) (h : 12 < spanL isN s.data.toList a - a) (w : World) :
    Calls Tryz.prog 117 #[.string s,.int .i64 (a : Int)] w fun e w' => e = gaveUp a 2∧Below w.heap.size w w':=by
  have hle : spanL isN s.data.toList a≤s.size:=by have:=spanL_le (p:=isN) (l:=s.data.toList) (i:=a) (by simpa using ha); simpa using this
  have hge : a≤spanL isN s.data.toList a:=by unfold spanL; omega
  obtain ⟨b,hb⟩ : ∃ b,b = spanL isN s.data.toList a:=⟨_,rfl⟩
  rw [← hb] at h hle hge
  have hsp:=span_any 141 isN (hide nameGoes_any) call35 s a ha hs
  rw [← hb] at hsp
  have HSP:=hide hsp
  clear hb hsp
  go_enter Tryz.func117,Tryz.ntmps117
  go_wp2_with fail
  refine (HSP.out _).mono ?_
  rintro e w' ⟨rfl,rfl⟩
  go_wp2_with fail
  exact ⟨rfl,rfl,(Below.refl _ w).alloc (Nat.le_refl _) _⟩
set_option maxHeartbeats 400000 in
theorem number_ok (s : ByteArray) (a : Nat) (ha : a < s.size) (hs : s.size≤6000) (h : spanL isD s.data.toList a - a≤7) (h2 : s[a].toNat = 48→spanL isD s.data.toList a - a≤1) (w : World) :
    Calls Tryz.prog 119 #[.string s,.int .i64 (a : Int)] w fun e w' => e = .returned (tokVal 2 a (s.extract a (spanL isD s.data.toList a)))∧Below w.heap.size w w':=by
  have hle : spanL isD s.data.toList a≤s.size:=by have:=spanL_le (p:=isD) (l:=s.data.toList) (i:=a) (by simp; omega); simpa using this
  have hge : a≤spanL isD s.data.toList a:=by unfold spanL; omega
  obtain ⟨b,hb⟩ : ∃ b,b = spanL isD s.data.toList a:=⟨_,rfl⟩
  rw [← hb] at h h2 hle hge ⊢
  have hsp:=span_any 118 isD (hide isDigit_any) call30 s a (by omega) hs
  rw [← hb] at hsp
  have HSP:=hide hsp
  clear hb hsp
  by_cases h48 : s[a].toNat = 48
  · have b48 : ((s[a].toNat : Int) == 48) = true:=by simp; omega
    have h1:=h2 h48
    clear h2 h48
    go_enter Tryz.func119,Tryz.ntmps119
    go_wp2_with fail
    refine (HSP.out _).mono ?_
    rintro e w' ⟨rfl,rfl⟩
    go_wp2_with fail
    refine (cut_any s 2 a b hs hge hle _).mono ?_
    rintro e w1 ⟨rfl,hb1⟩
    obtain ⟨hc,hf⟩:=bcell hb1
    have hz : w.heap.size < w1.heap.size:=by have:=hb1.size; simp at this; omega
    go_wp2_with fail
    refine bodyPost_ret (v:=tokVal 2 a (s.extract a b)) (by simp [tokVal,results,Tryz.results119,go_sem,hc]) rfl ⟨rfl,?_⟩
    have hb0 : Below w.heap.size w w1:=((Below.refl _ w).alloc (Nat.le_refl _) _).trans (hb1.mono (by simp))
    exact ((hb0.setCell (by simp) _).setCell (by simp) _).setCell (by simp) _
  · have b48 : ((s[a].toNat : Int) == 48) = false:=by simp; omega
    clear h2 h48
    go_enter Tryz.func119,Tryz.ntmps119
    go_wp2_with fail
    refine (HSP.out _).mono ?_
    rintro e w' ⟨rfl,rfl⟩
    go_wp2_with fail
    refine (cut_any s 2 a b hs hge hle _).mono ?_
    rintro e w1 ⟨rfl,hb1⟩
    obtain ⟨hc,hf⟩:=bcell hb1
    have hz : w.heap.size < w1.heap.size:=by have:=hb1.size; simp at this; omega
    go_wp2_with fail
    refine bodyPost_ret (v:=tokVal 2 a (s.extract a b)) (by simp [tokVal,results,Tryz.results119,go_sem,hc]) rfl ⟨rfl,?_⟩
    have hb0 : Below w.heap.size w w1:=((Below.refl _ w).alloc (Nat.le_refl _) _).trans (hb1.mono (by simp))
    exact ((hb0.setCell (by simp) _).setCell (by simp) _).setCell (by simp) _
set_option maxHeartbeats 400000 in
theorem number_long (s : ByteArray) (a : Nat) (ha : a < s.size) (hs : s.size≤6000) (h : 7 < spanL isD s.data.toList a - a) (w : World) :
    Calls Tryz.prog 119 #[.string s,.int .i64 (a : Int)] w fun e w' => e = gaveUp a 2∧Below w.heap.size w w':=by
  have hle : spanL isD s.data.toList a≤s.size:=by have:=spanL_le (p:=isD) (l:=s.data.toList) (i:=a) (by simp; omega); simpa using this
  have hge : a≤spanL isD s.data.toList a:=by unfold spanL; omega
  obtain ⟨b,hb⟩ : ∃ b,b = spanL isD s.data.toList a:=⟨_,rfl⟩
  rw [← hb] at h hle hge
  have hsp:=span_any 118 isD (hide isDigit_any) call30 s a (by omega) hs
  rw [← hb] at hsp
  have HSP:=hide hsp
  clear hb hsp
  go_enter Tryz.func119,Tryz.ntmps119
  go_wp2_with fail
  refine (HSP.out _).mono ?_
  rintro e w' ⟨rfl,rfl⟩
  go_wp2_with fail
  exact ⟨rfl,rfl,(Below.refl _ w).alloc (Nat.le_refl _) _⟩
set_option maxHeartbeats 400000 in
theorem number_nought (s : ByteArray) (a : Nat) (ha : a < s.size) (hs : s.size≤6000) (h : spanL isD s.data.toList a - a≤7) (h1 : 1 < spanL isD s.data.toList a - a) (h48 : s[a].toNat = 48) (w : World) :
    Calls Tryz.prog 119 #[.string s,.int .i64 (a : Int)] w fun e w' => e = gaveUp a 1∧Below w.heap.size w w':=by
  have hle : spanL isD s.data.toList a≤s.size:=by have:=spanL_le (p:=isD) (l:=s.data.toList) (i:=a) (by simp; omega); simpa using this
  have hge : a≤spanL isD s.data.toList a:=by unfold spanL; omega
  obtain ⟨b,hb⟩ : ∃ b,b = spanL isD s.data.toList a:=⟨_,rfl⟩
  rw [← hb] at h h1 hle hge
  have hsp:=span_any 118 isD (hide isDigit_any) call30 s a (by omega) hs
  rw [← hb] at hsp
  have HSP:=hide hsp
  have b48 : ((s[a].toNat : Int) == 48) = true:=by simp; omega
  clear hb hsp h48
  go_enter Tryz.func119,Tryz.ntmps119
  go_wp2_with fail
  refine (HSP.out _).mono ?_
  rintro e w' ⟨rfl,rfl⟩
  go_wp2_with fail
  exact ⟨rfl,rfl,(Below.refl _ w).alloc (Nat.le_refl _) _⟩
def eqeq : ByteArray:=⟨#[61,61]⟩
def signsB : ByteArray:=⟨#[123,125,40,41,59,58,33,44,61,43,45,42,60]⟩
def hasEq (s : ByteArray) (a : Nat) : Bool:=decide (eqeq.size≤(s.extract a s.size).size) && (((s.extract a s.size).extract 0 eqeq.size).toList == eqeq.toList)
def isS (c : UInt8) : Bool:=decide (0≤Lib.indexByte signsB.data.toList c)
theorem hasEq_two {s : ByteArray} {a : Nat} (h : hasEq s a = true) : a + 2≤s.size:=by
  simp only [hasEq,Bool.and_eq_true,decide_eq_true_eq] at h
  have h1:=h.1
  simp [eqeq] at h1
  have : (ByteArray.mk #[61,61]).size = 2:=rfl
  omega
set_option maxHeartbeats 400000 in
theorem sign_two (s : ByteArray) (a : Nat) (ha : a < s.size) (hs : s.size≤6000) (h : hasEq s a = true) (w : World) :
    Calls Tryz.prog 120 #[.string s,.int .i64 (a : Int)] w fun e w' => e = .returned (tokVal 3 a (s.extract a (a + 2)))∧Below w.heap.size w w':=by
  have h2:=hasEq_two h
  have hp:=hasPrefix_any (s.extract a s.size) eqeq (by simp; omega) (by decide)
  have e : (decide (eqeq.size≤(s.extract a s.size).size) && (((s.extract a s.size).extract 0 eqeq.size).toList == eqeq.toList)) = true:=h
  rw [e] at hp
  unfold eqeq at hp
  have HP:=hide hp
  clear hp e h
  go_enter Tryz.func120,Tryz.ntmps120
  go_wp2_with fail
  refine (HP.out _).mono ?_
  rintro e w' ⟨rfl,rfl⟩
  go_wp2_with fail
  refine (cut_any s 3 a (a + 2) hs (by omega) h2 _).mono ?_
  rintro e w1 ⟨rfl,hb1⟩
  obtain ⟨hc,hf⟩:=bcell hb1
  have hz : w.heap.size < w1.heap.size:=by have:=hb1.size; simp at this; omega
  go_wp2_with fail
  refine bodyPost_ret (v:=tokVal 3 a (s.extract a (a + 2))) (by simp [tokVal,results,Tryz.results120,go_sem,hc]) rfl ⟨rfl,?_⟩
  have hb0 : Below w.heap.size w w1:=((Below.refl _ w).alloc (Nat.le_refl _) _).trans (hb1.mono (by simp))
  exact ((hb0.setCell (by simp) _).setCell (by simp) _).setCell (by simp) _
set_option maxHeartbeats 400000 in
theorem sign_one (s : ByteArray) (a : Nat) (ha : a < s.size) (hs : s.size≤6000) (h : hasEq s a = false) (hS : isS s[a] = true) (w : World) :
    Calls Tryz.prog 120 #[.string s,.int .i64 (a : Int)] w fun e w' => e = .returned (tokVal 3 a (s.extract a (a + 1)))∧Below w.heap.size w w':=by
  have hp:=hasPrefix_any (s.extract a s.size) eqeq (by simp; omega) (by decide)
  have e : (decide (eqeq.size≤(s.extract a s.size).size) && (((s.extract a s.size).extract 0 eqeq.size).toList == eqeq.toList)) = false:=h
  rw [e] at hp
  unfold eqeq at hp
  have HP:=hide hp
  have hi:=indexByte_any signsB s[a]
  obtain ⟨q,hq⟩ : ∃ q,q = Lib.indexByte signsB.data.toList s[a]:=⟨_,rfl⟩
  rw [← hq] at hi
  have hq0 : 0≤q:=by rw [hq]; simpa [isS] using hS
  unfold signsB at hi
  have HI:=hide hi
  clear hp e h hi hq hS
  go_enter Tryz.func120,Tryz.ntmps120
  go_wp2_with fail
  refine (HP.out _).mono ?_
  rintro e w' ⟨rfl,rfl⟩
  go_wp2_with fail
  refine (HI.out _).mono ?_
  rintro e w' ⟨rfl,rfl⟩
  go_wp2_with fail
  refine (cut_any s 3 a (a + 1) hs (by omega) (by omega) _).mono ?_
  rintro e w1 ⟨rfl,hb1⟩
  obtain ⟨hc,hf⟩:=bcell hb1
  have hz : w.heap.size < w1.heap.size:=by have:=hb1.size; simp at this; omega
  go_wp2_with fail
  refine bodyPost_ret (v:=tokVal 3 a (s.extract a (a + 1))) (by simp [tokVal,results,Tryz.results120,go_sem,hc]) rfl ⟨rfl,?_⟩
  have hb0 : Below w.heap.size w w1:=((Below.refl _ w).alloc (Nat.le_refl _) _).trans (hb1.mono (by simp))
  exact ((hb0.setCell (by simp) _).setCell (by simp) _).setCell (by simp) _
set_option maxHeartbeats 400000 in
theorem sign_none (s : ByteArray) (a : Nat) (ha : a < s.size) (hs : s.size≤6000) (h : hasEq s a = false) (hS : isS s[a] = false) (w : World) :
    Calls Tryz.prog 120 #[.string s,.int .i64 (a : Int)] w fun e w' => e = gaveUp a 1∧Below w.heap.size w w':=by
  have hp:=hasPrefix_any (s.extract a s.size) eqeq (by simp; omega) (by decide)
  have e : (decide (eqeq.size≤(s.extract a s.size).size) && (((s.extract a s.size).extract 0 eqeq.size).toList == eqeq.toList)) = false:=h
  rw [e] at hp
  unfold eqeq at hp
  have HP:=hide hp
  have hi:=indexByte_any signsB s[a]
  obtain ⟨q,hq⟩ : ∃ q,q = Lib.indexByte signsB.data.toList s[a]:=⟨_,rfl⟩
  rw [← hq] at hi
  have hq0 : q < 0:=by rw [hq]; simpa [isS] using hS
  unfold signsB at hi
  have HI:=hide hi
  clear hp e h hi hq hS
  go_enter Tryz.func120,Tryz.ntmps120
  go_wp2_with fail
  refine (HP.out _).mono ?_
  rintro e w' ⟨rfl,rfl⟩
  go_wp2_with fail
  refine (HI.out _).mono ?_
  rintro e w' ⟨rfl,rfl⟩
  go_wp2_with fail
  exact ⟨rfl,rfl,(Below.refl _ w).alloc (Nat.le_refl _) _⟩
def hasEqL (s : ByteArray) (a : Nat) : Bool:=(s.data.toList.drop a).take 2 == [61,61]
theorem hasEq_eq (s : ByteArray) (a : Nat) : hasEq s a = hasEqL s a:=by
  have h1 : (s.extract a s.size).data.toList = s.data.toList.drop a:=by
    rw [Lib.extract_data,List.take_of_length_le]
    rw [List.length_drop,Array.length_toList]
    exact Nat.le_refl _
  have h2 : eqeq.size = 2:=rfl
  have h3 : eqeq.toList = [61,61]:=by rw [ByteArray.toList_eq]; rfl
  have h4 : ((s.extract a s.size).extract 0 2).toList = (s.data.toList.drop a).take 2:=by rw [Lib.extract_toList,h1]; rfl
  have h5 : (s.extract a s.size).size = (s.data.toList.drop a).length:=by rw [← h1]; rfl
  simp only [hasEq,hasEqL,h2,h3,h4,h5]
  by_cases h : (List.take 2 (List.drop a s.data.toList) == [61,61]) = true
  · have h':=beq_iff_eq.1 h
    have hl:=congrArg List.length h'
    rw [List.length_take] at hl
    simp only [List.length_cons,List.length_nil] at hl
    rw [h]
    simp
    simp at hl
    omega
  · have h' : (List.take 2 (List.drop a s.data.toList) == [61,61]) = false:=by simpa using h
    rw [h']
    simp
/-- the kind of the token that begins at a place, and where it ends; 0: none does. -/
def tokKN (s : ByteArray) (i : Nat) : Nat × Nat :=
  if h : i < s.size then
    if isL s[i] = true then (1,spanL isN s.data.toList i)
    else if isD s[i] = true then (2,spanL isD s.data.toList i)
    else if hasEqL s i = true then (3,i + 2)
    else if isS s[i] = true then (3,i + 1)
    else (0,i)
  else (0,i)
/-- why it is none; 0: it is one. -/
def tokErr (s : ByteArray) (i : Nat) : Nat :=
  if (tokKN s i).1 = 0 then 1
  else if (tokKN s i).1 = 1∧12 < (tokKN s i).2 - i∨(tokKN s i).1 = 2∧7 < (tokKN s i).2 - i then 2
  else if (tokKN s i).1 = 2∧1 < (tokKN s i).2 - i∧s.data.toList[i]? = some 48 then 1
  else 0
def nextSaid (s : ByteArray) (a : Nat) : Ending :=
  if tokErr s a = 0 then .returned (tokVal (tokKN s a).1 a (s.extract a (tokKN s a).2)) else gaveUp a (tokErr s a)
theorem byte_eq_iff (c d : UInt8) : c = d↔c.toNat = d.toNat:=by
  constructor
  · intro h; rw [h]
  · intro h; exact UInt8.toNat_inj.1 h
theorem getQ {s : ByteArray} {a : Nat} (ha : a < s.size) : s.data.toList[a]? = some s[a]:=by
  rw [List.getElem?_eq_getElem (by simpa using ha)]
  rfl
set_option maxHeartbeats 400000 in
theorem next_name_ok (s : ByteArray) (a : Nat) (ha : a < s.size) (x : ByteArray) (hL : isL s[a] = true)
    (HN : Hid (∀ w,Calls Tryz.prog 117 #[.string s,.int .i64 (a : Int)] w fun e w' => e = .returned (tokVal 1 a x)∧Below w.heap.size w w')) (w : World) :
    Calls Tryz.prog 82 #[.string s,.int .i64 (a : Int)] w fun e w' => e = .returned (tokVal 1 a x)∧Below w.heap.size w w':=by
  have hl:=isLetter_any s[a]
  rw [hL] at hl
  have HL:=hide hl
  clear hl hL
  go_enter Tryz.func82,Tryz.ntmps82
  go_wp2_with fail
  refine (HL.out _).mono ?_
  rintro e w' ⟨rfl,rfl⟩
  go_wp2_with fail
  refine (HN.out _).mono ?_
  rintro e w1 ⟨rfl,hb1⟩
  unfold tokVal
  obtain ⟨hc,hf⟩:=bcell hb1
  have hz : w.heap.size < w1.heap.size:=by have:=hb1.size; simp at this; omega
  go_wp2_with fail
  refine bodyPost_ret (v:=tokVal 1 a x) (by simp [tokVal,results,Tryz.results82,go_sem,hc]) rfl ⟨rfl,?_⟩
  have hb0 : Below w.heap.size w w1:=((Below.refl _ w).alloc (Nat.le_refl _) _).trans (hb1.mono (by simp))
  exact ((hb0.setCell (by simp) _).setCell (by simp) _).setCell (by simp) _
set_option maxHeartbeats 400000 in
theorem next_name_bad (s : ByteArray) (a : Nat) (ha : a < s.size) (x : Int) (hL : isL s[a] = true)
    (HN : Hid (∀ w,Calls Tryz.prog 117 #[.string s,.int .i64 (a : Int)] w fun e w' => e = gaveUp a x∧Below w.heap.size w w')) (w : World) :
    Calls Tryz.prog 82 #[.string s,.int .i64 (a : Int)] w fun e w' => e = gaveUp a x∧Below w.heap.size w w':=by
  have hl:=isLetter_any s[a]
  rw [hL] at hl
  have HL:=hide hl
  clear hl hL
  go_enter Tryz.func82,Tryz.ntmps82
  go_wp2_with fail
  refine (HL.out _).mono ?_
  rintro e w' ⟨rfl,rfl⟩
  go_wp2_with fail
  refine (HN.out _).mono ?_
  rintro e w1 ⟨rfl,hb1⟩
  have hb0 : Below w.heap.size w w1:=((Below.refl _ w).alloc (Nat.le_refl _) _).trans (hb1.mono (by simp))
  unfold gaveUp
  go_wp2_with fail
  exact ⟨rfl,rfl,hb0⟩
set_option maxHeartbeats 400000 in
theorem next_number_ok (s : ByteArray) (a : Nat) (ha : a < s.size) (x : ByteArray) (hL : isL s[a] = false) (hD : isD s[a] = true)
    (HN : Hid (∀ w,Calls Tryz.prog 119 #[.string s,.int .i64 (a : Int)] w fun e w' => e = .returned (tokVal 2 a x)∧Below w.heap.size w w')) (w : World) :
    Calls Tryz.prog 82 #[.string s,.int .i64 (a : Int)] w fun e w' => e = .returned (tokVal 2 a x)∧Below w.heap.size w w':=by
  have hl:=isLetter_any s[a]
  rw [hL] at hl
  have HL:=hide hl
  clear hl hL
  have hd:=isDigit_any s[a]
  rw [hD] at hd
  have HD:=hide hd
  clear hd hD
  go_enter Tryz.func82,Tryz.ntmps82
  go_wp2_with fail
  refine (HL.out _).mono ?_
  rintro e w' ⟨rfl,rfl⟩
  go_wp2_with fail
  refine (HD.out _).mono ?_
  rintro e w' ⟨rfl,rfl⟩
  go_wp2_with fail
  refine (HN.out _).mono ?_
  rintro e w1 ⟨rfl,hb1⟩
  unfold tokVal
  obtain ⟨hc,hf⟩:=bcell hb1
  have hz : w.heap.size < w1.heap.size:=by have:=hb1.size; simp at this; omega
  go_wp2_with fail
  refine bodyPost_ret (v:=tokVal 2 a x) (by simp [tokVal,results,Tryz.results82,go_sem,hc]) rfl ⟨rfl,?_⟩
  have hb0 : Below w.heap.size w w1:=((Below.refl _ w).alloc (Nat.le_refl _) _).trans (hb1.mono (by simp))
  exact ((hb0.setCell (by simp) _).setCell (by simp) _).setCell (by simp) _
set_option maxHeartbeats 400000 in
theorem next_number_bad (s : ByteArray) (a : Nat) (ha : a < s.size) (x : Int) (hL : isL s[a] = false) (hD : isD s[a] = true)
    (HN : Hid (∀ w,Calls Tryz.prog 119 #[.string s,.int .i64 (a : Int)] w fun e w' => e = gaveUp a x∧Below w.heap.size w w')) (w : World) :
    Calls Tryz.prog 82 #[.string s,.int .i64 (a : Int)] w fun e w' => e = gaveUp a x∧Below w.heap.size w w':=by
  have hl:=isLetter_any s[a]
  rw [hL] at hl
  have HL:=hide hl
  clear hl hL
  have hd:=isDigit_any s[a]
  rw [hD] at hd
  have HD:=hide hd
  clear hd hD
  go_enter Tryz.func82,Tryz.ntmps82
  go_wp2_with fail
  refine (HL.out _).mono ?_
  rintro e w' ⟨rfl,rfl⟩
  go_wp2_with fail
  refine (HD.out _).mono ?_
  rintro e w' ⟨rfl,rfl⟩
  go_wp2_with fail
  refine (HN.out _).mono ?_
  rintro e w1 ⟨rfl,hb1⟩
  have hb0 : Below w.heap.size w w1:=((Below.refl _ w).alloc (Nat.le_refl _) _).trans (hb1.mono (by simp))
  unfold gaveUp
  go_wp2_with fail
  exact ⟨rfl,rfl,hb0⟩
set_option maxHeartbeats 400000 in
theorem next_sign_ok (s : ByteArray) (a : Nat) (ha : a < s.size) (x : ByteArray) (hL : isL s[a] = false) (hD : isD s[a] = false)
    (HN : Hid (∀ w,Calls Tryz.prog 120 #[.string s,.int .i64 (a : Int)] w fun e w' => e = .returned (tokVal 3 a x)∧Below w.heap.size w w')) (w : World) :
    Calls Tryz.prog 82 #[.string s,.int .i64 (a : Int)] w fun e w' => e = .returned (tokVal 3 a x)∧Below w.heap.size w w':=by
  have hl:=isLetter_any s[a]
  rw [hL] at hl
  have HL:=hide hl
  clear hl hL
  have hd:=isDigit_any s[a]
  rw [hD] at hd
  have HD:=hide hd
  clear hd hD
  go_enter Tryz.func82,Tryz.ntmps82
  go_wp2_with fail
  refine (HL.out _).mono ?_
  rintro e w' ⟨rfl,rfl⟩
  go_wp2_with fail
  refine (HD.out _).mono ?_
  rintro e w' ⟨rfl,rfl⟩
  go_wp2_with fail
  refine (HN.out _).mono ?_
  rintro e w1 ⟨rfl,hb1⟩
  unfold tokVal
  obtain ⟨hc,hf⟩:=bcell hb1
  have hz : w.heap.size < w1.heap.size:=by have:=hb1.size; simp at this; omega
  go_wp2_with fail
  refine bodyPost_ret (v:=tokVal 3 a x) (by simp [tokVal,results,Tryz.results82,go_sem,hc]) rfl ⟨rfl,?_⟩
  have hb0 : Below w.heap.size w w1:=((Below.refl _ w).alloc (Nat.le_refl _) _).trans (hb1.mono (by simp))
  exact ((hb0.setCell (by simp) _).setCell (by simp) _).setCell (by simp) _
set_option maxHeartbeats 400000 in
theorem next_sign_bad (s : ByteArray) (a : Nat) (ha : a < s.size) (x : Int) (hL : isL s[a] = false) (hD : isD s[a] = false)
    (HN : Hid (∀ w,Calls Tryz.prog 120 #[.string s,.int .i64 (a : Int)] w fun e w' => e = gaveUp a x∧Below w.heap.size w w')) (w : World) :
    Calls Tryz.prog 82 #[.string s,.int .i64 (a : Int)] w fun e w' => e = gaveUp a x∧Below w.heap.size w w':=by
  have hl:=isLetter_any s[a]
  rw [hL] at hl
  have HL:=hide hl
  clear hl hL
  have hd:=isDigit_any s[a]
  rw [hD] at hd
  have HD:=hide hd
  clear hd hD
  go_enter Tryz.func82,Tryz.ntmps82
  go_wp2_with fail
  refine (HL.out _).mono ?_
  rintro e w' ⟨rfl,rfl⟩
  go_wp2_with fail
  refine (HD.out _).mono ?_
  rintro e w' ⟨rfl,rfl⟩
  go_wp2_with fail
  refine (HN.out _).mono ?_
  rintro e w1 ⟨rfl,hb1⟩
  have hb0 : Below w.heap.size w w1:=((Below.refl _ w).alloc (Nat.le_refl _) _).trans (hb1.mono (by simp))
  unfold gaveUp
  go_wp2_with fail
  exact ⟨rfl,rfl,hb0⟩
theorem next_any (s : ByteArray) (a : Nat) (ha : a < s.size) (hs : s.size≤6000) (w : World) :
    Calls Tryz.prog 82 #[.string s,.int .i64 (a : Int)] w fun e w' => e = nextSaid s a∧Below w.heap.size w w':=by
  by_cases hL : isL s[a] = true
  · have hk : tokKN s a = (1,spanL isN s.data.toList a):=by simp [tokKN,ha,hL]
    by_cases h12 : spanL isN s.data.toList a - a≤12
    · have hN : nextSaid s a = .returned (tokVal 1 a (s.extract a (spanL isN s.data.toList a))):=by
        have : tokErr s a = 0:=by simp [tokErr,hk]; omega
        simp [nextSaid,this,hk]
      rw [hN]
      exact next_name_ok s a ha _ hL (hide (name_ok s a (by omega) hs h12)) w
    · have hN : nextSaid s a = gaveUp a 2:=by
        have : tokErr s a = 2:=by simp [tokErr,hk]; omega
        simp [nextSaid,this]
      rw [hN]
      exact next_name_bad s a ha _ hL (hide (name_bad s a (by omega) hs (by omega))) w
  have hL' : isL s[a] = false:=by simpa using hL
  by_cases hD : isD s[a] = true
  · have hk : tokKN s a = (2,spanL isD s.data.toList a):=by simp [tokKN,ha,hL',hD]
    by_cases h7 : spanL isD s.data.toList a - a≤7
    · by_cases h48 : s[a].toNat = 48∧1 < spanL isD s.data.toList a - a
      · have hN : nextSaid s a = gaveUp a 1:=by
          have h48' : s[a] = 48:=(byte_eq_iff _ _).2 h48.1
          have : tokErr s a = 1:=by
            simp only [tokErr,hk,getQ ha,h48']
            rw [if_neg (by omega),if_neg (by omega),if_pos ⟨trivial,h48.2,trivial⟩]
          simp [nextSaid,this]
        rw [hN]
        exact next_number_bad s a ha _ hL' hD (hide (number_nought s a ha hs h7 h48.2 h48.1)) w
      · have hN : nextSaid s a = .returned (tokVal 2 a (s.extract a (spanL isD s.data.toList a))):=by
          have : tokErr s a = 0:=by
            simp only [tokErr,hk,getQ ha]
            rw [if_neg (by omega),if_neg (by omega),if_neg]
            rintro ⟨_,h1,h2⟩
            exact h48 ⟨(byte_eq_iff _ _).1 (Option.some.inj h2),h1⟩
          simp [nextSaid,this,hk]
        rw [hN]
        exact next_number_ok s a ha _ hL' hD (hide (number_ok s a ha hs h7 (fun h => by omega))) w
    · have hN : nextSaid s a = gaveUp a 2:=by
        have : tokErr s a = 2:=by simp [tokErr,hk]; omega
        simp [nextSaid,this]
      rw [hN]
      exact next_number_bad s a ha _ hL' hD (hide (number_long s a ha hs (by omega))) w
  have hD' : isD s[a] = false:=by simpa using hD
  by_cases hE : hasEqL s a = true
  · have hk : tokKN s a = (3,a + 2):=by simp [tokKN,ha,hL',hD',hE]
    have hN : nextSaid s a = .returned (tokVal 3 a (s.extract a (a + 2))):=by
      have : tokErr s a = 0:=by simp [tokErr,hk]
      simp [nextSaid,this,hk]
    rw [hN]
    exact next_sign_ok s a ha _ hL' hD' (hide (sign_two s a ha hs (by rw [hasEq_eq]; exact hE))) w
  have hE' : hasEqL s a = false:=by simpa using hE
  by_cases hS : isS s[a] = true
  · have hk : tokKN s a = (3,a + 1):=by simp [tokKN,ha,hL',hD',hE',hS]
    have hN : nextSaid s a = .returned (tokVal 3 a (s.extract a (a + 1))):=by
      have : tokErr s a = 0:=by simp [tokErr,hk]
      simp [nextSaid,this,hk]
    rw [hN]
    exact next_sign_ok s a ha _ hL' hD' (hide (sign_one s a ha hs (by rw [hasEq_eq]; exact hE') hS)) w
  have hS' : isS s[a] = false:=by simpa using hS
  have hk : tokKN s a = (0,a):=by simp [tokKN,ha,hL',hD',hE',hS']
  have hN : nextSaid s a = gaveUp a 1:=by
    have : tokErr s a = 1:=by simp [tokErr,hk]
    simp [nextSaid,this]
  rw [hN]
  exact next_sign_bad s a ha _ hL' hD' (hide (sign_none s a ha hs (by rw [hasEq_eq]; exact hE') hS')) w
structure Tok where
  kind : Int
  pos : Int
  text : ByteArray
def tokCells (t : Tok) : List Value:=[.int .i64 t.kind,.int .i64 t.pos,.string t.text]
def toksCells (ts : List Tok) : List Value:=ts.flatMap tokCells
theorem toksCells_snoc (ts : List Tok) (t : Tok) : toksCells (ts ++ [t]) = toksCells ts ++ tokCells t:=by simp [toksCells]
def tokAt (s : ByteArray) (j : Nat) : Tok:=⟨(tokKN s j).1,j,s.extract j (tokKN s j).2⟩
def scanF (s : ByteArray) : Nat→Bool→Nat→Sum (List Tok) (Nat × Nat)
  | 0,_,_ => .inl []
  | f + 1,note,i =>
    if skipL note s.data.toList i < s.size then
      if tokErr s (skipL note s.data.toList i) = 0 then
        match scanF s f false (tokKN s (skipL note s.data.toList i)).2 with
        | .inl ts => .inl (tokAt s (skipL note s.data.toList i) :: ts)
        | .inr x => .inr x
      else .inr (skipL note s.data.toList i,tokErr s (skipL note s.data.toList i))
    else .inl []
def pre (ts : List Tok) : Sum (List Tok) (Nat × Nat)→Sum (List Tok) (Nat × Nat)
  | .inl us => .inl (ts ++ us)
  | .inr x => .inr x
theorem pre_nil (r : Sum (List Tok) (Nat × Nat)) : pre [] r = r:=by cases r <;> rfl
def scanS (s : ByteArray) : Sum (List Tok) (Nat × Nat):=scanF s (s.size + 1) false 0
/-- what is answered: tokens, where, why. -/
def scanToks (s : ByteArray) : List Tok:=match scanS s with | .inl ts => ts | .inr _ => []
def scanPos (s : ByteArray) : Nat:=match scanS s with | .inl _ => 0 | .inr x => x.1
def scanErr (s : ByteArray) : Nat:=match scanS s with | .inl _ => 0 | .inr x => x.2
theorem tokKN_end {s : ByteArray} {j : Nat} (h : tokErr s j = 0) : j < (tokKN s j).2∧(tokKN s j).2≤s.size:=by
  by_cases hj : j < s.size
  · have hl : j < s.data.toList.length:=by simpa using hj
    have hg : s.data.toList[j] = s[j]:=rfl
    by_cases hL : isL s[j] = true
    · have hk : tokKN s j = (1,spanL isN s.data.toList j):=by simp [tokKN,hj,hL]
      rw [hk]
      exact ⟨spanL_gt hl (by rw [hg]; simp [isN,hL]),by have:=spanL_le (p:=isN) (l:=s.data.toList) (i:=j) (by omega); simpa using this⟩
    by_cases hD : isD s[j] = true
    · have hk : tokKN s j = (2,spanL isD s.data.toList j):=by simp [tokKN,hj,hL,hD]
      rw [hk]
      exact ⟨spanL_gt hl (by rw [hg]; exact hD),by have:=spanL_le (p:=isD) (l:=s.data.toList) (i:=j) (by omega); simpa using this⟩
    by_cases hE : hasEqL s j = true
    · have hk : tokKN s j = (3,j + 2):=by simp [tokKN,hj,hL,hD,hE]
      rw [hk]
      have:=hasEq_two ((hasEq_eq s j).trans hE)
      exact ⟨by simp,by simpa using this⟩
    by_cases hS : isS s[j] = true
    · have hk : tokKN s j = (3,j + 1):=by simp [tokKN,hj,hL,hD,hE,hS]
      rw [hk]
      exact ⟨by simp,by simp; omega⟩
    have hk : tokKN s j = (0,j):=by simp [tokKN,hj,hL,hD,hE,hS]
    simp [tokErr,hk] at h
  · have hk : tokKN s j = (0,j):=by simp [tokKN,hj]
    simp [tokErr,hk] at h
theorem tokKN_le {s : ByteArray} {i : Nat} (hi : i≤s.size) : (tokKN s i).2≤s.size:=by
  unfold tokKN
  split
  · rename_i h
    split
    · have:=spanL_le (p:=isN) (l:=s.data.toList) (i:=i) (by simpa using hi); simpa using this
    · split
      · have:=spanL_le (p:=isD) (l:=s.data.toList) (i:=i) (by simpa using hi); simpa using this
      · split
        · rename_i hE
          exact hasEq_two ((hasEq_eq s i).trans hE)
        · split
          · exact h
          · exact hi
  · exact hi
theorem scan_step {s : ByteArray} {f i : Nat} {note : Bool} {ts : List Tok} (h : scanS s = pre ts (scanF s (f + 1) note i)) (hlt : skipL note s.data.toList i < s.size)
    (he : tokErr s (skipL note s.data.toList i) = 0) : scanS s = pre (ts ++ [tokAt s (skipL note s.data.toList i)]) (scanF s f false (tokKN s (skipL note s.data.toList i)).2):=by
  rw [h]
  simp only [scanF,hlt,he,if_true]
  cases scanF s f false (tokKN s (skipL note s.data.toList i)).2 <;> simp [pre]
theorem scan_stop {s : ByteArray} {f i : Nat} {note : Bool} {ts : List Tok} (h : scanS s = pre ts (scanF s (f + 1) note i)) (hlt : skipL note s.data.toList i < s.size)
    (he : ¬ tokErr s (skipL note s.data.toList i) = 0) : scanS s = .inr (skipL note s.data.toList i,tokErr s (skipL note s.data.toList i)):=by
  rw [h]
  simp only [scanF,hlt,he,if_true,if_false]
  rfl
theorem scan_end {s : ByteArray} {f i : Nat} {note : Bool} {ts : List Tok} (h : scanS s = pre ts (scanF s (f + 1) note i)) (hlt : ¬ skipL note s.data.toList i < s.size) : scanS s = .inl ts:=by
  rw [h]
  simp only [scanF,hlt,if_false]
  simp [pre]
theorem skipL_ge (note : Bool) (l : List UInt8) (i : Nat) : i≤skipL note l i:=by unfold skipL; omega
theorem ownsRow_over {w w' : World} {base : Nat} {e : TypeId} {size : Nat} {v : Value} {n : Nat} {xs : List Value} (h : w.ownsRow base e size v n xs) (hb : Below w.heap.size w w') : w'.ownsRow base e size v n xs:=by
  obtain ⟨h1,h2⟩:=h
  refine ⟨h1,?_⟩
  rcases h2 with h2 | ⟨g,cap,cur,hv,hg,hh,r⟩
  · exact Or.inl h2
  · refine Or.inr ⟨g,cap,cur,hv,hg,?_,r⟩
    rw [hb.block g ?_]
    · exact hh
    · exact (Array.getElem?_eq_some_iff.1 hh).1
end Go.Proofs.YtipngnjffjajpaaGreatDoor
