/- What all commands ask of levels. -/
import Derived.Test.YtcbbjjenkommeaaM12
import Derived.Laws.EntriesVeiled
import Derived.Maps.AppendAt
namespace Go.Proofs.Ytcbbjjenkommeaa.Ex
open Go.RowKit
set_option linter.unusedVariables false
section
variable {σ : Type} {c : WC} {w0 : World} {K nv ni no : Nat} {fs : List FnD} {gs : List (Int × Int)} {lev flev : σ → List Lev} {Inv : σ → World → Prop} {X : World → Nat → Prop} {s : Nat} {G : FuncId} {d1 d2 : Value}

theorem winv2 (I : WInv c w0 nv fs gs lev flev Inv X) : WInv c w0 nv fs gs lev flev (fun st W => Inv st W ∧ AskBox c X s G d1 d2 W) X :=
  ⟨I.n1, I.n6, I.gr, I.chk, I.nv16, fun st W h => I.below st W h.1, fun st W h => I.levs st W h.1, fun st W h => I.flevs st W h.1, fun st W W' h hb => ⟨I.over st W W' h.1 hb, h.2.over I.xok hb⟩, I.xok, fun st W h => I.xlt st W h.1⟩

theorem askDo (I : WInv c w0 nv fs gs lev flev Inv X) (flow : Lev → Bool × Nat → σ → σ) (hC : ∀ (args : Array Value) (w : World), (callFunc G args).run Try.prog w = .ok (.enter G args) w) (hfl : Hid (FlowOk c nv fs Inv X flow G d1 d2)) (vs : List (Bool × Lab)) (hvs : VarsAt w0 (.slice c.va c.vn c.vc) vs) (hnv : vs.length = nv)
    (ls : List Lab) (hls : LabsAt w0 (.slice c.ya c.yn c.yc) ls) (hlc : ∀ b ∈ ls, lChk c.n gs b = 0) (hni : ls.length = ni) (hni5 : ni ≤ 5) (kf : Nat) (hfs : FnsAt w0 K kf (.slice c.fa c.fn c.fc) fs) (hf5 : fs.length ≤ 5) (hof : ∀ i (h : i < fs.length), okF K nv ni no (i : Int) fs kf fs[i]) :
    DoOk c w0 K nv ni no fs (fun st W => Inv st W ∧ AskBox c X s G d1 d2 W) X (askS c.n K lev (vs.map Prod.fst) (ls.map (levOf (gnOf gs) c.n)) fs flow) 77 (.pointer (some ⟨s, 0, none⟩)) (.pointer (some ⟨s + 1 + 1, 0, none⟩)) (.pointer (some ⟨s + 1, 0, none⟩)) := by
  intro st W a k cs d v p funcs hI hrs hfn hok hl _ _
  have hk := hok.1
  rcases (by omega : sKind d = 1 ∨ sKind d = 2 ∨ sKind d = 3 ∨ (sKind d = 4 ∨ sKind d = 7 ∨ sKind d = 8) ∨ sKind d = 5 ∨ sKind d = 6) with h | h | h | h | h | h
  · exact askDo1 I flow hC hfl vs hvs hnv ls hls hlc hni hni5 kf hfs hf5 hof st W a k cs d v p funcs hI.1 hI.2 hrs hfn hok hl h
  · exact askDo2 I flow hC hfl vs hvs hnv ls hls hlc hni hni5 kf hfs hf5 hof st W a k cs d v p funcs hI.1 hI.2 hrs hfn hok hl h
  · exact askDo3 I flow hC hfl vs hvs hnv ls hls hlc hni hni5 kf hfs hf5 hof st W a k cs d v p funcs hI.1 hI.2 hrs hfn hok hl h
  · exact askDo0 I flow hC hfl vs hvs hnv ls hls hlc hni hni5 kf hfs hf5 hof st W a k cs d v p funcs hI.1 hI.2 hrs hfn hok hl h
  · exact askDo5 I flow hC hfl vs hvs hnv ls hls hlc hni hni5 kf hfs hf5 hof st W a k cs d v p funcs hI.1 hI.2 hrs hfn hok hl h
  · exact askDo6 I flow hC hfl vs hvs hnv ls hls hlc hni hni5 kf hfs hf5 hof st W a k cs d v p funcs hI.1 hI.2 hrs hfn hok hl h

theorem callAsk (args : Array Value) (w : World) : (callFunc 77 args).run Try.prog w = .ok (.enter 77 args) w := by simp [go_sem]

set_option maxHeartbeats 4000000 in
set_option maxRecDepth 100000 in
theorem askedW (I : WInv c w0 nv fs gs lev flev Inv X) (flow : Lev → Bool × Nat → σ → σ) (hC : ∀ (args : Array Value) (w : World), (callFunc G args).run Try.prog w = .ok (.enter G args) w) (hfl : Hid (FlowOk c nv fs Inv X flow G d1 d2)) (vs : List (Bool × Lab)) (hvs : VarsAt w0 (.slice c.va c.vn c.vc) vs) (hnv : vs.length = nv)
    (ls : List Lab) (hls : LabsAt w0 (.slice c.ya c.yn c.yc) ls) (hlc : ∀ b ∈ ls, lChk c.n gs b = 0) (hni : ls.length = ni) (hni5 : ni ≤ 5) (kf : Nat) (hfs : FnsAt w0 K kf (.slice c.fa c.fn c.fc) fs) (hf5 : fs.length ≤ 5) (hof : ∀ i (h : i < fs.length), okF K nv ni no (i : Int) fs kf fs[i])
    (l : List D) (hm : StmtsAt w0 K kf (.slice c.ba c.bn c.bc) l) (hom : ∀ s ∈ l, okS K nv ni no (fs.length : Int) fs kf s) (h50 : cntF kf fs + cnts kf l ≤ 50) (st : σ) (W : World) (hI : Inv st W) :
    Calls Try.prog 38 #[c.v, (.func (.func G) #[] #[d1, d2])] W fun e W' => e = .returned (.tuple #[]) ∧ Inv (goAll c.n K lev (askS c.n K lev (vs.map Prod.fst) (ls.map (levOf (gnOf gs) c.n)) fs flow) flev kf fs l st) W' ∧ FrW X W W' := by
  have hmf : ∀ (fn : Fn) (first cap : Array Value) (w : World), (Instr.makeFunc fn first cap).run Try.prog w = .ok (.func fn first cap) w := fun _ _ _ _ => rfl
  have hb : Below W.heap.size W (((W.alloc (.cells #[.int .i64 (c.n : Int), .slice c.ga c.gn c.gc, .slice c.sa c.sn c.sc, .slice c.ya c.yn c.yc, .slice c.oa c.on c.oc, .slice c.va c.vn c.vc, .slice c.fa c.fn c.fc, .slice c.ba c.bn c.bc, .slice c.la c.ln c.lc, .slice c.ka c.kn c.kc] 88)).alloc (.cells #[(.func (.func G) #[] #[d1, d2])] 94)).alloc (.cells #[(.func (.func 75) #[] #[.pointer (some ⟨W.heap.size, 0, none⟩), .pointer (some ⟨W.heap.size + 1, 0, none⟩)])] 129)) := (((Below.refl _ W).alloc (Nat.le_refl _) _).alloc (by simp) _).alloc (by simp <;> omega) _
  have hx : ∀ k, W.heap.size ≤ k → ¬ X (((W.alloc (.cells #[.int .i64 (c.n : Int), .slice c.ga c.gn c.gc, .slice c.sa c.sn c.sc, .slice c.ya c.yn c.yc, .slice c.oa c.on c.oc, .slice c.va c.vn c.vc, .slice c.fa c.fn c.fc, .slice c.ba c.bn c.bc, .slice c.la c.ln c.lc, .slice c.ka c.kn c.kc] 88)).alloc (.cells #[(.func (.func G) #[] #[d1, d2])] 94)).alloc (.cells #[(.func (.func 75) #[] #[.pointer (some ⟨W.heap.size, 0, none⟩), .pointer (some ⟨W.heap.size + 1, 0, none⟩)])] 129)) k := fun k hk h => by have := I.xlt _ _ hI _ (I.xok.below _ _ hb _ h); omega
  have hB : AskBox c X W.heap.size G d1 d2 (((W.alloc (.cells #[.int .i64 (c.n : Int), .slice c.ga c.gn c.gc, .slice c.sa c.sn c.sc, .slice c.ya c.yn c.yc, .slice c.oa c.on c.oc, .slice c.va c.vn c.vc, .slice c.fa c.fn c.fc, .slice c.ba c.bn c.bc, .slice c.la c.ln c.lc, .slice c.ka c.kn c.kc] 88)).alloc (.cells #[(.func (.func G) #[] #[d1, d2])] 94)).alloc (.cells #[(.func (.func 75) #[] #[.pointer (some ⟨W.heap.size, 0, none⟩), .pointer (some ⟨W.heap.size + 1, 0, none⟩)])] 129)) := by
    refine ⟨?_, ?_, ?_, hx _ (Nat.le_refl _), hx _ (by omega), hx _ (by omega)⟩
    · exact (RowAt.new c.cs 88 W).over (((Below.refl _ _).alloc (Nat.le_refl _) _).alloc (by simp) _)
    · simp [go_sem]
    · simp [go_sem]
  have hI1 := I.over _ _ _ hI hb
  have KE := hide (eachW (winv2 (s := W.heap.size) (G := G) (d1 := d1) (d2 := d2) I) (askS c.n K lev (vs.map Prod.fst) (ls.map (levOf (gnOf gs) c.n)) fs flow) 77 (.pointer (some ⟨W.heap.size, 0, none⟩)) (.pointer (some ⟨W.heap.size + 1 + 1, 0, none⟩)) (.pointer (some ⟨W.heap.size + 1, 0, none⟩)) callAsk
    (hide (askDo I flow hC hfl vs hvs hnv ls hls hlc hni hni5 kf hfs hf5 hof)) l hfs hm hof hom h50 hf5 st _ ⟨hI1, hB⟩)
  have HF := hide (FrW.of_below I.xok hb)
  have t0 := hB.row 0 _ rfl
  have t1 := hB.row 1 _ rfl
  have t2 := hB.row 2 _ rfl
  have t3 := hB.row 3 _ rfl
  have t4 := hB.row 4 _ rfl
  have t5 := hB.row 5 _ rfl
  have t6 := hB.row 6 _ rfl
  have t7 := hB.row 7 _ rfl
  have t8 := hB.row 8 _ rfl
  have t9 := hB.row 9 _ rfl
  clear hb hx hB hI1 hfl hvs hls hlc hfs hof hm hom I
  go_enter Try.func38, Try.ntmps38
  go_wp2_with fail
  refine (KE.out).mono ?_
  rintro e W2 ⟨rfl, hI2, hF2⟩
  go_wp2_with fail
  go_end0
  exact ⟨rfl, hI2.1, HF.out.trans hF2⟩
end
theorem Try.infoLv : (Try.prog.info? 62).map (fun i => (i.zero, i.size, i.bytes)) = some (some (.agg #[.slice none 0 0, .slice none 0 0]), 2, 48) := by kernel_rfl

/-- a row of bools. -/
def T4 (W : World) (v : Value) : Prop := ∀ a n c, v = .slice (some a) n c → ∃ cur fr, W.heap[a.block]? = some (.cells cur 4 fr)
/-- a level whose rows are rows of bools. -/
structure LevT (n : Nat) (W : World) (v : Value) (l : Lev) : Prop where
  at_ : LevAt W v l
  len : l.len n
  ty : ∃ x y, v = .agg #[x, y] ∧ T4 W x ∧ T4 W y
theorem t4_own {W : World} {B n : Nat} {v : Value} {xs : List Value} (h : W.ownsRow B 4 1 v n xs) : T4 W v := by
  intro a m c hv
  rcases h.2 with ⟨h, -⟩ | ⟨g, cap, cur, h, hb, hg, -⟩
  · rw [hv] at h; cases h
  · rw [hv] at h; injection h with h1 h2 h3; injection h1 with h1; rw [h1]; exact ⟨_, _, hg⟩
theorem levT_fresh {n : Nat} {w w' : World} {v : Value} {l : Lev} (h : LevFresh w w' v l) (hl : l.len n) : LevT n w' v l := by
  have h2 := levAt_fresh h
  obtain ⟨x, y, hv, hx, hy, -⟩ := h
  exact ⟨h2, hl, x, y, hv, t4_own hx, t4_own hy⟩
theorem t4_block {W W' : World} {v : Value} (h : T4 W v) (hb : ∀ (k : Nat) (cur : Array Value) (fr : Nat × Nat), W.heap[k]? = some (Obj.cells cur 4 fr) → W'.heap[k]? = W.heap[k]?) : T4 W' v := by
  intro a n c hv
  obtain ⟨cur, fr, he⟩ := h a n c hv
  exact ⟨cur, fr, (hb _ _ _ he).trans he⟩
/-- kept, if rows of bools are. -/
theorem LevT.keep {n : Nat} {W W' : World} {v : Value} {l : Lev} (h1 : 1 ≤ n) (h : LevT n W v l) (hb : ∀ (k : Nat) (cur : Array Value) (fr : Nat × Nat), W.heap[k]? = some (Obj.cells cur 4 fr) → W'.heap[k]? = W.heap[k]?) : LevT n W' v l := by
  obtain ⟨x, y, hv, tx, ty⟩ := h.ty
  obtain ⟨x', y', hv', bx, by'⟩ := h.at_
  rw [hv] at hv'
  simp at hv'
  obtain ⟨rfl, rfl⟩ := hv'
  have key : ∀ (v : Value) (l : List Bool), IsBools W v l → l.length = n → T4 W v → IsBools W' v l := by
    intro v l hbo hl ht
    obtain ⟨ao, cap, hv, hel⟩ := hbo
    refine ⟨ao, cap, hv, fun hne => ?_⟩
    obtain ⟨b, off, hao, hel⟩ := hel hne
    obtain ⟨cur, fr, he⟩ := ht ⟨b, off, none⟩ l.length cap (by rw [hv, hao])
    have e : W'.heap[b]? = W.heap[b]? := hb b cur fr he
    exact ⟨b, off, hao, fun i hi => (World.cell?_of_block (a := ⟨b, off + i, none⟩) e).trans (hel i hi)⟩
  exact ⟨⟨x, y, hv, key _ _ bx h.len.1 tx, key _ _ by' h.len.2 ty⟩, h.len, x, y, hv, t4_block tx hb, t4_block ty hb⟩
theorem LevT.over {n : Nat} {W W' : World} {v : Value} {l : Lev} (h1 : 1 ≤ n) (h : LevT n W v l) (hb : Below W.heap.size W W') : LevT n W' v l :=
  h.keep h1 fun k cur fr hk => hb.block k (Array.getElem?_eq_some_iff.1 hk).1

/-- a row of one's own that holds levels. -/
def OwnLevs (n B : Nat) (W : World) (v : Value) (Ls : List Lev) : Prop :=
  ∃ us : List Value, W.ownsRow B 62 2 v Ls.length us ∧ ∀ i (h : i < Ls.length), ∃ x y, us[i * 2]? = some x ∧ us[i * 2 + 1]? = some y ∧ LevT n W (.agg #[x, y]) Ls[i]
theorem ownLevs_nil (n B : Nat) (W : World) : OwnLevs n B W (.slice none 0 0) [] := ⟨[], World.ownsRow_nil .., fun i h => absurd h (by simp)⟩
theorem ownLevs_ne {n B : Nat} {W : World} {v : Value} {Ls : List Lev} (h : OwnLevs n B W v Ls) : ∀ g, v.ownBlock = some g → B ≤ g ∧ ∃ cur fr, W.heap[g]? = some (.cells cur 62 fr) := by
  obtain ⟨us, ho, -⟩ := h
  intro g hg
  rcases ho.2 with ⟨h, -⟩ | ⟨g', cap, cur, h, hb, hh, -⟩
  · rw [h] at hg; cases hg
  · rw [h] at hg
    simp [Value.ownBlock] at hg
    subst hg
    exact ⟨hb, _, _, hh⟩
/-- kept, if its block is, and rows of bools are. -/
theorem OwnLevs.keep {n B : Nat} {W W' : World} {v : Value} {Ls : List Lev} (h1 : 1 ≤ n) (h : OwnLevs n B W v Ls) {row : Option Nat} (hg : W.grownBy W' row) (ha : v.ownBlock = none ∨ v.ownBlock ≠ row) (hr : ∀ g, row = some g → ∀ (cur : Array Value) (fr : Nat × Nat), W.heap[g]? ≠ some (Obj.cells cur 4 fr)) : OwnLevs n B W' v Ls := by
  obtain ⟨us, ho, hel⟩ := h
  refine ⟨us, ho.kept hg ha, fun i hi => ?_⟩
  obtain ⟨x, y, e0, e1, hl⟩ := hel i hi
  exact ⟨x, y, e0, e1, hl.keep h1 fun k cur fr hk => hg.block k (Array.getElem?_eq_some_iff.1 hk).1 (fun e => hr k e.symm cur fr hk)⟩
theorem OwnLevs.over {n B : Nat} {W W' : World} {v : Value} {Ls : List Lev} (h1 : 1 ≤ n) (h : OwnLevs n B W v Ls) (hb : Below W.heap.size W W') : OwnLevs n B W' v Ls :=
  h.keep h1 (row := none) ⟨hb.os, hb.tape, hb.output, hb.size, fun k hk _ => hb.block k hk⟩ (by cases v.ownBlock <;> simp) (fun g e => by cases e)
/-- one level more. -/
theorem OwnLevs.snoc {n B : Nat} {W W' : World} {v v' : Value} {Ls : List Lev} {x y : Value} {l : Lev} (h1 : 1 ≤ n) (h : OwnLevs n B W v Ls) (us : List Value) (ho : W.ownsRow B 62 2 v Ls.length us) (hel : ∀ i (h : i < Ls.length), ∃ x y, us[i * 2]? = some x ∧ us[i * 2 + 1]? = some y ∧ LevT n W (.agg #[x, y]) Ls[i]) (hl : LevT n W (.agg #[x, y]) l)
    (ho' : W'.ownsRow B 62 2 v' (Ls.length + 1) (us ++ [x, y])) (hg : W.grownBy W' v.ownBlock) : OwnLevs n B W' v' (Ls ++ [l]) := by
  have hk : ∀ (k : Nat) (cur : Array Value) (fr : Nat × Nat), W.heap[k]? = some (Obj.cells cur 4 fr) → W'.heap[k]? = W.heap[k]? := fun k cur fr hk => hg.block k (Array.getElem?_eq_some_iff.1 hk).1 (fun e => by
    obtain ⟨-, cur', fr', he⟩ := ownLevs_ne h k e.symm
    rw [hk] at he
    injection he with he
    injection he with e1 e2 e3
    exact absurd e2 (by decide))
  have hus : us.length = Ls.length * 2 := ho.1
  refine ⟨us ++ [x, y], by simpa using ho', fun i hi => ?_⟩
  by_cases hlt : i < Ls.length
  · obtain ⟨x', y', e0, e1, ht⟩ := hel i hlt
    refine ⟨x', y', ?_, ?_, ?_⟩
    · rw [List.getElem?_append_left (by omega)]; exact e0
    · rw [List.getElem?_append_left (by omega)]; exact e1
    · rw [List.getElem_append_left hlt]; exact ht.keep h1 hk
  · have hi2 : i = Ls.length := by simp at hi; omega
    subst hi2
    refine ⟨x, y, ?_, ?_, ?_⟩
    · rw [List.getElem?_append_right (by omega)]; simp [hus]
    · rw [List.getElem?_append_right (by omega)]
      have : Ls.length * 2 + 1 - us.length = 1 := by omega
      rw [this]; rfl
    · simp; exact hl.keep h1 hk

set_option maxHeartbeats 2000000 in
set_option maxRecDepth 100000 in
theorem walkerOf_any (n : Nat) (ga : Option Addr) (gn gc : Nat) (sa : Option Addr) (sn sc : Nat) (ya : Option Addr) (yn yc : Nat) (oa : Option Addr) (on oc : Nat) (va : Option Addr) (vn vc : Nat) (fa : Option Addr) (fn fc : Nat) (ba : Option Addr) (bn bc : Nat) (la : Option Addr) (ln lc : Nat) (ka : Option Addr) (kn kc : Nat) (w : World) :
    Calls Try.prog 53 #[.agg #[.int .i64 (n : Int), .slice ga gn gc, .slice sa sn sc, .slice ya yn yc, .slice oa on oc, .slice va vn vc, .slice fa fn fc, .slice ba bn bc], .agg #[.slice la ln lc, .slice ka kn kc]] w fun e w' => e = .returned (.agg #[.int .i64 (n : Int), .slice ga gn gc, .slice sa sn sc, .slice ya yn yc, .slice oa on oc, .slice va vn vc, .slice fa fn fc, .slice ba bn bc, .slice la ln lc, .slice ka kn kc]) ∧ Below w.heap.size w w' := by
  go_enter Try.func53, Try.ntmps53
  go_wp2_with fail
  refine bodyPost_ret (v := .agg #[.int .i64 (n : Int), .slice ga gn gc, .slice sa sn sc, .slice ya yn yc, .slice oa on oc, .slice va vn vc, .slice fa fn fc, .slice ba bn bc, .slice la ln lc, .slice ka kn kc]) (by simp [results, Try.results53, go_sem]) rfl ⟨rfl, ?_⟩
  refine Below.alloc ?_ (by simp <;> omega) _
  refine Below.alloc ?_ (by simp <;> omega) _
  exact (Below.refl _ w).alloc (Nat.le_refl _) _
/-- levels at first. -/
def initL (gs : List (Int × Int)) (n : Nat) (vs : List (Bool × Lab)) : List Lev := vs.map fun v => if v.1 = true then levOf (gnOf gs) n v.2 else botL n
theorem botL_len (n : Nat) : (botL n).len n := ⟨by simp [botL], by simp [botL]⟩
theorem levOf_len' (gn : List (Nat × Nat)) (n : Nat) (b : Lab) : (levOf gn n b).len n := ⟨rowOf_length _ _, rowOf_length _ _⟩
/-- a walker's box and its levels. -/
structure LeastI (n B bw : Nat) (P : List Value) (Ls Fs : List Lev) (v k : Value) (W : World) : Prop where
  row : RowAt (P ++ [v, k]) W bw
  fz : ∀ j, W.frozen? ⟨bw, j, none⟩ = false
  vs : OwnLevs n B W v Ls
  fs : OwnLevs n B W k Fs
  ap : v.ownBlock = none ∨ v.ownBlock ≠ k.ownBlock
  ap2 : v.ownBlock ≠ some bw ∧ k.ownBlock ≠ some bw
  ty : ∃ cur fr, W.heap[bw]? = some (Obj.cells cur 88 fr)
  lo : B ≤ bw ∧ bw < W.heap.size
theorem LeastI.over {n B bw : Nat} {P : List Value} {Ls Fs : List Lev} {v k : Value} {W W' : World} (h1 : 1 ≤ n) (h : LeastI n B bw P Ls Fs v k W) (hb : Below W.heap.size W W') : LeastI n B bw P Ls Fs v k W' := by
  refine ⟨h.row.over hb, fun j => ((bcell hb).2 _ _ h.lo.2).trans (h.fz j), h.vs.over h1 hb, h.fs.over h1 hb, h.ap, h.ap2, ?_, h.lo.1, Nat.lt_of_lt_of_le h.lo.2 hb.size⟩
  obtain ⟨cur, fr, he⟩ := h.ty
  exact ⟨cur, fr, (hb.block _ h.lo.2).trans he⟩
theorem rowAt_set {cs : List Value} {w : World} {b j : Nat} {v : Value} (h : RowAt cs w b) (hj : j < cs.length) : RowAt (cs.set j v) (w.setCell ⟨b, j, none⟩ v) b := by
  intro i u hu
  by_cases hij : j = i
  · subst hij
    rw [List.getElem?_set_self hj] at hu
    injection hu with hu
    subst hu
    exact World.cell?_setCell_same _ _ _ (h j _ (List.getElem?_eq_getElem hj))
  · rw [List.getElem?_set_ne hij] at hu
    rw [World.cell?_setCell_other _ _ _ _ (by intro e; injection e with e1 e2; exact hij e2)]
    exact h i u hu
theorem grow_cell {w : World} {b j : Nat} {u : Value} : w.grownBy (w.setCell ⟨b, j, none⟩ u) (some b) :=
  ⟨rfl, rfl, rfl, by simp [World.setCell], fun k hk hne => heap_set_other (fun e => hne (by rw [e])) u⟩
theorem grown_none {w w' : World} {v : Value} {B : Nat} (h : w.grownBy w' v.ownBlock) (hv : ∀ g, v.ownBlock = some g → B ≤ g) (hB : B ≤ w.heap.size) : Below B w w' :=
  ⟨h.os, h.tape, h.output, h.size, fun k hk => h.block k (by omega) (fun e => by have := hv k e.symm; omega)⟩

/-- a variable's level more. -/
theorem LeastI.addV {n B bw : Nat} {P : List Value} {Ls Fs : List Lev} {v k v' : Value} {W W' : World} {us : List Value} {x y : Value} {l : Lev} (h1 : 1 ≤ n) (hP : P.length = 8) (h : LeastI n B bw P Ls Fs v k W) (ho : W.ownsRow B 62 2 v Ls.length us) (hel : ∀ i (h : i < Ls.length), ∃ x y, us[i * 2]? = some x ∧ us[i * 2 + 1]? = some y ∧ LevT n W (.agg #[x, y]) Ls[i]) (hl : LevT n W (.agg #[x, y]) l)
    (ho' : W'.ownsRow B 62 2 v' (Ls.length + 1) (us ++ [x, y])) (hg : W.grownBy W' v.ownBlock) (hat : v'.ownBlock = v.ownBlock ∨ v'.ownBlock = some W.heap.size) :
    LeastI n B bw P (Ls ++ [l]) Fs v' k (W'.setCell ⟨bw, 8, none⟩ v') ∧ Below B W (W'.setCell ⟨bw, 8, none⟩ v') := by
  have hv := ownLevs_ne h.vs
  have hk := ownLevs_ne h.fs
  have n4 : ∀ g, v.ownBlock = some g → ∀ (cur : Array Value) (fr : Nat × Nat), W.heap[g]? ≠ some (Obj.cells cur 4 fr) := fun g hgv cur fr he => by
    obtain ⟨-, c2, f2, he2⟩ := hv g hgv
    rw [he] at he2
    injection he2 with he2
    injection he2 with e1 e2 e3
    exact absurd e2 (by decide)
  have hbw : W'.heap[bw]? = W.heap[bw]? := hg.block bw h.lo.2 (fun e => h.ap2.1 e.symm)
  have hvs' := OwnLevs.snoc h1 h.vs us ho hel hl ho' hg
  have hkv : k.ownBlock = none ∨ k.ownBlock ≠ v.ownBlock := by
    rcases h.ap with e | e
    · cases hk' : k.ownBlock with
      | none => exact Or.inl rfl
      | some g => rw [e]; exact Or.inr (by simp)
    · exact Or.inr e.symm
  have hfs' := h.fs.keep h1 hg hkv n4
  have hty : ∃ cur fr, W'.heap[bw]? = some (Obj.cells cur 88 fr) := by obtain ⟨c, f, e⟩ := h.ty; exact ⟨c, f, hbw.trans e⟩
  have n5 : ∀ g, some bw = some g → ∀ (cur : Array Value) (fr : Nat × Nat), W'.heap[g]? ≠ some (Obj.cells cur 4 fr) := fun g e cur fr he => by
    injection e with e
    subst e
    obtain ⟨c, f, e⟩ := hty
    rw [he] at e
    injection e with e
    injection e with e1 e2 e3
    exact absurd e2 (by decide)
  have hv'bw : v'.ownBlock ≠ some bw := by
    rcases hat with e | e
    · rw [e]; exact h.ap2.1
    · rw [e]; intro e; injection e with e; have := h.lo.2; omega
  have hrow' : RowAt (P ++ [v, k]) W' bw := fun j u hu => (World.cell?_of_block (a := ⟨bw, j, none⟩) hbw).trans (h.row j u hu)
  have hBl : Below B W W' := grown_none hg (fun g e => (hv g e).1) (Nat.le_trans h.lo.1 (Nat.le_of_lt h.lo.2))
  refine ⟨⟨?_, fun j => ?_, hvs'.keep h1 grow_cell (Or.inr hv'bw) n5, hfs'.keep h1 grow_cell (Or.inr h.ap2.2) n5, ?_, ⟨hv'bw, h.ap2.2⟩, ?_, h.lo.1, ?_⟩, hBl.setCell h.lo.1 _⟩
  · have := rowAt_set (j := 8) (v := v') hrow' (by simp [hP])
    rw [List.set_append, if_neg (by omega)] at this
    simpa [hP] using this
  · have e1 : (W'.setCell ⟨bw, 8, none⟩ v').frozen? ⟨bw, j, none⟩ = W'.frozen? ⟨bw, j, none⟩ := by simp [go_sem]
    rw [e1, World.frozen?_of_block (a := ⟨bw, j, none⟩) hbw]
    exact h.fz j
  · rcases hat with e | e
    · rw [e]; exact h.ap
    · rw [e]
      refine Or.inr fun e2 => ?_
      obtain ⟨-, c, f, he⟩ := hk _ e2.symm
      have := (Array.getElem?_eq_some_iff.1 he).1
      omega
  · obtain ⟨c, f, e⟩ := hty
    refine ⟨c.setIfInBounds 8 v', f, ?_⟩
    simp [World.setCell, Array.getElem?_modify, e]
  · have := hg.size
    have := h.lo.2
    simp [World.setCell]
    omega
/-- a function's level more. -/
theorem LeastI.addF {n B bw : Nat} {P : List Value} {Ls Fs : List Lev} {v k v' : Value} {W W' : World} {us : List Value} {x y : Value} {l : Lev} (h1 : 1 ≤ n) (hP : P.length = 8) (h : LeastI n B bw P Ls Fs v k W) (ho : W.ownsRow B 62 2 k Fs.length us) (hel : ∀ i (h : i < Fs.length), ∃ x y, us[i * 2]? = some x ∧ us[i * 2 + 1]? = some y ∧ LevT n W (.agg #[x, y]) Fs[i]) (hl : LevT n W (.agg #[x, y]) l)
    (ho' : W'.ownsRow B 62 2 v' (Fs.length + 1) (us ++ [x, y])) (hg : W.grownBy W' k.ownBlock) (hat : v'.ownBlock = k.ownBlock ∨ v'.ownBlock = some W.heap.size) :
    LeastI n B bw P Ls (Fs ++ [l]) v v' (W'.setCell ⟨bw, 9, none⟩ v') ∧ Below B W (W'.setCell ⟨bw, 9, none⟩ v') := by
  have hv := ownLevs_ne h.vs
  have hk := ownLevs_ne h.fs
  have n4 : ∀ g, k.ownBlock = some g → ∀ (cur : Array Value) (fr : Nat × Nat), W.heap[g]? ≠ some (Obj.cells cur 4 fr) := fun g hgv cur fr he => by
    obtain ⟨-, c2, f2, he2⟩ := hk g hgv
    rw [he] at he2
    injection he2 with he2
    injection he2 with e1 e2 e3
    exact absurd e2 (by decide)
  have hbw : W'.heap[bw]? = W.heap[bw]? := hg.block bw h.lo.2 (fun e => h.ap2.2 e.symm)
  have hfs' := OwnLevs.snoc h1 h.fs us ho hel hl ho' hg
  have hvs' := h.vs.keep h1 hg h.ap n4
  have hty : ∃ cur fr, W'.heap[bw]? = some (Obj.cells cur 88 fr) := by obtain ⟨c, f, e⟩ := h.ty; exact ⟨c, f, hbw.trans e⟩
  have n5 : ∀ g, some bw = some g → ∀ (cur : Array Value) (fr : Nat × Nat), W'.heap[g]? ≠ some (Obj.cells cur 4 fr) := fun g e cur fr he => by
    injection e with e
    subst e
    obtain ⟨c, f, e⟩ := hty
    rw [he] at e
    injection e with e
    injection e with e1 e2 e3
    exact absurd e2 (by decide)
  have hv'bw : v'.ownBlock ≠ some bw := by
    rcases hat with e | e
    · rw [e]; exact h.ap2.2
    · rw [e]; intro e; injection e with e; have := h.lo.2; omega
  have hrow' : RowAt (P ++ [v, k]) W' bw := fun j u hu => (World.cell?_of_block (a := ⟨bw, j, none⟩) hbw).trans (h.row j u hu)
  have hBl : Below B W W' := grown_none hg (fun g e => (hk g e).1) (Nat.le_trans h.lo.1 (Nat.le_of_lt h.lo.2))
  refine ⟨⟨?_, fun j => ?_, hvs'.keep h1 grow_cell (Or.inr h.ap2.1) n5, hfs'.keep h1 grow_cell (Or.inr hv'bw) n5, ?_, ⟨h.ap2.1, hv'bw⟩, ?_, h.lo.1, ?_⟩, hBl.setCell h.lo.1 _⟩
  · have := rowAt_set (j := 9) (v := v') hrow' (by simp [hP])
    rw [List.set_append, if_neg (by omega)] at this
    simpa [hP] using this
  · have e1 : (W'.setCell ⟨bw, 9, none⟩ v').frozen? ⟨bw, j, none⟩ = W'.frozen? ⟨bw, j, none⟩ := by simp [go_sem]
    rw [e1, World.frozen?_of_block (a := ⟨bw, j, none⟩) hbw]
    exact h.fz j
  · rcases hat with e | e
    · rw [e]; exact h.ap
    · rw [e]
      refine Or.inr fun e2 => ?_
      obtain ⟨-, c, f, he⟩ := hv _ e2
      have := (Array.getElem?_eq_some_iff.1 he).1
      omega
  · obtain ⟨c, f, e⟩ := hty
    refine ⟨c.setIfInBounds 9 v', f, ?_⟩
    simp [World.setCell, Array.getElem?_modify, e]
  · have := hg.size
    have := h.lo.2
    simp [World.setCell]
    omega
end Go.Proofs.Ytcbbjjenkommeaa.Ex
