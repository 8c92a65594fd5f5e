/- Regions that draw, in few words. -/
import Derived.Deep.RegionHeld3
import Derived.RowKit
import Derived.OpenShut
import Derived.Deep.Draws
import Derived.Lib.Builder
import Derived.Test.YtfffpjkcfnekaaaGreatRows
import Derived.ProofKit
import Derived.Deep.Strs
import Derived.Lib.SmallJoins
import Derived.WalkKit
import Derived.WalkSpells
import Derived.WalkLawsBesides
import Derived.WalkSmall
import Derived.Deep.AppendLies
import Derived.OwnWalk
import Derived.Deep.SlicePairs
import Derived.Laws.MakeOwn
set_option linter.unusedVariables false
set_option maxHeartbeats 8000000
set_option maxRecDepth 100000
namespace Go.Proofs.YtfffpjkcfnekaaaGreat
open Go.RowKit
open Go.Value renaming slice -> O, int -> zd, bool -> zg, agg -> zh, pointer -> zi, tuple -> zk
open Go.IntKind renaming i64 -> U
open Go.Obj renaming cells -> ze
open Go.Ending renaming returned -> zj
abbrev Ov (w w':World):Prop:=Below w.heap.size w w'
abbrev CE (w:World) (b i:Nat) (v:Value):Prop:=w.cell? ⟨b,i,none⟩=some v
theorem nm {α:Type} (x:α):∃ q,q=x:=⟨x,rfl⟩
theorem aqt:(∀ (l:List Oper) (i:Nat) (h:i < l.toArray.size),l.toArray[i]'h=l[i]'(by simpa using h))/\(∀ (a:Oper) (l:List Oper) (i:Nat) (h:i+1 < (a::l).length),(a::l)[i+1]'h=l[i]'(by simpa using h))/\(∀ (a:Oper) (l:List Oper) (h:0 < (a::l).length),(a::l)[0]'h=a)/\(∀ (a:Act) (d:Tmp) (v:Value),a.put (some d) v={ a with tmps:=a.tmps.setIfInBounds d v })/\(∀ (a:Act) (v:Value),a.put none v=a)/\(∀ (l:List Value) (i:Nat) (x:Value),l.toArray.setIfInBounds i x=(l.set i x).toArray)/\(∀ (l:List Value) (a x:Value),(a::l).set 0 x=x::l)/\(∀ (l:List Value) (a x:Value) (i:Nat),(a::l).set (i+1) x=a::l.set i x):=
 ⟨fun _ _ _=>by simp,fun _ _ _ _=>rfl,fun _ _ _=>rfl,fun _ _ _=>rfl,fun _ _=>rfl,fun _ _ _=>by simp,fun _ _ _=>rfl,fun _ _ _ _=>rfl⟩
theorem kT {P:Program} {ops:Array Oper} {Q:Exit->Act->World->Prop} {md:Region.Mode} {S:World->Prop} {oi:Oper} {v:Value} {fuel:Nat} {listed:Array Bool} {a:Act} {w:World} {Z:Prop} (i:Nat) (h:Z)
  (hi:ops[i]? = some oi:=by rfl) (hy:YieldsIf P ops S oi v a:=by (refine Or.inl ⟨by rfl,?_⟩;intro d b;(try dsimp only at b);go_simp;try with_reducible rfl)) (hS:S w:=by assumption)
  (hs:Region.noSelect ops=true:=by kernel_rfl) (hf:Region.free md ops listed i=true:=by kernel_rfl) (hr:(Region.ready md ops listed).contains i=true:=by kernel_rfl)
  (hQ:∀ c a w,Q (.panic c) (a.put oi.dst v) w->Q (.panic c) a w:=by exact fun _ _ _ h=>h)
  (hz:Z->wpAnyH P md ops Q S fuel (listed.setIfInBounds i true) (a.put oi.dst v) w:=by (intro hz;(try simp only [aqt]);exact hz)):wpAnyH P md ops Q S (fuel+1) listed a w:=
 wpAnyH_take hi hs hf hr hQ hy hS (hz h)
theorem kL {P:Program} {ops:Array Oper} {Q:Exit->Act->World->Prop} {md:Region.Mode} {S:World->Prop} {oi:Oper} {v:Value} {fuel:Nat} {listed:Array Bool} {a:Act} {w:World} {Z:Prop} (i:Nat) (h:Z)
  (hi:ops[i]? = some oi:=by rfl) (hy:YieldsIf P ops S oi v a:=by (refine Or.inl ⟨by rfl,?_⟩;intro d b;obtain ⟨j,g,f,e,-⟩:=b;go_simp;first | done | with_reducible rfl)) (hS:S w:=by assumption)
  (hs:Region.noSelect ops=true:=by kernel_rfl) (hf:Region.free md ops listed i=true:=by kernel_rfl) (hr:(Region.ready md ops listed).contains i=true:=by kernel_rfl)
  (hQ:∀ c a w,Q (.panic c) (a.put oi.dst v) w->Q (.panic c) a w:=by exact fun _ _ _ h=>h)
  (hz:Z->wpAnyH P md ops Q S fuel (listed.setIfInBounds i true) (a.put oi.dst v) w:=by (intro hz;(try simp only [aqt]);exact hz)):wpAnyH P md ops Q S (fuel+1) listed a w:=
 wpAnyH_take hi hs hf hr hQ hy hS (hz h)
theorem kU {P:Program} {ops:Array Oper} {Q:Exit->Act->World->Prop} {md:Region.Mode} {S:World->Prop} {oi:Oper} {fuel:Nat} {listed:Array Bool} {a:Act} {w:World} {Z:Prop} (i:Nat) (h:Z)
  (hi:ops[i]? = some oi:=by rfl) (hy:YieldsIf P ops S oi undef a:=by exact Or.inr ⟨by kernel_rfl,rfl⟩) (hS:S w:=by assumption)
  (hs:Region.noSelect ops=true:=by kernel_rfl) (hf:Region.free md ops listed i=true:=by kernel_rfl) (hr:(Region.ready md ops listed).contains i=true:=by kernel_rfl)
  (hQ:∀ c a w,Q (.panic c) (a.put oi.dst undef) w->Q (.panic c) a w:=by exact fun _ _ _ h=>h)
  (hz:Z->wpAnyH P md ops Q S fuel (listed.setIfInBounds i true) (a.put oi.dst undef) w:=by (intro hz;(try simp only [aqt]);exact hz)):wpAnyH P md ops Q S (fuel+1) listed a w:=
 wpAnyH_take hi hs hf hr hQ hy hS (hz h)
abbrev I9 (P:Program) (md:Region.Mode) (ops:Array Oper) (Q:Exit->Act->World->Prop) (S:World->Prop) (fuel:Nat) (listed:Array Bool) (a:Act) (w:World) (i:Nat) (o:Oper):Prop:=
 ∀ K':Act->World->Prop,Shut (∀ a w,S w->(S w->wpAnyH P md ops Q S fuel (listed.setIfInBounds i true) a w)->K' a w)->if Region.wanted o (yielded ops a.tmps)=true then Oper.wp P o a w K' Q else K' (a.put o.dst undef) w
theorem rdA {P:Program} {ops:Array Oper} {Q:Exit->Act->World->Prop} {md:Region.Mode} {S:World->Prop} {fuel:Nat} {listed:Array Bool} {a:Act} {w:World} (i:Nat) {o:Oper} (ho:ops[i]? = some o) (h:I9 P md ops Q S fuel listed a w i o)
  (hr:Region.ready md ops listed=[i]:=by kernel_rfl):wpAnyH P md ops Q S (fuel+1) listed a w:=
 wpAnyH_ready hr (by simp) (AllReadyH.cons ho h AllReadyH.nil)
theorem rdB {P:Program} {ops:Array Oper} {Q:Exit->Act->World->Prop} {md:Region.Mode} {S:World->Prop} {fuel:Nat} {listed:Array Bool} {a:Act} {w:World} (i j:Nat) {o p:Oper} (ho:ops[i]? = some o) (h:I9 P md ops Q S fuel listed a w i o) (hp:ops[j]? = some p) (h2:I9 P md ops Q S fuel listed a w j p)
  (hr:Region.ready md ops listed=[i,j]:=by kernel_rfl):wpAnyH P md ops Q S (fuel+1) listed a w:=
 wpAnyH_ready hr (by simp) (AllReadyH.cons ho h (AllReadyH.cons hp h2 AllReadyH.nil))
theorem rdC {P:Program} {ops:Array Oper} {Q:Exit->Act->World->Prop} {md:Region.Mode} {S:World->Prop} {fuel:Nat} {listed:Array Bool} {a:Act} {w:World} (i j k:Nat) {o p q:Oper} (ho:ops[i]? = some o) (h:I9 P md ops Q S fuel listed a w i o) (hp:ops[j]? = some p) (h2:I9 P md ops Q S fuel listed a w j p) (hq:ops[k]? = some q) (h3:I9 P md ops Q S fuel listed a w k q)
  (hr:Region.ready md ops listed=[i,j,k]:=by kernel_rfl):wpAnyH P md ops Q S (fuel+1) listed a w:=
 wpAnyH_ready hr (by simp) (AllReadyH.cons ho h (AllReadyH.cons hp h2 (AllReadyH.cons hq h3 AllReadyH.nil)))
theorem xK {S:World->Prop} {V:Act->World->Prop} {K':Act->World->Prop} {a:Act} {w:World} {Z:Prop} (hK:Shut (∀ a w,S w->(S w->V a w)->K' a w)) (hS:S w) (h:S w->Z) (hz:Z->V a w:=by (intro hz;(try simp only [aqt]);exact hz)):K' a w:=
 hK.out a w hS (fun b=>hz (h b))
theorem gS {P:Program} {ops:Array Oper} {Q:Exit->Act->World->Prop} (S:World->Prop) {id:Nat} {a:Act} {w:World} (hS:S w.drew)
  (h:S w.drew->wpAnyH P .any ops Q S ops.size (Array.replicate ops.size false) a w.drew) (hm:P.follows .mixedOrders=true:=by kernel_rfl):(Code.region id ops true).wp P Q a w:=
 wp_region_held_drew hm hS h
theorem gE {P:Program} {ops:Array Oper} {Q:Exit->Act->World->Prop} {md:Region.Mode} {S:World->Prop} {fuel:Nat} {listed:Array Bool} {a:Act} {w:World} (h:Q .normal a w) (hr:Region.ready md ops listed=[]:=by kernel_rfl):wpAnyH P md ops Q S fuel listed a w:=
 wpAnyH_done hr h fuel
theorem B3 (w:World) (l:List Value) (T:Nat):∀ (j:Nat) (u:Value),l[j]? = some u->(w.alloc (.cells l.toArray T)).cell? ⟨w.heap.size,j,none⟩=some u:=fun j u hu=>by
 rw [Lib.cell_of_heap (show (w.heap.push (.cells l.toArray T))[w.heap.size]? = some (.cells l.toArray T) by simp)];simpa using hu
theorem QP {w:World} {a:Addr} {u:Value} (h:w.cell? a=some u) (o:Obj):(w.alloc o).cell? a=some u:=by
 rw [World.cell?_alloc_some _ _ _ (by rw [h];rfl)];exact h
theorem alS (w:World) (o:Obj):(w.alloc o).heap.size=w.heap.size+1:=by simp
theorem GM (w:World) (l:List Value) (T:Nat) (o1:Obj):∀ (j:Nat) (u:Value),l[j]? = some u->((w.alloc (.cells l.toArray T)).alloc o1).cell? ⟨w.heap.size,j,none⟩=some u:=fun j u hu=>by
 have h:=B3 w l T j u hu;exact (QP h _)
theorem Ig (w:World) (o0:Obj) (l:List Value) (T:Nat):∀ (j:Nat) (u:Value),l[j]? = some u->((w.alloc o0).alloc (.cells l.toArray T)).cell? ⟨w.heap.size+1,j,none⟩=some u:=fun j u hu=>by
 have h:=B3 (w.alloc o0) l T j u hu;rw [alS] at h;exact h
theorem SU (w:World) (l:List Value) (T:Nat) (o1:Obj) (o2:Obj):∀ (j:Nat) (u:Value),l[j]? = some u->(((w.alloc (.cells l.toArray T)).alloc o1).alloc o2).cell? ⟨w.heap.size,j,none⟩=some u:=fun j u hu=>by
 have h:=B3 w l T j u hu;exact (QP (QP h _) _)
theorem ST (w:World) (o0:Obj) (l:List Value) (T:Nat) (o2:Obj):∀ (j:Nat) (u:Value),l[j]? = some u->(((w.alloc o0).alloc (.cells l.toArray T)).alloc o2).cell? ⟨w.heap.size+1,j,none⟩=some u:=fun j u hu=>by
 have h:=B3 (w.alloc o0) l T j u hu;rw [alS] at h;exact (QP h _)
theorem Tl (w:World) (o0:Obj) (o1:Obj) (l:List Value) (T:Nat):∀ (j:Nat) (u:Value),l[j]? = some u->(((w.alloc o0).alloc o1).alloc (.cells l.toArray T)).cell? ⟨w.heap.size+1+1,j,none⟩=some u:=fun j u hu=>by
 have h:=B3 ((w.alloc o0).alloc o1) l T j u hu;rw [alS,alS] at h;exact h
theorem TE (w:World) (o0:Obj) (o1:Obj) (o2:Obj) (o3:Obj) (l:List Value) (T:Nat):∀ (j:Nat) (u:Value),l[j]? = some u->(((((w.alloc o0).alloc o1).alloc o2).alloc o3).alloc (.cells l.toArray T)).cell? ⟨w.heap.size+1+1+1+1,j,none⟩=some u:=fun j u hu=>by
 have h:=B3 ((((w.alloc o0).alloc o1).alloc o2).alloc o3) l T j u hu;rw [alS,alS,alS,alS] at h;exact h
theorem rc2 {P:Nat->Value->Prop} {a0 a1:Value} {l:List Value} (h:∀ (j:Nat) (u:Value),(a0::a1::l)[j]? = some u->P j u):P 0 a0/\P 1 a1:=⟨h 0 _ rfl,h 1 _ rfl⟩
theorem rc3 {P:Nat->Value->Prop} {a0 a1 a2:Value} {l:List Value} (h:∀ (j:Nat) (u:Value),(a0::a1::a2::l)[j]? = some u->P j u):P 0 a0/\P 1 a1/\P 2 a2:=⟨h 0 _ rfl,h 1 _ rfl,h 2 _ rfl⟩
theorem rc4 {P:Nat->Value->Prop} {a0 a1 a2 a3:Value} {l:List Value} (h:∀ (j:Nat) (u:Value),(a0::a1::a2::a3::l)[j]? = some u->P j u):P 0 a0/\P 1 a1/\P 2 a2/\P 3 a3:=⟨h 0 _ rfl,h 1 _ rfl,h 2 _ rfl,h 3 _ rfl⟩
theorem rc5 {P:Nat->Value->Prop} {a0 a1 a2 a3 a4:Value} {l:List Value} (h:∀ (j:Nat) (u:Value),(a0::a1::a2::a3::a4::l)[j]? = some u->P j u):P 0 a0/\P 1 a1/\P 2 a2/\P 3 a3/\P 4 a4:=⟨h 0 _ rfl,h 1 _ rfl,h 2 _ rfl,h 3 _ rfl,h 4 _ rfl⟩
theorem rc6 {P:Nat->Value->Prop} {a0 a1 a2 a3 a4 a5:Value} {l:List Value} (h:∀ (j:Nat) (u:Value),(a0::a1::a2::a3::a4::a5::l)[j]? = some u->P j u):P 0 a0/\P 1 a1/\P 2 a2/\P 3 a3/\P 4 a4/\P 5 a5:=⟨h 0 _ rfl,h 1 _ rfl,h 2 _ rfl,h 3 _ rfl,h 4 _ rfl,h 5 _ rfl⟩
theorem rc8 {P:Nat->Value->Prop} {a0 a1 a2 a3 a4 a5 a6 a7:Value} {l:List Value} (h:∀ (j:Nat) (u:Value),(a0::a1::a2::a3::a4::a5::a6::a7::l)[j]? = some u->P j u):P 0 a0/\P 1 a1/\P 2 a2/\P 3 a3/\P 4 a4/\P 5 a5/\P 6 a6/\P 7 a7:=⟨h 0 _ rfl,h 1 _ rfl,h 2 _ rfl,h 3 _ rfl,h 4 _ rfl,h 5 _ rfl,h 6 _ rfl,h 7 _ rfl⟩
theorem rc9 {P:Nat->Value->Prop} {a0 a1 a2 a3 a4 a5 a6 a7 a8:Value} {l:List Value} (h:∀ (j:Nat) (u:Value),(a0::a1::a2::a3::a4::a5::a6::a7::a8::l)[j]? = some u->P j u):P 0 a0/\P 1 a1/\P 2 a2/\P 3 a3/\P 4 a4/\P 5 a5/\P 6 a6/\P 7 a7/\P 8 a8:=⟨h 0 _ rfl,h 1 _ rfl,h 2 _ rfl,h 3 _ rfl,h 4 _ rfl,h 5 _ rfl,h 6 _ rfl,h 7 _ rfl,h 8 _ rfl⟩
theorem Ch {P:Nat->Value->Prop} {a0 a1 a2 a3 a4 a5 a6 a7 a8 a9:Value} {l:List Value} (h:∀ (j:Nat) (u:Value),(a0::a1::a2::a3::a4::a5::a6::a7::a8::a9::l)[j]? = some u->P j u):P 0 a0/\P 1 a1/\P 2 a2/\P 3 a3/\P 4 a4/\P 5 a5/\P 6 a6/\P 7 a7/\P 8 a8/\P 9 a9:=⟨h 0 _ rfl,h 1 _ rfl,h 2 _ rfl,h 3 _ rfl,h 4 _ rfl,h 5 _ rfl,h 6 _ rfl,h 7 _ rfl,h 8 _ rfl,h 9 _ rfl⟩
theorem P9 {P:Nat->Value->Prop} {a0 a1 a2 a3 a4 a5 a6 a7 a8 a9 a10 a11:Value} {l:List Value} (h:∀ (j:Nat) (u:Value),(a0::a1::a2::a3::a4::a5::a6::a7::a8::a9::a10::a11::l)[j]? = some u->P j u):P 0 a0/\P 1 a1/\P 2 a2/\P 3 a3/\P 4 a4/\P 5 a5/\P 6 a6/\P 7 a7/\P 8 a8/\P 9 a9/\P 10 a10/\P 11 a11:=⟨h 0 _ rfl,h 1 _ rfl,h 2 _ rfl,h 3 _ rfl,h 4 _ rfl,h 5 _ rfl,h 6 _ rfl,h 7 _ rfl,h 8 _ rfl,h 9 _ rfl,h 10 _ rfl,h 11 _ rfl⟩
theorem TA {P:Nat->Value->Prop} {a0 a1 a2 a3 a4 a5 a6 a7 a8 a9 a10 a11 a12:Value} {l:List Value} (h:∀ (j:Nat) (u:Value),(a0::a1::a2::a3::a4::a5::a6::a7::a8::a9::a10::a11::a12::l)[j]? = some u->P j u):P 0 a0/\P 1 a1/\P 2 a2/\P 3 a3/\P 4 a4/\P 5 a5/\P 6 a6/\P 7 a7/\P 8 a8/\P 9 a9/\P 10 a10/\P 11 a11/\P 12 a12:=⟨h 0 _ rfl,h 1 _ rfl,h 2 _ rfl,h 3 _ rfl,h 4 _ rfl,h 5 _ rfl,h 6 _ rfl,h 7 _ rfl,h 8 _ rfl,h 9 _ rfl,h 10 _ rfl,h 11 _ rfl,h 12 _ rfl⟩
theorem ovS {V W:World} (h:Below V.heap.size V W):∀ a:Addr,(V.cell? a).isSome=true->W.cell? a=V.cell? a:=fun a ha=>by
 obtain ⟨u,hu⟩:=Option.isSome_iff_exists.1 ha;exact h.cell (World.block_lt_of_cell? V _ hu)
theorem kO {P:Program} {ops:Array Oper} {Q:Exit->Act->World->Prop} {md:Region.Mode} {S:World->Prop} {oi:Oper} {v:Value} {fuel:Nat} {listed:Array Bool} {a:Act} {w:World} {Z:Prop} (i:Nat) (h:Z)
  (hi:ops[i]? = some oi:=by rfl) (hy:YieldsIf P ops S oi v a:=by (refine Or.inl ⟨by rfl,?_⟩;intro d b;have b:=ovS b;go_simp;try with_reducible rfl)) (hS:S w:=by assumption)
  (hs:Region.noSelect ops=true:=by kernel_rfl) (hf:Region.free md ops listed i=true:=by kernel_rfl) (hr:(Region.ready md ops listed).contains i=true:=by kernel_rfl)
  (hQ:∀ c a w,Q (.panic c) (a.put oi.dst v) w->Q (.panic c) a w:=by exact fun _ _ _ h=>h)
  (hz:Z->wpAnyH P md ops Q S fuel (listed.setIfInBounds i true) (a.put oi.dst v) w:=by (intro hz;(try simp only [aqt]);exact hz)):wpAnyH P md ops Q S (fuel+1) listed a w:=
 wpAnyH_take hi hs hf hr hQ hy hS (hz h)
def Hx (p:Prop):Prop:=p
theorem Hx.o {p:Prop} (h:Hx p):p:=h
theorem nO {q a1 a2 a3 a4 a5 a6 Z:Prop} (N1:Hx (a1->q)) (N2:Hx (a2->q)) (N3:Hx (a3->q)) (N4:Hx (a4->q)) (N5:Hx (a5->q)) (N6:Hx (a6->q)) (hz:Z)
  (h:Z->a1\/a2\/a3\/a4\/a5\/a6:=by (intro hz;first | exact Or.inl (by (try simp at hz);(try simp);omega) | exact Or.inr (Or.inl (by (try simp at hz);(try simp);omega)) | exact Or.inr (Or.inr (Or.inl (by (try simp at hz);(try simp);omega))) | exact Or.inr (Or.inr (Or.inr (Or.inl (by (try simp at hz);(try simp);omega)))) | exact Or.inr (Or.inr (Or.inr (Or.inr (Or.inl (by (try simp at hz);(try simp);omega))))) | exact Or.inr (Or.inr (Or.inr (Or.inr (Or.inr (by (try simp at hz);(try simp);omega))))))):Hx q:=
 (h hz).elim N1.o fun h=>h.elim N2.o fun h=>h.elim N3.o fun h=>h.elim N4.o fun h=>h.elim N5.o N6.o
theorem ce1 {w w':World} (hb:Below w.heap.size w w') {a:Addr} {u:Value} (h:w.cell? a=some u):w'.cell? a=some u:=by
 rw [hb.cell (World.block_lt_of_cell? w _ h)];exact h
theorem co2 {w w':World} (hb:Below w.heap.size w w') {a0 a1:Addr} {u0 u1:Value} (h0:w.cell? a0=some u0) (h1:w.cell? a1=some u1):w'.cell? a0=some u0/\w'.cell? a1=some u1:=⟨ce1 hb h0,ce1 hb h1⟩
theorem co3 {w w':World} (hb:Below w.heap.size w w') {a0 a1 a2:Addr} {u0 u1 u2:Value} (h0:w.cell? a0=some u0) (h1:w.cell? a1=some u1) (h2:w.cell? a2=some u2):w'.cell? a0=some u0/\w'.cell? a1=some u1/\w'.cell? a2=some u2:=⟨ce1 hb h0,ce1 hb h1,ce1 hb h2⟩
theorem co4 {w w':World} (hb:Below w.heap.size w w') {a0 a1 a2 a3:Addr} {u0 u1 u2 u3:Value} (h0:w.cell? a0=some u0) (h1:w.cell? a1=some u1) (h2:w.cell? a2=some u2) (h3:w.cell? a3=some u3):w'.cell? a0=some u0/\w'.cell? a1=some u1/\w'.cell? a2=some u2/\w'.cell? a3=some u3:=⟨ce1 hb h0,ce1 hb h1,ce1 hb h2,ce1 hb h3⟩
theorem co5 {w w':World} (hb:Below w.heap.size w w') {a0 a1 a2 a3 a4:Addr} {u0 u1 u2 u3 u4:Value} (h0:w.cell? a0=some u0) (h1:w.cell? a1=some u1) (h2:w.cell? a2=some u2) (h3:w.cell? a3=some u3) (h4:w.cell? a4=some u4):w'.cell? a0=some u0/\w'.cell? a1=some u1/\w'.cell? a2=some u2/\w'.cell? a3=some u3/\w'.cell? a4=some u4:=⟨ce1 hb h0,ce1 hb h1,ce1 hb h2,ce1 hb h3,ce1 hb h4⟩
theorem co6 {w w':World} (hb:Below w.heap.size w w') {a0 a1 a2 a3 a4 a5:Addr} {u0 u1 u2 u3 u4 u5:Value} (h0:w.cell? a0=some u0) (h1:w.cell? a1=some u1) (h2:w.cell? a2=some u2) (h3:w.cell? a3=some u3) (h4:w.cell? a4=some u4) (h5:w.cell? a5=some u5):w'.cell? a0=some u0/\w'.cell? a1=some u1/\w'.cell? a2=some u2/\w'.cell? a3=some u3/\w'.cell? a4=some u4/\w'.cell? a5=some u5:=⟨ce1 hb h0,ce1 hb h1,ce1 hb h2,ce1 hb h3,ce1 hb h4,ce1 hb h5⟩
theorem co7 {w w':World} (hb:Below w.heap.size w w') {a0 a1 a2 a3 a4 a5 a6:Addr} {u0 u1 u2 u3 u4 u5 u6:Value} (h0:w.cell? a0=some u0) (h1:w.cell? a1=some u1) (h2:w.cell? a2=some u2) (h3:w.cell? a3=some u3) (h4:w.cell? a4=some u4) (h5:w.cell? a5=some u5) (h6:w.cell? a6=some u6):w'.cell? a0=some u0/\w'.cell? a1=some u1/\w'.cell? a2=some u2/\w'.cell? a3=some u3/\w'.cell? a4=some u4/\w'.cell? a5=some u5/\w'.cell? a6=some u6:=⟨ce1 hb h0,ce1 hb h1,ce1 hb h2,ce1 hb h3,ce1 hb h4,ce1 hb h5,ce1 hb h6⟩
theorem co8 {w w':World} (hb:Below w.heap.size w w') {a0 a1 a2 a3 a4 a5 a6 a7:Addr} {u0 u1 u2 u3 u4 u5 u6 u7:Value} (h0:w.cell? a0=some u0) (h1:w.cell? a1=some u1) (h2:w.cell? a2=some u2) (h3:w.cell? a3=some u3) (h4:w.cell? a4=some u4) (h5:w.cell? a5=some u5) (h6:w.cell? a6=some u6) (h7:w.cell? a7=some u7):w'.cell? a0=some u0/\w'.cell? a1=some u1/\w'.cell? a2=some u2/\w'.cell? a3=some u3/\w'.cell? a4=some u4/\w'.cell? a5=some u5/\w'.cell? a6=some u6/\w'.cell? a7=some u7:=⟨ce1 hb h0,ce1 hb h1,ce1 hb h2,ce1 hb h3,ce1 hb h4,ce1 hb h5,ce1 hb h6,ce1 hb h7⟩
theorem co9 {w w':World} (hb:Below w.heap.size w w') {a0 a1 a2 a3 a4 a5 a6 a7 a8:Addr} {u0 u1 u2 u3 u4 u5 u6 u7 u8:Value} (h0:w.cell? a0=some u0) (h1:w.cell? a1=some u1) (h2:w.cell? a2=some u2) (h3:w.cell? a3=some u3) (h4:w.cell? a4=some u4) (h5:w.cell? a5=some u5) (h6:w.cell? a6=some u6) (h7:w.cell? a7=some u7) (h8:w.cell? a8=some u8):w'.cell? a0=some u0/\w'.cell? a1=some u1/\w'.cell? a2=some u2/\w'.cell? a3=some u3/\w'.cell? a4=some u4/\w'.cell? a5=some u5/\w'.cell? a6=some u6/\w'.cell? a7=some u7/\w'.cell? a8=some u8:=⟨ce1 hb h0,ce1 hb h1,ce1 hb h2,ce1 hb h3,ce1 hb h4,ce1 hb h5,ce1 hb h6,ce1 hb h7,ce1 hb h8⟩
theorem CU {w w':World} (hb:Below w.heap.size w w') {a0 a1 a2 a3 a4 a5 a6 a7 a8 a9:Addr} {u0 u1 u2 u3 u4 u5 u6 u7 u8 u9:Value} (h0:w.cell? a0=some u0) (h1:w.cell? a1=some u1) (h2:w.cell? a2=some u2) (h3:w.cell? a3=some u3) (h4:w.cell? a4=some u4) (h5:w.cell? a5=some u5) (h6:w.cell? a6=some u6) (h7:w.cell? a7=some u7) (h8:w.cell? a8=some u8) (h9:w.cell? a9=some u9):w'.cell? a0=some u0/\w'.cell? a1=some u1/\w'.cell? a2=some u2/\w'.cell? a3=some u3/\w'.cell? a4=some u4/\w'.cell? a5=some u5/\w'.cell? a6=some u6/\w'.cell? a7=some u7/\w'.cell? a8=some u8/\w'.cell? a9=some u9:=⟨ce1 hb h0,ce1 hb h1,ce1 hb h2,ce1 hb h3,ce1 hb h4,ce1 hb h5,ce1 hb h6,ce1 hb h7,ce1 hb h8,ce1 hb h9⟩
theorem cn3 {w:World} {n:Nat} {a0 a1 a2:Addr} {u0 u1 u2:Value} (h0:w.cell? a0=some u0) (h1:w.cell? a1=some u1) (h2:w.cell? a2=some u2):(w.drewN n).cell? a0=some u0/\(w.drewN n).cell? a1=some u1/\(w.drewN n).cell? a2=some u2:=⟨h0,h1,h2⟩
theorem C5 {w:World} {n:Nat} {a0 a1 a2 a3 a4 a5 a6 a7 a8 a9:Addr} {u0 u1 u2 u3 u4 u5 u6 u7 u8 u9:Value} (h0:w.cell? a0=some u0) (h1:w.cell? a1=some u1) (h2:w.cell? a2=some u2) (h3:w.cell? a3=some u3) (h4:w.cell? a4=some u4) (h5:w.cell? a5=some u5) (h6:w.cell? a6=some u6) (h7:w.cell? a7=some u7) (h8:w.cell? a8=some u8) (h9:w.cell? a9=some u9):(w.drewN n).cell? a0=some u0/\(w.drewN n).cell? a1=some u1/\(w.drewN n).cell? a2=some u2/\(w.drewN n).cell? a3=some u3/\(w.drewN n).cell? a4=some u4/\(w.drewN n).cell? a5=some u5/\(w.drewN n).cell? a6=some u6/\(w.drewN n).cell? a7=some u7/\(w.drewN n).cell? a8=some u8/\(w.drewN n).cell? a9=some u9:=⟨h0,h1,h2,h3,h4,h5,h6,h7,h8,h9⟩
theorem bA (w:World) (o:Obj):Below w.heap.size w (w.alloc o):=(Below.refl _ w).alloc (Nat.le_refl _) o
theorem bD (w:World):Below w.heap.size w w.drew:=(Below.refl _ w).drew
theorem bL {w:World} {a:Addr} {u:Value} (h:w.cell? a=some u):a.block < w.heap.size:=World.block_lt_of_cell? w _ h
theorem orT {A B C E:Prop} (h:(A/\E)\/(B/\C)) (hb:¬ B:=by (intro h;cases h)):E:=h.elim (fun h=>h.2) (fun h=>absurd h.1 hb)
end Go.Proofs.YtfffpjkcfnekaaaGreat
namespace Go.Proofs.YtfffpjkcfnekaaaGreat.Ex
open Go.RowKit Go.ChangeShapes Go.WideShapes
open Go.Value renaming slice -> O, int -> zd, bool -> zg, agg -> zh, pointer -> zi, tuple -> zk
open Go.IntKind renaming i64 -> U
open Go.Obj renaming cells -> ze
open Go.Ending renaming returned -> zj
theorem Tryz.cellsX:Tryz.prog.cellsOf 94=3:=by kernel_rfl
theorem Tryz.cellsXs:Tryz.prog.cellsOf 92=1:=by kernel_rfl
theorem Tryz.cellsI:Tryz.prog.cellsOf 3=1:=by kernel_rfl
abbrev D:=DataW Empty
def xD (k n:Int) (args:List D):D:=.agg [.lit (.int U k),.lit (.int U n),.slice args []]
def XS (size:Nat) (R:List Value->D->Prop) (w:World) (v:Value) (ds:List D):Prop:=
 ds.length<=maxLen/\∃ ao cap,v=O ao ds.length cap/\(ds≠[]->∃ b off,ao=some ⟨b,off,none⟩ /\
  ∀ (i:Nat) (d:D),ds[i]? = some d->∃ cs:List Value,cs.length=size/\(∀ (j:Nat) (u:Value),cs[j]? = some u->w.cell? ⟨b,off+i*size+j,none⟩=some u)/\R cs d)
def Cu (n:Int):Prop:=-9223372036854775808<=n/\n<=9223372036854775807
theorem RK {n:Int} (h:(Lit.int U n).wf=true):Cu n:=by
 have a:(decide (IntKind.i64.min<=n) && decide (n<=IntKind.i64.max))=true:=h;rw [Bool.and_eq_true,decide_eq_true_iff,decide_eq_true_iff] at a;exact a
def RX (w:World):Nat->List Value->D->Prop
 | 0,_,_=>False
 | k+1,cs,d=>∃ (kd n:Int) (v:Value) (ds:List D),cs=[zd U kd,zd U n,v]/\d=xD kd n ds/\Cu kd/\Cu n/\XS 3 (RX w k) w v ds
theorem XS.mono {size:Nat} {R R':List Value->D->Prop} {w w':World} {v:Value} {ds:List D} (h:XS size R w v ds)
  (hw:∀ a u,w.cell? a=some u->w'.cell? a=some u) (hR:∀ cs d,d∈ds->R cs d->R' cs d):XS size R' w' v ds:=by
 obtain ⟨q,t,l,n,s⟩:=h;refine ⟨q,t,l,n,fun e=>?_⟩;obtain ⟨b,c,k,f⟩:=s e;refine ⟨b,c,k,fun i d m=>?_⟩;obtain ⟨cs,r,g,p⟩:=f i d m;exact ⟨cs,r,fun j u o=>hw _ _ (g j u o),hR cs d (List.mem_of_getElem? m) p⟩
theorem RX.mono {w w':World} (hw:∀ a u,w.cell? a=some u->w'.cell? a=some u) :
  ∀ (k m:Nat) (cs:List Value) (d:D),k<=m->RX w k cs d->RX w' m cs d:=by
 intro k
 induction k with
 | zero=>intro m cs d _ h;exact h.elim
 | succ k ih=>
  intro m cs d g h;obtain ⟨b,rfl⟩:∃ b,m=b + 1:=⟨m - 1,by omega⟩;obtain ⟨e,n,v,p,c,j,o,l,f⟩:=h;exact ⟨e,n,v,p,c,j,o,l,f.mono hw (fun cs d _ i=>ih b cs d (by omega) i)⟩
theorem FX {H:Type} {enc:TypeId × Value->H} {W:World}:∀ (fuel:Nat) (cs:List Value) (x:DataW H × List MemPlace),DataW.trod enc Tryz.prog W 0 (fun _=>true) true fuel 94 cs=some x->∃ d,RX W fuel cs d:=by
 intro fuel
 induction fuel using Nat.strongRecOn with
 | ind fuel ih=>
  intro cs x h;obtain ⟨Q,n,rfl,hx,q,C,l⟩:=DataW.trod_struct Tryz.underlying94 h;rw [Tryz.cellsX] at q
  match cs,q,Q,C with
  | [c0,c1,c2],_,[y0,y1,y2],_=>
   have B:=l 0 _ rfl;have N:=l 1 _ rfl;have M:=l 2 _ rfl;simp [Tryz.cellsI,Tryz.cellsXs] at B N M;obtain ⟨a,P,S⟩:=DataW.trod_int Tryz.underlying3 B;obtain ⟨b,O,R⟩:=DataW.trod_int Tryz.underlying3 N;simp at P O;subst P;subst O;have K:Cu a:=RK S.2;have J:Cu b:=RK R.2;rcases DataW.trod_slice Tryz.underlying92 M with ⟨e,-⟩ | ⟨z,c,I,G,L,m,rfl,e,-,-,X,aa,Z,y,-,-⟩
   ·simp at e
    subst e;exact ⟨xD a b [],a,b,_,[],rfl,rfl,K,J,by simp,none,0,rfl,fun h=>absurd rfl h⟩
   ·simp at e
    subst e;rw [Tryz.cellsX] at y;have t:∀ i,i < c->∃ d:D,∃ cs:List Value,cs.length=3/\(∀ (j:Nat) (u:Value),cs[j]? = some u->W.cell? (z.add (i*3+j))=some u)/\RX W (m+1) cs d:=fun i A=>by
     have s:=y i A;rw [List.getElem?_eq_getElem (by omega),Option.bind_eq_some_iff] at s;obtain ⟨cs,w,T⟩:=s;obtain ⟨-,p,g⟩:=World.cells?_some w;obtain ⟨d,v⟩:=ih m (by omega) cs _ T;refine ⟨d,cs,p,fun j u k=>?_,RX.mono (fun _ _ h=>h) m (m+1) cs d (by omega) v⟩;have Y:j < 3:=by have:=(List.getElem?_eq_some_iff.1 k).1;omega
     have r:=g j Y;rw [k] at r;rw [Addr.add_add] at r;exact r
    obtain ⟨f,l⟩:=Deep.choose_lt t;refine ⟨xD a b ((List.range c).map f),a,b,_,(List.range c).map f,rfl,rfl,K,J,by simp;omega,some z,I,by simp,fun E=>?_⟩;have B:0 < c:=by
     rcases Nat.eq_zero_or_pos c with h | h
     ·subst h;simp at E
     ·exact h
    have V:∃ b off,z=⟨b,off,none⟩:=by
     obtain ⟨cs,q,w,-⟩:=l 0 B;obtain ⟨u,k⟩:∃ u,cs[0]? = some u:=⟨cs[0]'(by omega),List.getElem?_eq_getElem (by omega)⟩;have r:=w 0 u k;have o:z.spot=none:=by simpa [Addr.add] using World.cell?_spot r
     obtain ⟨b,off,sp⟩:=z;simp only at o;subst o;exact ⟨b,off,rfl⟩
    obtain ⟨bb,off,rfl⟩:=V;refine ⟨bb,off,rfl,fun i d v=>?_⟩;have A:i < c:=by
     have:=(List.getElem?_eq_some_iff.1 v).1;simpa using this
    have F:d=f i:=by
     rw [List.getElem?_map,List.getElem?_range A] at v;simpa using v.symm
    subst F;obtain ⟨cs,q,w,U⟩:=l i A;exact ⟨cs,q,fun j u k=>by have:=w j u k;rw [Addr.add_lit] at this;simpa [Nat.add_assoc] using this,U⟩
end Go.Proofs.YtfffpjkcfnekaaaGreat.Ex
namespace Go.Proofs.YtfffpjkcfnekaaaGreat.Ex
open Go.RowKit
open Go.Value renaming slice -> O, int -> zd, bool -> zg, agg -> zh, pointer -> zi, tuple -> zk
open Go.IntKind renaming i64 -> U
open Go.Obj renaming cells -> ze
open Go.Ending renaming returned -> zj
theorem Aa {p:Prop} (h:p):Hx p:=h
theorem GE (x a b:Int) (w:World) :
  Calls Tryz.prog 76 #[zd U x,zd U a,zd U b] w fun e w'=>e=zj (zg (decide (a<=x/\x<=b)))/\w'=w:=by
 by_cases h1:a<=x
 ·by_cases h2:x<=b
  ·go_enter Tryz.func76,Tryz.ntmps76
   go_wp2
   go_ret;exact ⟨by simp;omega,rfl⟩
  ·go_enter Tryz.func76,Tryz.ntmps76
   go_wp2
   go_ret;exact ⟨by simp;omega,rfl⟩
 ·go_enter Tryz.func76,Tryz.ntmps76
  go_wp2
  go_ret;exact ⟨by simp;omega,rfl⟩
def D9 (n:Int):Bool:=decide (-2147483648<=n/\n<=2147483647)
def wrap32 (z:Int):Int:=(z+2147483648) % 4294967296 - 2147483648
theorem EA (z:Int):-2147483648<=wrap32 z/\wrap32 z<=2147483647:=by unfold wrap32;omega
theorem An {W w1:World} (hb:Ov W w1):(∀ b o,b < W.heap.size->w1.cell? ⟨b,o,none⟩=W.cell? ⟨b,o,none⟩)/\(∀ b o,b < W.heap.size->w1.frozen? ⟨b,o,none⟩=W.frozen? ⟨b,o,none⟩):=
 ⟨fun b o h=>hb.cell (p:=⟨b,o,none⟩) h,fun b o h=>hb.frozen (p:=⟨b,o,none⟩) h⟩
theorem Ab {w w':World} (hb:Ov w w') (a:Addr) (u:Value) (h:w.cell? a=some u):w'.cell? a=some u:=by
 rw [hb.cell (bL h)];exact h
theorem RX.over {w w':World} {k:Nat} {cs:List Value} {d:D} (h:RX w k cs d) (hb:Ov w w'):RX w' k cs d:=RX.mono (Ab hb) k k cs d (Nat.le_refl _) h
def A4:D->List D
 | .agg [_,_,.slice l _]=>l
 | _=>[]
def AQ:D->Int
 | .agg (.lit (.int _ n)::_)=>n
 | _=>0
def Bk:D->Int
 | .agg (_::.lit (.int _ n)::_)=>n
 | _=>0
@[simp] theorem Lj (k n:Int) (l:List D):A4 (xD k n l)=l:=rfl
@[simp] theorem Hn (k n:Int) (l:List D):AQ (xD k n l)=k:=rfl
@[simp] theorem MO (k n:Int) (l:List D):Bk (xD k n l)=n:=rfl
theorem RX.form {w:World} {k:Nat} {cs:List Value} {d:D} (h:RX w k cs d):∃ ao cap,cs=[zd U (AQ d),zd U (Bk d),O ao (A4 d).length cap]:=by
 cases k with
 | zero=>exact h.elim
 | succ k=>
  obtain ⟨a,n,v,b,rfl,rfl,-,-,-,ao,cap,rfl,-⟩:=h;exact ⟨ao,cap,rfl⟩
def BM (f:D->Int->Int) (m:Int):List D->Int->Int
 | [],n=>n
 | a::l,n=>if n<=m then BM f m l (n+f a (m - n)) else n
def Cp:Nat->D->Int->Int
 | 0,_,_=>1
 | k+1,d,m=>BM (Cp k) m (A4 d) 1
theorem GG (f:D->Int->Int) (hf:∀ d m,0<=m->1<=f d m/\f d m<=m+1) (m:Int):∀ (l:List D) (n:Int),1<=n->n<=m+1->1<=BM f m l n/\BM f m l n<=m+1
 | [],n,h1,h2=>⟨h1,h2⟩
 | a::l,n,h1,h2=>by
  unfold BM;split
  ·have:=hf a (m - n) (by omega)
   exact GG f hf m l _ (by omega) (by omega)
  ·exact ⟨h1,h2⟩
theorem FW:∀ (k:Nat) (d:D) (m:Int),0<=m->1<=Cp k d m/\Cp k d m<=m+1
 | 0,_,m,h=>by unfold Cp;omega
 | k+1,d,m,h=>GG _ (FW k) m _ 1 (by omega) (by omega)
theorem IB (f:D->Int->Int) (m:Int) (l) (n:Int) (h:m < n):BM f m l n=n:=by
 cases l with
 | nil=>rfl
 | cons a l=>unfold BM;rw [if_neg (by omega)]
theorem IA {f:D->Int->Int} {m n:Int} {l:List D} {j:Nat} (hj:j < l.length) (h:n<=m):BM f m (l.drop j) n=BM f m (l.drop (j+1)) (n+f l[j] (m - n)):=by
 rw [List.drop_eq_getElem_cons hj];rw [BM,if_pos h]
def AN (w:World) (v:Value) (l:List Int):Prop:=
 ∃ ao cap,v=O ao l.length cap/\(l≠[]->∃ b off,ao=some ⟨b,off,none⟩/\∀ i (h:i < l.length),w.cell? ⟨b,off+i,none⟩=some (zd U l[i]))
theorem AN.over {w w':World} {v:Value} {l:List Int} (h:AN w v l) (hb:Ov w w'):AN w' v l:=by
 obtain ⟨m,f,g,k⟩:=h;refine ⟨m,f,g,fun c=>?_⟩;obtain ⟨b,a,e,d⟩:=k c;exact ⟨b,a,e,fun i j=>Ab hb _ _ (d i j)⟩
def opX (k a b:Int):Int:=
 if k=3 then wrap32 (a+b) else if k=4 then wrap32 (a - b) else if k=5 then wrap32 (a*b) else if k=6/\a < b\/k=7/\a=b then 1 else 0
def AC (vs:List Int):Nat->D->Int
 | 0,_=>0
 | k+1,d=>if AQ d=1 then Bk d else if AQ d=2 then vs.getD (Bk d).toNat 0 else
  match A4 d with
  | [x,y]=>opX (AQ d) (AC vs k x) (AC vs k y)
  | _=>0
def okX (m:Nat):Nat->D->Prop
 | 0,_=>False
 | k+1,d=>(AQ d=1/\-9999999<=Bk d/\Bk d<=9999999)\/(AQ d=2/\0<=Bk d/\Bk d < m)\/(3<=AQ d/\AQ d<=7/\∃ x y,A4 d=[x,y]/\okX m k x/\okX m k y)
def I32 (n:Int):Prop:=-2147483648<=n/\n<=2147483647
theorem So (k a b:Int):I32 (opX k a b):=by
 unfold opX I32;have e:=EA (a+b);have d:=EA (a - b);have c:=EA (a*b)
 repeat' split
 all_goals omega
theorem Fv {vs:List Int} (hv:∀ x∈vs,I32 x):∀ (k:Nat) (d:D),okX vs.length k d->I32 (AC vs k d):=by
 intro k
 induction k with
 | zero=>intro d h;exact h.elim
 | succ k ih=>
  intro d h;rcases h with ⟨a,e,f⟩ | ⟨a,e,f⟩ | ⟨a,e,x,y,b,i,g⟩
  ·unfold AC
   rw [if_pos a];unfold I32;omega
  ·unfold AC
   rw [if_neg (by omega),if_pos a];have c:(Bk d).toNat < vs.length:=by omega
   rw [List.getD_eq_getElem?_getD,List.getElem?_eq_getElem c];exact hv _ (List.getElem_mem c)
  ·unfold AC
   rw [if_neg (by omega),if_neg (by omega),b];exact So _ _ _
theorem RD {w w0 w1:World} {a0 a1 a2 a3 a4 a5 a6 a7:Addr} {v0 v1 v2 v3 v4 v5 v6 v7:Value}
  (h:w0.cell? a0=some v0/\w0.cell? a1=some v1/\w0.cell? a2=some v2/\w0.cell? a3=some v3/\w0.cell? a4=some v4/\w0.cell? a5=some v5/\w0.cell? a6=some v6/\w0.cell? a7=some v7/\Ov w w0) (hb:Ov w0 w1) :
  w1.cell? a0=some v0/\w1.cell? a1=some v1/\w1.cell? a2=some v2/\w1.cell? a3=some v3/\w1.cell? a4=some v4/\w1.cell? a5=some v5/\w1.cell? a6=some v6/\w1.cell? a7=some v7/\Ov w w1:=by
 obtain ⟨j,i,g,f,e,d,c,b,a⟩:=h;exact ⟨Ab hb _ _ j,Ab hb _ _ i,Ab hb _ _ g,Ab hb _ _ f,Ab hb _ _ e,Ab hb _ _ d,Ab hb _ _ c,Ab hb _ _ b,a.trans (hb.mono a.size)⟩
theorem below_drewN {W w:World} {n:Nat} (h:Below n W w) (k:Nat):Below n W (w.drewN k):=by
 induction k with
 | zero=>exact h
 | succ k ih=>exact ih.drew
theorem DA {W:World} {B B' e s:Nat} {v:Value} {k:Nat} {xs:List Value} (h:W.ownsRow B e s v k xs) (hb:B'<=B):W.ownsRow B' e s v k xs:=by
 obtain ⟨i,a⟩:=h;refine ⟨i,?_⟩;rcases a with a | ⟨g,c,b,d,f,r⟩
 ·exact Or.inl a
 ·exact Or.inr ⟨g,c,b,d,Nat.le_trans hb f,r⟩
theorem Pc {W:World} {B e s:Nat} {v:Value} {k:Nat} {xs:List Value} (h:W.ownsRow B e s v k xs) {g:Nat} (hg:v.ownBlock=some g):B<=g/\g < W.heap.size:=by
 rcases h.2 with ⟨rfl,_⟩ | ⟨f,d,c,rfl,a,b,_⟩
 ·cases hg
 ·simp [Value.ownBlock] at hg
  subst hg;exact ⟨a,(Array.getElem?_eq_some_iff.1 b).1⟩
theorem B5 {B e s:Nat} {W W':World} {v:Value} {k:Nat} {xs:List Value} (h:W.ownsRow B e s v k xs) (hg:W.grownBy W' v.ownBlock) (hB:B<=W.heap.size):Below B W W':=
 ⟨hg.os,hg.tape,hg.output,hg.size,fun j hj=>hg.block j (Nat.lt_of_lt_of_le hj hB) (fun e=>by have:=(Pc h e.symm).1;omega)⟩
def CF:Nat->D->List D
 | 0,_=>[]
 | k+1,d=>d::(A4 d).flatMap (CF k)
def CX (vars k n:Int) (l:Nat):Int:=
 if ¬ (1<=k/\k<=7) then 7 else if k<=2/\l≠0\/2 < k/\l≠2 then 1 else if k=1/\¬ (-9999999<=n/\n<=9999999)\/2 < k/\n≠0 then 3 else if k=2/\¬ (0<=n/\n<=vars - 1) then 5 else 0
def BQ (vars:Int):List D->Int
 | []=>0
 | d::l=>if CX vars (AQ d) (Bk d) (A4 d).length=0 then BQ vars l else CX vars (AQ d) (Bk d) (A4 d).length
def AU (vars:Int) (k:Nat) (d:D):Int:=if 15 < Cp k d 15 then 2 else BQ vars (CF k d)
theorem El {vars:Int}:∀ {l:List D},BQ vars l=0->∀ d∈l,CX vars (AQ d) (Bk d) (A4 d).length=0
 | [],_,d,hd=>by cases hd
 | a::l,h,d,hd=>by
  rw [BQ] at h;split at h
  ·rename_i h0
   rcases List.mem_cons.1 hd with rfl | hd
   ·exact h0
   ·exact El h d hd
  ·rename_i h0
   exact absurd h h0
theorem ES {vars k n:Int} {l:Nat} (h:CX vars k n l=0):(k=1/\-9999999<=n/\n<=9999999)\/(k=2/\0<=n/\n < vars)\/(3<=k/\k<=7/\l=2):=by
 unfold CX at h;split at h
 ·omega
 ·split at h
  ·omega
  ·split at h
   ·omega
   ·split at h
    ·omega
    ·omega
theorem Sp {w:World} {m:Nat}:∀ (k:Nat) (cs:List Value) (d:D),RX w k cs d->(∀ x∈CF k d,CX m (AQ x) (Bk x) (A4 x).length=0)->okX m k d:=by
 intro k
 induction k with
 | zero=>intro cs d h;exact h.elim
 | succ k ih=>
  intro cs d h e;obtain ⟨o,n,v,g,rfl,rfl,s,C,f,E,B,rfl,t⟩:=h;have h0:=ES (e (xD o n g) (by simp [CF]));simp only [Hn,MO,Lj] at h0;rcases h0 with h0 | h0 | ⟨A,z,u⟩
  ·exact Or.inl h0
  ·exact Or.inr (Or.inl h0)
  ·refine Or.inr (Or.inr ⟨A,z,?_⟩)
   match g,u with
   | [x,y],_=>
    obtain ⟨b,l,-,a⟩:=t (by simp);obtain ⟨j,-,-,r⟩:=a 0 x rfl;obtain ⟨i,-,-,p⟩:=a 1 y rfl;exact ⟨x,y,rfl,ih j x r (fun q c=>e q (by simp [CF,c])),ih i y p (fun q c=>e q (by simp [CF,c]))⟩
theorem Pk:∀ (k:Nat) (cs:List Value) (d:D) (w:World) (m:Int),RX w k cs d->0<=m->m<=15 ->
  Calls Tryz.prog 162 #[.agg cs.toArray,zd U m] w fun e w'=>e=zj (zd U (m - Cp k d m))/\Ov w w':=by
 intro k
 induction k with
 | zero=>intro cs d w m h;exact h.elim
 | succ k ih=>
  intro cs d w m h m0 m1;obtain ⟨V,n,v,l,rfl,rfl,W,hn,z,ao,R,rfl,hc⟩:=h;have HC:=Aa hc;have IH:=Aa ih;have HL:l.length<=9223372036854775807:=z;have p:Cp (k+1) (xD V n l) m=BM (Cp k) m l 1:=rfl;rw [p];have A:Ov w (w.alloc (ze #[zd U V,zd U n,O ao l.length R] 94)):=bA w _;clear hc ih p W hn z;show Calls Tryz.prog 162 #[zh #[zd U V,zd U n,O ao l.length R],zd U m] w _;go_enter Tryz.func162,Tryz.ntmps162;go_wp2_with fail;go_loopw [1,12] (fun c i wr=>∃ (j:Nat) (t:Int),j<=l.length/\i=zd U j/\c=zd U (m - t)/\1<=t/\t<=m+1/\BM (Cp k) m l 1=BM (Cp k) m (l.drop j) t/\Ov w wr) (fun _ i _=>l.length - (intOf i).toNat)
  case atStart=>exact ⟨0,1,Nat.zero_le _,rfl,rfl,by omega,by omega,rfl,A⟩
  case round=>
   clear A;obtain ⟨j,t,hj,rfl,rfl,t1,t2,hp,I⟩:=hrel;have Y:=Aa hp;clear hp;by_cases hjl:j < l.length
   ·obtain ⟨b,T,rfl,H⟩:=HC.o (by rintro rfl;simp at hjl)
    obtain ⟨cs,L,u,K⟩:=H j l[j] (List.getElem?_eq_getElem hjl);obtain ⟨S,B,s⟩:=K.form;have a:=fun h=>IA (f:=Cp k) (m:=m) (n:=t) hjl h;have q:=fun h=>FW k l[j] (m - t) h;obtain ⟨Q,G⟩:=nm (l[j]);rw [<-G] at a q K s;obtain ⟨kj,F⟩:=nm (AQ Q);obtain ⟨nj,C⟩:=nm (Bk Q);obtain ⟨lj,E⟩:=nm ((A4 Q).length);rw [<-F,<-C,<-E] at s;subst s;have q0:wr.cell? ⟨b,T+j*3,none⟩=_:=Ab I _ _ (u 0 _ rfl);have q1:=Ab I _ _ (u 1 _ rfl);have q2:=Ab I _ _ (u 2 _ rfl);have N:Ov wr (wr.alloc (ze #[zd U kj,zd U nj,O S lj B] 94)):=bA wr _;have x:Ov w (wr.alloc (ze #[zd U kj,zd U nj,O S lj B] 94)):=I.trans (N.mono I.size);by_cases htm:t<=m
    ·have a:=a htm
     have q:=q (by omega);have g:=IH.o _ Q _ (m - t) (K.over x) (by omega) (by omega);obtain ⟨r,J⟩:=nm (Cp k Q (m - t));rw [<-J] at g a q;have y:=Aa g;have HN:=Aa a;clear g a J F C E K u H L G;go_wp2_with fail;refine (y.o).mono ?_;rintro e w1 ⟨rfl,P⟩;have X:Ov w w1:=x.trans (P.mono x.size);clear q0 q1 q2 I P y N x;go_wp2_with fail;exact ⟨⟨j+1,t+r,by omega,by go_num,by go_num,by omega,by omega,by rw [Y.o,HN.o],X⟩,by simp [intOf];omega⟩
    ·have M:=IB (Cp k) m (l.drop j) t (by omega)
     have Z:=Aa M;have ae:m - t < 0:=by omega
     clear M a q K u H L G F C E htm;go_wp2_with fail;go_ret;exact ⟨by rw [Y.o,Z.o];rfl,x⟩
   ·have M:BM (Cp k) m (l.drop j) t=t:=by rw [List.drop_eq_nil_of_le (by omega)];rfl
    have Z:=Aa M;clear M;go_wp2_with fail;go_ret;exact ⟨by rw [Y.o,Z.o];rfl,I⟩
def Dw (k:Int):Int:=if k=1\/k=2 then 0 else 2
theorem Ie (k:Int) (w:World):Calls Tryz.prog 209 #[zd U k] w fun e w'=>e=zj (zd U (Dw k))/\w'=w:=by
 by_cases h1:k=1
 ·subst h1
  go_enter Tryz.func209,Tryz.ntmps209
  go_wp2
  go_ret;exact ⟨rfl,rfl⟩
 ·by_cases h2:k=2
  ·subst h2
   go_enter Tryz.func209,Tryz.ntmps209
   go_wp2
   go_ret;exact ⟨rfl,rfl⟩
  ·have b:(k == 1)=false:=by simpa using h1
   have a:(k == 2)=false:=by simpa using h2
   go_enter Tryz.func209,Tryz.ntmps209
   go_wp2
   go_ret;exact ⟨by simp [Dw,h1,h2],rfl⟩
theorem E9 (vars:Int):∀ (l m:List D),BQ vars (l++m)=if BQ vars l=0 then BQ vars m else BQ vars l
 | [],m=>by simp [BQ]
 | a::l,m=>by
  rw [List.cons_append,BQ,BQ];split
  ·exact E9 vars l m
  ·rfl
def Gp (vars:Int) (k:Nat):List D->Int
 | []=>0
 | a::l=>if BQ vars (CF k a)=0 then Gp vars k l else BQ vars (CF k a)
theorem G8 (vars:Int) (k:Nat):∀ l:List D,Gp vars k l=BQ vars (l.flatMap (CF k))
 | []=>rfl
 | a::l=>by rw [Gp,List.flatMap_cons,E9,G8 vars k l]
theorem Lz {vars:Int} {k:Nat} {l:List D} {j:Nat} (hj:j < l.length):Gp vars k (l.drop j)=if BQ vars (CF k l[j])=0 then Gp vars k (l.drop (j+1)) else BQ vars (CF k l[j]):=by
 rw [List.drop_eq_getElem_cons hj];rfl
theorem Nq (vars kd n:Int) (dl cap:Nat) (ao:Option Addr) (w:World) (v0:0<=vars) (v1:vars<=9223372036854775807) (HL:dl<=9223372036854775807) (hkd:Cu kd) (hn:Cu n) (hE:CX vars kd n dl≠0) :
  Calls Tryz.prog 163 #[zh #[zd U kd,zd U n,O ao dl cap],zd U vars] w fun e w'=>e=zj (zd U (CX vars kd n dl))/\Ov w w':=by
 have a:Ov w (w.alloc (ze #[zd U kd,zd U n,O ao dl cap] 94)):=bA w _;have d:=Aa fun W=>Ie kd W;obtain ⟨v,u⟩:=hkd;obtain ⟨t,s⟩:=hn;by_cases c1:kd < 1\/7 < kd
 ·have b:CX vars kd n dl=7:=by unfold CX;rw [if_pos (by omega)]
  rw [b];clear b hE;rcases c1 with c1 | c1
  ·go_enter Tryz.func163,Tryz.ntmps163
   go_wp2_with fail;go_ret;exact ⟨rfl,a⟩
  ·have A:¬ kd < 1:=by omega
   go_enter Tryz.func163,Tryz.ntmps163;go_wp2_with fail;go_ret;exact ⟨rfl,a⟩
 ·have z:1<=kd:=by omega
  have y:kd<=7:=by omega
  clear c1;obtain ⟨i,h,g⟩:=rc3 (B3 w [zd U kd,zd U n,O ao dl cap] 94);by_cases c4:(dl:Int)=Dw kd
  ·by_cases c5:kd=1
   ·subst c5
    have p:dl=0:=by simpa [Dw] using c4
    subst p;have f:Dw 1=0:=rfl;rw [f] at d;have b:CX vars 1 n 0=3/\(n < -9999999\/9999999 < n):=by
     unfold CX at hE ⊢;rw [if_neg (by omega),if_neg (by omega)] at hE ⊢;by_cases q:n < -9999999\/9999999 < n
     ·exact ⟨by rw [if_pos (by omega)],q⟩
     ·rw [if_neg (by omega),if_neg (by omega)] at hE
      exact absurd rfl hE
    obtain ⟨b,c5⟩:=b;rw [b];clear b hE c4 f;rcases c5 with c5 | c5
    ·go_enter Tryz.func163,Tryz.ntmps163
     go_wp2_with fail;go_region_held3 (fun W=>W.cell? ⟨w.heap.size,0,none⟩=some (zd U 1)/\W.cell? ⟨w.heap.size,1,none⟩=some (zd U n)/\W.cell? ⟨w.heap.size,2,none⟩=some (O ao 0 cap)/\Ov w W) (first | assumption | exact ⟨i,h,g,below_drewN a 1⟩ | fail) (first | (go_at_call 209;refine (d.o _).mono ?_;rintro e j ⟨rfl,rfl⟩));obtain ⟨m,l,k,c⟩:=(by assumption:_/\_/\_/\Below _ _ _);go_wp2_with fail;go_ret;exact ⟨rfl,c⟩
    ·have p:¬ n < -9999999:=by omega
     go_enter Tryz.func163,Tryz.ntmps163;go_wp2_with fail;go_region_held3 (fun W=>W.cell? ⟨w.heap.size,0,none⟩=some (zd U 1)/\W.cell? ⟨w.heap.size,1,none⟩=some (zd U n)/\W.cell? ⟨w.heap.size,2,none⟩=some (O ao 0 cap)/\Ov w W) (first | assumption | exact ⟨i,h,g,below_drewN a 1⟩ | fail) (first | (go_at_call 209;refine (d.o _).mono ?_;rintro e j ⟨rfl,rfl⟩));obtain ⟨m,l,k,c⟩:=(by assumption:_/\_/\_/\Below _ _ _);go_wp2_with fail;go_ret;exact ⟨rfl,c⟩
   ·by_cases c7:kd=2
    ·subst c7
     have p:dl=0:=by simpa [Dw] using c4
     subst p;have f:Dw 2=0:=rfl;rw [f] at d;have b:CX vars 2 n 0=5/\(n < 0\/vars<=n):=by
      unfold CX at hE ⊢;rw [if_neg (by omega),if_neg (by omega),if_neg (by omega)] at hE ⊢;by_cases q:n < 0\/vars<=n
      ·exact ⟨by rw [if_pos (by omega)],q⟩
      ·rw [if_neg (by omega)] at hE
       exact absurd rfl hE
     obtain ⟨b,c5⟩:=b;rw [b];clear b hE c4 f;rcases c5 with c5 | c5
     ·go_enter Tryz.func163,Tryz.ntmps163
      go_wp2_with fail;go_region_held3 (fun W=>W.cell? ⟨w.heap.size,0,none⟩=some (zd U 2)/\W.cell? ⟨w.heap.size,1,none⟩=some (zd U n)/\W.cell? ⟨w.heap.size,2,none⟩=some (O ao 0 cap)/\Ov w W) (first | assumption | exact ⟨i,h,g,below_drewN a 1⟩ | fail) (first | (go_at_call 209;refine (d.o _).mono ?_;rintro e j ⟨rfl,rfl⟩));obtain ⟨m,l,k,c⟩:=(by assumption:_/\_/\_/\Below _ _ _);go_wp2_with fail;go_ret;exact ⟨rfl,c⟩
     ·have p:¬ n < 0:=by omega
      go_enter Tryz.func163,Tryz.ntmps163;go_wp2_with fail;go_region_held3 (fun W=>W.cell? ⟨w.heap.size,0,none⟩=some (zd U 2)/\W.cell? ⟨w.heap.size,1,none⟩=some (zd U n)/\W.cell? ⟨w.heap.size,2,none⟩=some (O ao 0 cap)/\Ov w W) (first | assumption | exact ⟨i,h,g,below_drewN a 1⟩ | fail) (first | (go_at_call 209;refine (d.o _).mono ?_;rintro e j ⟨rfl,rfl⟩));obtain ⟨m,l,k,c⟩:=(by assumption:_/\_/\_/\Below _ _ _);go_wp2_with fail;go_ret;exact ⟨rfl,c⟩
    ·have f:Dw kd=2:=by unfold Dw;rw [if_neg (by omega)]
     rw [f] at d c4;have r:dl=2:=by omega
     subst r;have b:CX vars kd n 2=3/\n≠0:=by
      unfold CX at hE ⊢;rw [if_neg (by omega),if_neg (by omega)] at hE ⊢;by_cases q:n=0
      ·rw [if_neg (by omega),if_neg (by omega)] at hE
       exact absurd rfl hE
      ·exact ⟨by rw [if_pos (by omega)],q⟩
     obtain ⟨b,x⟩:=b;rw [b];clear b hE c4 f;go_enter Tryz.func163,Tryz.ntmps163;go_wp2_with fail;go_region_held3 (fun W=>W.cell? ⟨w.heap.size,0,none⟩=some (zd U kd)/\W.cell? ⟨w.heap.size,1,none⟩=some (zd U n)/\W.cell? ⟨w.heap.size,2,none⟩=some (O ao 2 cap)/\Ov w W) (first | assumption | exact ⟨i,h,g,below_drewN a 1⟩ | fail) (first | (go_at_call 209;refine (d.o _).mono ?_;rintro e j ⟨rfl,rfl⟩));obtain ⟨m,l,k,c⟩:=(by assumption:_/\_/\_/\Below _ _ _);go_wp2_with fail;go_ret;exact ⟨rfl,c⟩
  ·have b:CX vars kd n dl=1:=by
    unfold CX;unfold Dw at c4;rw [if_neg (by omega)];split at c4
    ·rw [if_pos (by omega)]
    ·rw [if_pos (by omega)]
   rw [b];clear b hE;go_enter Tryz.func163,Tryz.ntmps163;go_wp2_with fail;go_region_held3 (fun W=>W.cell? ⟨w.heap.size,0,none⟩=some (zd U kd)/\W.cell? ⟨w.heap.size,1,none⟩=some (zd U n)/\W.cell? ⟨w.heap.size,2,none⟩=some (O ao dl cap)/\Ov w W) (first | assumption | exact ⟨i,h,g,below_drewN a 1⟩ | fail) (first | (go_at_call 209;refine (d.o _).mono ?_;rintro e j ⟨rfl,rfl⟩));obtain ⟨m,l,k,c⟩:=(by assumption:_/\_/\_/\Below _ _ _);go_wp2_with fail;go_ret;exact ⟨rfl,c⟩
theorem Np (vars kd n:Int) (cap:Nat) (ao:Option Addr) (w:World) (v0:0<=vars) (v1:vars<=9223372036854775807) (hE:CX vars kd n 0=0) :
  Calls Tryz.prog 163 #[zh #[zd U kd,zd U n,O ao 0 cap],zd U vars] w fun e w'=>e=zj (zd U 0)/\Ov w w':=by
 have d:=Aa fun W=>Ie kd W;rcases ES hE with ⟨rfl,t,s⟩ | ⟨rfl,t,s⟩ | ⟨_,_,k⟩
 ·have a:Ov w (w.alloc (ze #[zd U 1,zd U n,O ao 0 cap] 94)):=bA w _
  obtain ⟨j,h,g⟩:=rc3 (B3 w [zd U 1,zd U n,O ao 0 cap] 94);have c:Dw 1=0:=rfl;rw [c] at d;clear hE c;have k:¬ n < -9999999:=by omega
  have r:¬ 9999999 < n:=by omega
  go_enter Tryz.func163,Tryz.ntmps163;go_wp2_with fail;go_region_held3 (fun W=>W.cell? ⟨w.heap.size,0,none⟩=some (zd U 1)/\W.cell? ⟨w.heap.size,1,none⟩=some (zd U n)/\W.cell? ⟨w.heap.size,2,none⟩=some (O ao 0 cap)/\Ov w W) (first | assumption | exact ⟨j,h,g,below_drewN a 1⟩ | fail) (first | (go_at_call 209;refine (d.o _).mono ?_;rintro e l ⟨rfl,rfl⟩));obtain ⟨q,p,m,f⟩:=(by assumption:_/\_/\_/\Below _ _ _);go_wp2_with fail;go_loopw [67] (fun i wr=>i=zd U 0/\Ov w wr) (fun _ _=>0)
  case atStart=>exact ⟨rfl,f⟩
  case round=>
   obtain ⟨rfl,b⟩:=hrel;go_wp2_with fail;go_ret;exact ⟨rfl,b⟩
 ·have a:Ov w (w.alloc (ze #[zd U 2,zd U n,O ao 0 cap] 94)):=bA w _
  obtain ⟨j,h,g⟩:=rc3 (B3 w [zd U 2,zd U n,O ao 0 cap] 94);have c:Dw 2=0:=rfl;rw [c] at d;clear hE c;have k:¬ n < 0:=by omega
  have r:¬ vars<=n:=by omega
  go_enter Tryz.func163,Tryz.ntmps163;go_wp2_with fail;go_region_held3 (fun W=>W.cell? ⟨w.heap.size,0,none⟩=some (zd U 2)/\W.cell? ⟨w.heap.size,1,none⟩=some (zd U n)/\W.cell? ⟨w.heap.size,2,none⟩=some (O ao 0 cap)/\Ov w W) (first | assumption | exact ⟨j,h,g,below_drewN a 1⟩ | fail) (first | (go_at_call 209;refine (d.o _).mono ?_;rintro e l ⟨rfl,rfl⟩));obtain ⟨q,p,m,f⟩:=(by assumption:_/\_/\_/\Below _ _ _);go_wp2_with fail;go_loopw [67] (fun i wr=>i=zd U 0/\Ov w wr) (fun _ _=>0)
  case atStart=>exact ⟨rfl,f⟩
  case round=>
   obtain ⟨rfl,b⟩:=hrel;go_wp2_with fail;go_ret;exact ⟨rfl,b⟩
 ·omega
theorem Pa (vars:Int) (v0:0<=vars) (v1:vars<=9223372036854775807):∀ (k:Nat) (cs:List Value) (d:D) (w:World),RX w k cs d ->
  Calls Tryz.prog 163 #[.agg cs.toArray,zd U vars] w fun e w'=>e=zj (zd U (BQ vars (CF k d)))/\Ov w w':=by
 intro k
 induction k with
 | zero=>intro cs d w h;exact h.elim
 | succ k ih=>
  intro cs d w h;obtain ⟨f,n,v,m,rfl,rfl,L,hn,A,G,p,rfl,hc⟩:=h;have s:BQ vars (CF (k+1) (xD f n m))=if CX vars f n m.length=0 then Gp vars k m else CX vars f n m.length:=by
   rw [G8];rfl
  rw [s];show Calls Tryz.prog 163 #[zh #[zd U f,zd U n,O G m.length p],zd U vars] w _;by_cases hE:CX vars f n m.length=0
  ·rw [if_pos hE]
   have hz:=ES hE;cases m with
   | nil=>exact Np vars f n p G w v0 v1 hE
   | cons d0 dr=>
    have ab:3<=f/\f<=7/\(d0::dr).length=2/\n=0:=by
     rcases hz with ⟨rfl,_,_⟩ | ⟨rfl,_,_⟩ | ⟨z1,z2,C⟩
     ·exfalso
      unfold CX at hE;rw [if_neg (by omega),if_pos (by simp)] at hE;omega
     ·exfalso
      unfold CX at hE;rw [if_neg (by omega),if_pos (by simp)] at hE;omega
     ·refine ⟨z1,z2,C,?_⟩
      rw [C] at hE;unfold CX at hE;rw [if_neg (by omega),if_neg (by omega)] at hE;by_cases q:n=0
      ·exact q
      ·rw [if_pos (by omega)] at hE
       omega
    obtain ⟨k1,k2,C,rfl⟩:=ab;obtain ⟨m,M⟩:=nm (d0::dr);rw [<-M] at hc C ⊢;rw [C];have HC:=Aa hc;have IH:=Aa ih;have KA:=Aa fun W=>Ie f W;have ka:Dw f=2:=by unfold Dw;rw [if_neg (by omega)]
    rw [ka] at KA;have Q:Ov w (w.alloc (ze #[zd U f,zd U 0,O G 2 p] 94)):=bA w _;obtain ⟨e0,e1,e2⟩:=rc3 (B3 w [zd U f,zd U 0,O G 2 p] 94);have n1:f≠1:=by omega
    have n2:f≠2:=by omega
    obtain ⟨R,hR⟩:=nm (Gp vars k m);have HR:=Aa hR;have HZ:=Aa C;rw [<-hR];clear hc ih s hE hz A L hn ka M C hR;go_enter Tryz.func163,Tryz.ntmps163;go_wp2_with fail;go_region_held3 (fun W=>W.cell? ⟨w.heap.size,0,none⟩=some (zd U f)/\W.cell? ⟨w.heap.size,1,none⟩=some (zd U 0)/\W.cell? ⟨w.heap.size,2,none⟩=some (O G 2 p)/\Ov w W) (first | assumption | exact ⟨e0,e1,e2,below_drewN Q 1⟩ | fail) (first | (go_at_call 209;refine (KA.o _).mono ?_;rintro e wp ⟨rfl,rfl⟩));obtain ⟨g0,g1,g2,x⟩:=(by assumption:_/\_/\_/\Below _ _ _);go_wp2_with fail;go_loopw [67] (fun i wr=>∃ (j:Nat),j<=2/\i=zd U j/\R=Gp vars k (m.drop j)/\Ov w wr) (fun i _=>2 - (intOf i).toNat)
    case atStart=>exact ⟨0,Nat.zero_le _,rfl,HR.o,x⟩
    case round=>
     clear x g0 g1 g2;obtain ⟨j,hj,rfl,hp,x⟩:=hrel;have V:=Aa hp;clear hp;by_cases hjl:j < 2
     ·have y:j < m.length:=by rw [HZ.o];exact hjl
      obtain ⟨b,Z,rfl,P⟩:=HC.o (by rintro rfl;simp at y);obtain ⟨cs,aa,z,X⟩:=P j m[j] (List.getElem?_eq_getElem y);obtain ⟨T,B,t⟩:=X.form;have a:=Lz (vars:=vars) (k:=k) y;obtain ⟨S,N⟩:=nm (m[j]);rw [<-N] at a X t;obtain ⟨kj,K⟩:=nm (AQ S);obtain ⟨nj,I⟩:=nm (Bk S);obtain ⟨lj,J⟩:=nm ((A4 S).length);rw [<-K,<-I,<-J] at t;subst t;have q0:wr.cell? ⟨b,Z+j*3,none⟩=_:=Ab x _ _ (z 0 _ rfl);have q1:=Ab x _ _ (z 1 _ rfl);have q2:=Ab x _ _ (z 2 _ rfl);have E:Ov wr (wr.alloc (ze #[zd U kj,zd U nj,O T lj B] 94)):=bA wr _;have l:Ov w (wr.alloc (ze #[zd U kj,zd U nj,O T lj B] 94)):=x.trans (E.mono x.size);have g:=IH.o _ S _ (X.over l);obtain ⟨r,H⟩:=nm (BQ vars (CF k S));rw [<-H] at g a;have c:=Aa g;have HN:=Aa a;clear g a H K I J X z P aa N y;by_cases hr0:r=0
      ·subst hr0
       go_wp2_with fail;refine (c.o).mono ?_;rintro e Y ⟨rfl,u⟩;have F:Ov w Y:=l.trans (u.mono l.size);clear q0 q1 q2 x u c E l;go_wp2_with fail;exact ⟨⟨j+1,by omega,by go_num,by rw [V.o,HN.o];rfl,F⟩,by simp [intOf];omega⟩
      ·have hd:R=r:=by rw [V.o,HN.o,if_neg hr0]
       subst hd;clear V HN HR;go_wp2_with fail;refine (c.o).mono ?_;rintro e Y ⟨rfl,u⟩;have F:Ov w Y:=l.trans (u.mono l.size);clear q0 q1 q2 x u c E l;go_wp2_with fail;go_ret;exact ⟨rfl,F⟩
     ·have hd:R=0:=by
       rw [V.o,List.drop_eq_nil_of_le (by rw [HZ.o];omega)];rfl
      subst hd;clear V HR;go_wp2_with fail;go_ret;exact ⟨rfl,x⟩
  ·rw [if_neg hE]
   exact Nq vars f n m.length p G w v0 v1 A L hn hE
theorem check_any (k:Nat) (cs:List Value) (d) (w:World) (vars:Int) (v0:0<=vars) (v1:vars<=9223372036854775807) (h:RX w k cs d) :
  Calls Tryz.prog 102 #[.agg cs.toArray,zd U vars] w fun e w'=>e=zj (zd U (AU vars k d))/\Ov w w':=by
 have j:=Aa fun W C=>Pk k cs d W 15 (h.over C) (by omega) (by omega);have s:=Aa fun W C=>Pa vars v0 v1 k cs d W (h.over C);obtain ⟨x,i,rfl⟩:=h.form;obtain ⟨t,m⟩:=nm (AQ d);obtain ⟨n,D⟩:=nm (Bk d);obtain ⟨v,q⟩:=nm ((A4 d).length);rw [<-m,<-D,<-q] at j s ⊢;clear m D q;obtain ⟨p,u⟩:=nm (Cp k d 15);have b:AU vars k d=if 15 < p then 2 else BQ vars (CF k d):=by rw [u];rfl
 rw [<-u] at j;have f:=FW k d 15 (by omega);rw [<-u] at f;obtain ⟨z,A⟩:=nm (15 - p);rw [<-A] at j;clear u;obtain ⟨H,G,F⟩:=rc3 (B3 w [zd U t,zd U n,O x v i] 94);have a:Ov w (w.alloc (ze #[zd U t,zd U n,O x v i] 94)):=bA w _;by_cases hq:15 < p
 ·rw [b,if_pos hq]
  have l:z < 0:=by omega
  clear b s hq A f;show Calls Tryz.prog 102 #[zh #[zd U t,zd U n,O x v i],zd U vars] w _;go_enter Tryz.func102,Tryz.ntmps102;go_wp2_with fail;refine (j.o _ a).mono ?_;rintro e y ⟨rfl,c⟩;have g:Ov w y:=a.trans (c.mono a.size);clear c j;go_wp2_with fail;go_ret;exact ⟨rfl,g⟩
 ·rw [b,if_neg hq]
  have l:¬ z < 0:=by omega
  obtain ⟨R,E⟩:=nm (BQ vars (CF k d));rw [<-E] at s ⊢;clear b hq E A f;show Calls Tryz.prog 102 #[zh #[zd U t,zd U n,O x v i],zd U vars] w _;go_enter Tryz.func102,Tryz.ntmps102;go_wp2_with fail;refine (j.o _ a).mono ?_;rintro e y ⟨rfl,c⟩;have g:Ov w y:=a.trans (c.mono a.size);obtain ⟨L,K,J⟩:=co3 c H G F;clear c j H G F;go_wp2_with fail;refine (s.o _ g).mono ?_;rintro e I ⟨rfl,r⟩;have B:Ov w I:=g.trans (r.mono g.size);clear r s;go_wp2_with fail;go_ret;exact ⟨rfl,B⟩
theorem EJ (b:Bool) (w:World):Calls Tryz.prog 230 #[zg b] w fun e w'=>e=zj (zd U (if b then 1 else 0))/\w'=w:=by
 cases b
 ·go_enter Tryz.func230,Tryz.ntmps230
  go_wp2
  go_ret;exact ⟨rfl,rfl⟩
 ·go_enter Tryz.func230,Tryz.ntmps230
  go_wp2
  go_ret;exact ⟨rfl,rfl⟩
theorem OG (z:Int):wrap64 (RowKit.wrap32 z)=wrap32 z:=by
 have h:=EA z;have e:RowKit.wrap32 z=wrap32 z:=by
  simp only [RowKit.wrap32,wrap32]
 rw [e];simp only [wrap64];omega
theorem LA (k a b:Int) (ha:I32 a) (hb:I32 b) (hk:3<=k/\k<=7) (w:World):Calls Tryz.prog 191 #[zd U k,zd U a,zd U b] w fun e w'=>e=zj (zd U (opX k a b))/\w'=w:=by
 obtain ⟨j,i⟩:=ha;obtain ⟨g,f⟩:=hb;rcases (by omega:k=3\/k=4\/k=5\/k=6\/k=7) with rfl | rfl | rfl | rfl | rfl
 ·go_enter Tryz.func191,Tryz.ntmps191
  go_wp2_with fail;go_ret;refine ⟨?_,rfl⟩;show Ending.returned (Value.int IntKind.i64 (wrap64 (RowKit.wrap32 (a+b))))=_;rw [OG];rfl
 ·go_enter Tryz.func191,Tryz.ntmps191
  go_wp2_with fail;go_ret;refine ⟨?_,rfl⟩;show Ending.returned (Value.int IntKind.i64 (wrap64 (RowKit.wrap32 (a - b))))=_;rw [OG];rfl
 ·go_enter Tryz.func191,Tryz.ntmps191
  go_wp2_with fail;go_ret;refine ⟨?_,rfl⟩;show Ending.returned (Value.int IntKind.i64 (wrap64 (RowKit.wrap32 (a*b))))=_;rw [OG];rfl
 ·by_cases h:a < b
  ·have c:=Aa fun W=>EJ true W
   go_enter Tryz.func191,Tryz.ntmps191;go_wp2_with fail;refine (c.o _).mono ?_;rintro e d ⟨rfl,rfl⟩;go_wp2_with fail;go_ret;exact ⟨by simp [opX,h],rfl⟩
  ·have c:=Aa fun W=>EJ false W
   go_enter Tryz.func191,Tryz.ntmps191;go_wp2_with fail;refine (c.o _).mono ?_;rintro e d ⟨rfl,rfl⟩;go_wp2_with fail;go_ret;exact ⟨by simp [opX,h],rfl⟩
 ·by_cases h:a=b
  ·have c:=Aa fun W=>EJ true W
   have hb:(a == b)=true:=by simpa using h
   go_enter Tryz.func191,Tryz.ntmps191;go_wp2_with fail;try rw [hb]
   refine (c.o _).mono ?_;rintro e d ⟨rfl,rfl⟩;go_wp2_with fail;go_ret;exact ⟨by simp [opX,h],rfl⟩
  ·have c:=Aa fun W=>EJ false W
   have hb:(a == b)=false:=by simpa using h
   go_enter Tryz.func191,Tryz.ntmps191;go_wp2_with fail;try rw [hb]
   refine (c.o _).mono ?_;rintro e d ⟨rfl,rfl⟩;go_wp2_with fail;go_ret;exact ⟨by simp [opX,h],rfl⟩
theorem IP (cs:List Value) (d) (k:Nat) (w:World) (vv:Value) (vs) (h:RX w (k+1) cs d) (hi:AN w vv vs) (hk:(AQ d=1)\/(AQ d=2/\0<=Bk d/\Bk d < vs.length)) :
  Calls Tryz.prog 126 #[.agg cs.toArray,vv] w fun e w'=>e=zj (zd U (AC vs (k+1) d))/\Ov w w':=by
 obtain ⟨s,n,v,q,rfl,rfl,l,D,f,x,o,rfl,u⟩:=h;simp only [Hn,MO] at hk;obtain ⟨z,y,rfl,g⟩:=hi;have a:Ov w (w.alloc (ze #[zd U s,zd U n,O x q.length o] 94)):=bA w _;show Calls Tryz.prog 126 #[zh #[zd U s,zd U n,O x q.length o],O z vs.length y] w _;rcases hk with rfl | ⟨rfl,C,B⟩
 ·have i:AC vs (k+1) (xD 1 n q)=n:=rfl
  rw [i];clear i u g f l;go_enter Tryz.func126,Tryz.ntmps126;go_wp2_with fail;go_ret;exact ⟨rfl,a⟩
 ·have p:n.toNat < vs.length:=by omega
  have i:AC vs (k+1) (xD 2 n q)=vs[n.toNat]:=by
   show vs.getD n.toNat 0=_;rw [List.getD_eq_getElem?_getD,List.getElem?_eq_getElem p];rfl
  obtain ⟨b,A,rfl,m⟩:=g (by rintro rfl;simp at p);have c:=m _ p;obtain ⟨j,rfl⟩:∃ j:Nat,n=j:=⟨n.toNat,by omega⟩;rw [i];simp only [Int.toNat_natCast] at c p ⊢;obtain ⟨r,t⟩:=nm (vs[j]);rw [<-t] at c ⊢;have E:=Ab a _ _ c;clear i u g f l m t;go_enter Tryz.func126,Tryz.ntmps126;go_wp2_with fail;go_ret;exact ⟨rfl,a⟩
theorem Nj (kd n:Int) (b off cap:Nat) (xk xn yk yn:Int) (xa ya:Option Addr) (xl yl xc yc:Nat) (vv:Value) (w:World) (a c:Int) (ha:I32 a) (hc:I32 c) (hkd:3<=kd/\kd<=7)
  (q0:w.cell? ⟨b,off,none⟩=some (zd U xk)) (q1:w.cell? ⟨b,off+1,none⟩=some (zd U xn)) (q2:w.cell? ⟨b,off+2,none⟩=some (O xa xl xc))
  (r0:w.cell? ⟨b,off+3,none⟩=some (zd U yk)) (r1:w.cell? ⟨b,off+3+1,none⟩=some (zd U yn)) (r2:w.cell? ⟨b,off+3+2,none⟩=some (O ya yl yc))
  (KX:Hx (∀ W,Ov w W->Calls Tryz.prog 126 #[zh #[zd U xk,zd U xn,O xa xl xc],vv] W fun e w'=>e=zj (zd U a)/\Ov W w'))
  (KY:Hx (∀ W,Ov w W->Calls Tryz.prog 126 #[zh #[zd U yk,zd U yn,O ya yl yc],vv] W fun e w'=>e=zj (zd U c)/\Ov W w')) :
  Calls Tryz.prog 126 #[zh #[zd U kd,zd U n,O (some ⟨b,off,none⟩) 2 cap],vv] w fun e w'=>e=zj (zd U (opX kd a c))/\Ov w w':=by
 have d:Ov w (w.alloc (ze #[zd U kd,zd U n,O (some ⟨b,off,none⟩) 2 cap] 94)):=bA w _;obtain ⟨k,j,i,h,g,f⟩:=co6 d q0 q1 q2 r0 r1 r2;have l:=B3 w [zd U kd,zd U n,O (some ⟨b,off,none⟩) 2 cap] 94;have p:=l 0 _ rfl;have m:=l 2 _ rfl;clear l;have s:kd≠1:=by omega
 have r:kd≠2:=by omega
 clear q0 q1 q2 r0 r1 r2;have q:=Aa fun W=>LA kd a c ha hc hkd W;go_enter Tryz.func126,Tryz.ntmps126;go_wp2_with fail;go_region_held3 (fun W=>W.cell? ⟨w.heap.size,0,none⟩=some (zd U kd)/\W.cell? ⟨w.heap.size,2,none⟩=some (O (some ⟨b,off,none⟩) 2 cap)/\W.cell? ⟨b,off,none⟩=some (zd U xk)/\W.cell? ⟨b,off+1,none⟩=some (zd U xn)/\W.cell? ⟨b,off+2,none⟩=some (O xa xl xc)/\W.cell? ⟨b,off+3,none⟩=some (zd U yk)/\W.cell? ⟨b,off+3+1,none⟩=some (zd U yn)/\W.cell? ⟨b,off+3+2,none⟩=some (O ya yl yc)/\Ov w W) (first | assumption | exact ⟨p,m,k,j,i,h,g,f,below_drewN d 1⟩ | exact RD (by assumption) hbp | exact RD (by assumption) hbq | fail) (first | (go_at_call_of 126 (Value.agg #[zd U xk,zd U xn,O xa xl xc]);refine (KX.o _ (by assumption:_/\_/\_/\_/\_/\_/\_/\_/\Below _ _ _).2.2.2.2.2.2.2.2).mono ?_;rintro e x ⟨rfl,hbp⟩) | (go_at_call_of 126 (Value.agg #[zd U yk,zd U yn,O ya yl yc]);refine (KY.o _ (by assumption:_/\_/\_/\_/\_/\_/\_/\_/\Below _ _ _).2.2.2.2.2.2.2.2).mono ?_;rintro e v ⟨rfl,hbq⟩) | (go_at_call 191;refine (q.o _).mono ?_;rintro e u ⟨rfl,rfl⟩));obtain ⟨-,-,-,-,-,-,-,-,t⟩:=(by assumption:_/\_/\_/\_/\_/\_/\_/\_/\Below _ _ _);clear k j i h g f p m d KX KY q;go_wp2_with fail;go_ret;exact ⟨rfl,t⟩
theorem O8 (vs:List Int) (hv:∀ x∈vs,I32 x):∀ (k:Nat) (cs:List Value) (d:D) (w:World) (vv:Value),RX w k cs d->okX vs.length k d->AN w vv vs ->
  Calls Tryz.prog 126 #[.agg cs.toArray,vv] w fun e w'=>e=zj (zd U (AC vs k d))/\Ov w w':=by
 intro k
 induction k with
 | zero=>intro cs d w vv h;exact h.elim
 | succ k ih=>
  intro cs d w vv h M m;rcases M with ⟨c,-,-⟩ | ⟨c,o,P⟩ | ⟨c,o,x,y,g,J,I⟩
  ·exact IP cs d k w vv vs h m (Or.inl c)
  ·exact IP cs d k w vv vs h m (Or.inr ⟨c,o,P⟩)
  ·obtain ⟨a,n,v,X,rfl,rfl,N,V,K,Y,u,rfl,O⟩:=h
   simp only [Hn,Lj] at c o g;subst g;obtain ⟨b,p,rfl,j⟩:=O (by simp);obtain ⟨S,-,t,i⟩:=j 0 x rfl;obtain ⟨Q,-,r,f⟩:=j 1 y rfl;obtain ⟨T,A,s⟩:=i.form;obtain ⟨R,z,q⟩:=f.form;subst s;subst q;have L:AC vs (k+1) (xD a n [x,y])=opX a (AC vs k x) (AC vs k y):=by
    show (if a=1 then n else if a=2 then vs.getD n.toNat 0 else opX a (AC vs k x) (AC vs k y))=_;rw [if_neg (by omega),if_neg (by omega)]
   rw [L];obtain ⟨H,G,F⟩:=rc3 t;obtain ⟨E,C,B⟩:=rc3 r;simp only [Nat.zero_mul,Nat.one_mul,Nat.add_zero] at H G F E C B;exact Nj a n b p u _ _ _ _ _ _ _ _ _ _ vv w _ _ (Fv hv k x J) (Fv hv k y I) ⟨c,o⟩ H G F E C B
    (Aa fun W l=>ih _ x W vv (i.over l) J (m.over l)) (Aa fun W l=>ih _ y W vv (f.over l) I (m.over l))
theorem Jw (x:Int) (w:World):Calls Tryz.prog 125 #[zd U x] w fun e w'=>e=zj (zg (!D9 x))/\w'=w:=by
 by_cases h1:x < -2147483648
 ·go_enter Tryz.func125,Tryz.ntmps125
  go_wp2
  go_ret;exact ⟨by simp [D9];omega,rfl⟩
 ·by_cases h2:2147483647 < x
  ·go_enter Tryz.func125,Tryz.ntmps125
   go_wp2
   go_ret;exact ⟨by simp [D9];omega,rfl⟩
  ·go_enter Tryz.func125,Tryz.ntmps125
   go_wp2
   go_ret;exact ⟨by simp [D9];omega,rfl⟩
theorem SK (args:Array Value) (w:World):(callFunc 125 args).run Tryz.prog w=.ok (.enter 125 args) w:=by simp [go_sem]
theorem Ir (vs) (v:Value) (w:World) (hv:AN w v vs) (hl:vs.length<=9223372036854775807) :
  Calls Tryz.prog 190 #[v,.func (.func 125) #[] #[]] w fun e w'=>∃ r:Int,e=zj (zd U r)/\decide (0<=r)=!vs.all D9/\w'=w:=by
 obtain ⟨F,C,rfl,l⟩:=hv;have s:=Aa l;have y:=SK;clear l;go_enter Tryz.func190,Tryz.ntmps190;go_wp2_with fail;go_loopw [8] (fun i wr=>∃ k:Nat,k<=vs.length/\i=zd U k/\(vs.take k).all D9=true/\wr=w) (fun i _=>vs.length - (intOf i).toNat)
 case atStart=>exact ⟨0,Nat.zero_le _,rfl,rfl,rfl⟩
 case round=>
  obtain ⟨k,E,rfl,g,rfl⟩:=hrel;have m:=Aa g;clear g;by_cases hkl:k < vs.length
  ·obtain ⟨b,B,rfl,j⟩:=s.o (by rintro rfl;simp at hkl)
   have A:=j k hkl;have d:D9 vs[k]=false->vs.all D9=false:=fun h=>by rw [List.all_eq_false];exact ⟨vs[k],List.getElem_mem hkl,by simp [h]⟩
   have f:D9 vs[k]=true->(vs.take (k+1)).all D9=true:=fun h=>by rw [List.take_succ_eq_append_getElem hkl,List.all_append,m.o];simp [h]
   obtain ⟨x,t⟩:=nm (vs[k]);rw [<-t] at A d f;have a:=Jw x wr;obtain ⟨r,u⟩:=nm (D9 x);rw [<-u] at a d f;have c:=Aa a;have p:=Aa d;have q:=Aa f;clear a d f u t j m;cases r with
   | true=>
    go_wp2_with fail;refine (c.o).mono ?_;rintro e z ⟨rfl,rfl⟩;go_wp2_with fail;exact ⟨⟨k+1,by omega,by go_num,q.o (by first | rfl | trivial),by first | rfl | trivial⟩,by simp [intOf];omega⟩
   | false=>
    go_wp2_with fail;refine (c.o).mono ?_;rintro e z ⟨rfl,rfl⟩;go_wp2_with fail;go_ret;refine ⟨(k:Int),by first | rfl | trivial,?_,by first | rfl | trivial⟩;rw [p.o (by first | rfl | trivial)];simp
  ·have n:=m.o
   rw [List.take_of_length_le (by omega)] at n;have D:=Aa n;clear n m;go_wp2_with fail;go_ret;refine ⟨-1,by first | rfl | trivial,?_,by first | rfl | trivial⟩;rw [D.o];rfl
theorem Ga (vs) (v:Value) (w:World) (hv:AN w v vs) (hl:vs.length<=9223372036854775807) :
  Calls Tryz.prog 124 #[v,.func (.func 125) #[] #[]] w fun e w'=>e=zj (zg (!vs.all D9))/\w'=w:=by
 have b:=Aa (Ir vs v w hv hl);clear hv;obtain ⟨u,f⟩:=nm v;go_enter Tryz.func124,Tryz.ntmps124;go_wp2_with fail;refine (b.o).mono ?_;rintro e d ⟨r,rfl,a,rfl⟩;have c:=Aa a;clear a b;go_wp2_with fail;go_ret;exact ⟨by rw [<-c.o];rfl,by first | rfl | trivial⟩
theorem Nx (at' why:Int) (w:World):Calls Tryz.prog 215 #[zd U at',zg true,zd U why] w fun e w'=>e=zj (zk #[])/\w'=w:=by
 go_enter Tryz.func215,Tryz.ntmps215;go_wp2_with fail;go_end0;exact ⟨rfl,rfl⟩
theorem BO (why:Int) (w:World):Calls Tryz.prog 172 #[zg true,zd U why] w fun e w'=>e=zj (zk #[])/\w'=w:=by
 have K:=Aa fun W=>Nx 0 why W;go_enter Tryz.func172,Tryz.ntmps172;go_wp2_with fail;refine (K.o _).mono ?_;rintro e a ⟨rfl,rfl⟩;go_wp2_with fail;go_end0;exact ⟨rfl,rfl⟩
theorem Qc (w:World):Calls Tryz.prog 171 #[zd U 0] w fun e w'=>e=zj (zk #[])/\w'=w:=by
 have K:=Aa fun W=>BO 0 W;go_enter Tryz.func171,Tryz.ntmps171;go_wp2_with fail;refine (K.o _).mono ?_;rintro e a ⟨rfl,rfl⟩;go_wp2_with fail;go_end0;exact ⟨rfl,rfl⟩
theorem Bf (x m:Int) (w:World):Calls Tryz.prog 173 #[zd U x,zd U m] w fun e w'=>e=zj (zg (decide (0<=x/\x < m)))/\w'=w:=by
 by_cases h1:0<=x
 ·by_cases h2:x < m
  ·go_enter Tryz.func173,Tryz.ntmps173
   go_wp2
   go_ret;exact ⟨by simp;omega,rfl⟩
  ·go_enter Tryz.func173,Tryz.ntmps173
   go_wp2
   go_ret;exact ⟨by simp;omega,rfl⟩
 ·go_enter Tryz.func173,Tryz.ntmps173
  go_wp2
  go_ret;exact ⟨by simp;omega,rfl⟩
theorem Ac {w0 w1 w2:World} (h:Ov w0 w1) (h2:Ov w1 w2):Ov w0 w2:=h.trans (h2.mono h.size)
end Go.Proofs.YtfffpjkcfnekaaaGreat.Ex
namespace Go.Proofs.YtfffpjkcfnekaaaGreat
open Go.RowKit
open Go.Value renaming slice -> O, int -> zd, bool -> zg, agg -> zh, pointer -> zi, tuple -> zk
open Go.IntKind renaming i64 -> U
open Go.Obj renaming cells -> ze
open Go.Ending renaming returned -> zj
def Reach (gs:List (Nat × Nat)) (w k:Nat):Prop:=∀ S:Nat->Prop,S w->(∀ g∈gs,S g.1->S g.2)->S k
theorem LC (gs:List (Nat × Nat)) (w:Nat):Reach gs w w:=fun _ h _=>h
theorem LB {gs:List (Nat × Nat)} {w:Nat} {g:Nat × Nat} (hg:g∈gs) (h:Reach gs w g.1):Reach gs w g.2:=fun S h0 hS=>hS g hg (h S h0 hS)
def Dt (gs:List (Nat × Nat)) (w:Nat) (l:List Bool):Prop:=l[w]? = some true/\∀ k:Nat,l[k]? = some true->Reach gs w k
def D3 (gs:List (Nat × Nat)) (l:List Bool):Prop:=∀ g∈gs,l[g.1]? = some true->l[g.2]? = some true
theorem II {gs:List (Nat × Nat)} {w:Nat} {l:List Bool} {g:Nat × Nat} (h:Dt gs w l) (hg:g∈gs) (hk:l[g.1]? = some true):Dt gs w (l.set g.2 true):=by
 refine ⟨?_,fun k a=>?_⟩
 ·rw [List.getElem?_set]
  split
  ·split
   ·rfl
   ·rename_i e c
    subst e;have b:=h.1;rw [List.getElem?_eq_none (by omega)] at b;cases b
  ·exact h.1
 ·rw [List.getElem?_set] at a
  split at a
  ·rename_i e
   subst e;exact LB hg (h.2 _ hk)
  ·exact h.2 k a
theorem IX {gs:List (Nat × Nat)} {w:Nat} {l:List Bool} (h:Dt gs w l) (hc:D3 gs l) (k:Nat):l[k]? = some true ↔ Reach gs w k:=
 ⟨fun e=>h.2 k e,fun hr=>hr (fun k=>l[k]? = some true) h.1 hc⟩
theorem NE {gs:List (Nat × Nat)} {w:Nat} {l m:List Bool} (h:Dt gs w l) (hc:D3 gs l) (h2:Dt gs w m) (hc2:D3 gs m) (hl:l.length=m.length):l=m:=by
 apply List.ext_getElem?;intro k;have e:=(IX h hc k).trans (IX h2 hc2 k).symm;by_cases hk:k < l.length
 ·have a:k < m.length:=by omega
  rw [List.getElem?_eq_getElem hk,List.getElem?_eq_getElem a] at e ⊢;simp only [Option.some.injEq] at e ⊢;exact Bool.eq_iff_iff.2 e
 ·rw [List.getElem?_eq_none (by omega),List.getElem?_eq_none (by omega)]
def C2 (l:List Bool) (g:Nat × Nat):List Bool:=if l[g.1]? = some true then l.set g.2 true else l
def pass (gs:List (Nat × Nat)) (l:List Bool):List Bool:=gs.foldl C2 l
theorem Jj (l:List Bool) (g:Nat × Nat):(C2 l g).length=l.length:=by
 unfold C2;split <;> simp
theorem Gq (gs:List (Nat × Nat)) (l:List Bool):(pass gs l).length=l.length:=by
 unfold pass
 induction gs generalizing l with
 | nil=>rfl
 | cons g gs ih=>rw [List.foldl_cons,ih,Jj]
theorem JY (l:List Bool) (g:Nat × Nat):C2 l g=l\/l.count true < (C2 l g).count true:=by
 unfold C2;split
 ·by_cases h:g.2 < l.length
  ·by_cases hb:l[g.2]=true
   ·left
    rw [<-hb];exact List.set_getElem_self h
   ·right
    have a:l[g.2]=false:=by simpa using hb
    rw [List.count_set h];rw [a];simp
  ·left
   exact List.set_eq_of_length_le (by omega)
 ·exact Or.inl rfl
theorem LE (gs:List (Nat × Nat)) (l:List Bool):(pass gs l=l/\∀ g∈gs,C2 l g=l)\/l.count true < (pass gs l).count true:=by
 unfold pass
 induction gs generalizing l with
 | nil=>exact Or.inl ⟨rfl,by simp⟩
 | cons g gs ih=>
  rw [List.foldl_cons];rcases JY l g with h | h
  ·rw [h]
   rcases ih l with ⟨h1,b⟩ | h1
   ·left
    refine ⟨h1,fun c a=>?_⟩;rcases List.mem_cons.1 a with rfl | a
    ·exact h
    ·exact b c a
   ·exact Or.inr h1
  ·right
   rcases ih (C2 l g) with ⟨h1,_⟩ | h1
   ·rw [h1];exact h
   ·omega
theorem GJ {gs:List (Nat × Nat)} {l:List Bool} (hb:∀ g∈gs,g.2 < l.length) (h:∀ g∈gs,C2 l g=l):D3 gs l:=fun g hg hk=>by
 have:=h g hg;unfold C2 at this;rw [if_pos hk] at this;rw [<-this,List.getElem?_set_self (hb g hg)]
theorem LD {gs hs:List (Nat × Nat)} {w:Nat} {l:List Bool} (h:Dt gs w l) (hm:∀ g∈hs,g∈gs):Dt gs w (pass hs l):=by
 unfold pass
 induction hs generalizing l with
 | nil=>exact h
 | cons g hs ih=>
  rw [List.foldl_cons];refine ih ?_ fun c a=>hm c (List.mem_cons_of_mem _ a);unfold C2;split
  ·rename_i b
   exact II h (hm g (by simp)) b
  ·exact h
def BG (gs:List (Nat × Nat)):Nat->List Bool->List Bool
 | 0,l=>l
 | n+1,l=>pass gs (BG gs n l)
theorem C1 (gs:List (Nat × Nat)) (n:Nat) (l:List Bool):(BG gs n l).length=l.length:=by
 induction n with
 | zero=>rfl
 | succ n ih=>rw [BG,Gq,ih]
theorem Jn {gs:List (Nat × Nat)} {w n:Nat} {l:List Bool} (h:Dt gs w l):Dt gs w (BG gs n l):=by
 induction n with
 | zero=>exact h
 | succ n ih=>exact LD ih fun _ h=>h
theorem Jo (gs:List (Nat × Nat)) (n:Nat) (l:List Bool) (hb:∀ g∈gs,g.2 < l.length):D3 gs (BG gs n l)\/l.count true+n<=(BG gs n l).count true:=by
 induction n with
 | zero=>right;simp [BG]
 | succ n ih=>
  rw [BG];have b:∀ g∈gs,g.2 < (BG gs n l).length:=by rw [C1];exact hb
  rcases LE gs (BG gs n l) with ⟨h1,i⟩ | h1
  ·left
   rw [h1];exact GJ b i
  ·rcases ih with ih | ih
   ·left
    have a:∀ g∈gs,C2 (BG gs n l) g=BG gs n l:=fun g f=>by
     unfold C2;split
     ·rename_i e
      have:=ih g f e;obtain ⟨d,h⟩:=List.getElem?_eq_some_iff.1 this;rw [<-h];exact List.set_getElem_self d
     ·rfl
    have:pass gs (BG gs n l)=BG gs n l:=by
     generalize BG gs n l=m at a;unfold pass;clear h1 ih hb b
     induction gs with
     | nil=>rfl
     | cons g gs ih2=>
      rw [List.foldl_cons,a g (by simp)];exact ih2 fun j c=>a j (List.mem_cons_of_mem _ c)
    rw [this];exact ih
   ·right;omega
theorem Iq {gs:List (Nat × Nat)} {w:Nat} {l:List Bool} (h:Dt gs w l) (hb:∀ g∈gs,g.2 < l.length):D3 gs (BG gs l.length l):=by
 rcases Jo gs l.length l hb with h1 | h1
 ·exact h1
 ·have b:=List.count_le_length (a:=true) (l:=BG gs l.length l)
  rw [C1] at b;have c:0 < l.count true:=List.count_pos_iff.2 (List.mem_of_getElem? h.1);omega
def C8 (n w:Nat):List Bool:=(List.replicate n false).set w true
theorem Ec (gs:List (Nat × Nat)) {n w:Nat} (h:w < n):Dt gs w (C8 n w):=by
 unfold C8;refine ⟨by rw [List.getElem?_set_self (by simpa using h)],fun k a=>?_⟩;rw [List.getElem?_set] at a;split at a
 ·rename_i e;subst e;exact LC _ _
 ·rw [List.getElem?_replicate] at a
  split at a <;> cases a
def acts (gs:List (Nat × Nat)) (n w:Nat):List Bool:=BG gs n (C8 n w)
theorem Cm (n w:Nat):(C8 n w).length=n:=by simp [C8]
theorem BJ (gs:List (Nat × Nat)) (n w:Nat):(acts gs n w).length=n:=by rw [acts,C1,Cm]
theorem Mw (gs:List (Nat × Nat)) {n w:Nat} (h:w < n):Dt gs w (acts gs n w):=Jn (Ec gs h)
theorem Ll {gs:List (Nat × Nat)} {n w:Nat} (h:w < n) (hb:∀ g∈gs,g.2 < n):D3 gs (acts gs n w):=by
 have:=Iq (gs:=gs) (Ec gs h) (by rw [Cm];exact hb);rw [Cm] at this;exact this
theorem PQ {gs:List (Nat × Nat)} {n w:Nat} (h:w < n) (hb:∀ g∈gs,g.2 < n) {l:List Bool} (hl:l.length=n) (h1:Dt gs w l) (h2:D3 gs l):l=acts gs n w:=
 NE h1 h2 (Mw gs h) (Ll h hb) (by rw [hl,BJ])
theorem Aa {p:Prop} (h:p):Hx p:=h
theorem An {W w1:World} (hb:Ov W w1):(∀ b o,b < W.heap.size->w1.cell? ⟨b,o,none⟩=W.cell? ⟨b,o,none⟩)/\(∀ b o,b < W.heap.size->w1.frozen? ⟨b,o,none⟩=W.frozen? ⟨b,o,none⟩):=
 ⟨fun b o h=>hb.cell (p:=⟨b,o,none⟩) h,fun b o h=>hb.frozen (p:=⟨b,o,none⟩) h⟩
def BB (m x:Int):Bool:=decide (0<=x/\x < m)
theorem IZ (m x:Int) (s:Value) (w:World) :
  Calls Tryz.prog 168 #[zh #[zd U m,s],zd U x] w fun e w'=>e=zj (zg (BB m x))/\Ov w w':=by
 have a:Ov w (w.alloc (ze #[zd U m,s] 24)):=bA w _;by_cases h1:(0:Int)<=x
 ·by_cases h2:x < m
  ·go_enter Tryz.func168,Tryz.ntmps168
   go_wp2
   go_ret;exact ⟨by simp [BB];omega,a⟩
  ·go_enter Tryz.func168,Tryz.ntmps168
   go_wp2
   go_ret;exact ⟨by simp [BB];omega,a⟩
 ·go_enter Tryz.func168,Tryz.ntmps168
  go_wp2
  go_ret;exact ⟨by simp [BB];omega,a⟩
theorem GE (x a b:Int) (w:World) :
  Calls Tryz.prog 76 #[zd U x,zd U a,zd U b] w fun e w'=>e=zj (zg (decide (a<=x/\x<=b)))/\w'=w:=by
 by_cases h1:a<=x
 ·by_cases h2:x<=b
  ·go_enter Tryz.func76,Tryz.ntmps76
   go_wp2
   go_ret;exact ⟨by simp;omega,rfl⟩
  ·go_enter Tryz.func76,Tryz.ntmps76
   go_wp2
   go_ret;exact ⟨by simp;omega,rfl⟩
 ·go_enter Tryz.func76,Tryz.ntmps76
  go_wp2
  go_ret;exact ⟨by simp;omega,rfl⟩
theorem Kv (m x:Int) (hm:1<=m/\m<=6) (s:Value) (w:World) :
  Calls Tryz.prog 25 #[zh #[zd U m,s],zd U x] w fun e w'=>e=zj (zg (BB m x))/\Ov w w':=by
 have a:Ov w (w.alloc (ze #[zd U m,s] 24)):=bA w _;go_enter Tryz.func25,Tryz.ntmps25;go_wp2_with fail;refine (GE x 0 (m - 1) _).mono ?_;rintro e w' ⟨rfl,rfl⟩;go_wp2_with fail;go_ret;exact ⟨congrArg (fun b=>Ending.returned (zg b)) (by rw [Bool.eq_iff_iff];simp [BB];omega),a⟩
def AA (w:World) (v:Value) (gs:List (Int × Int)):Prop:=
 ∃ ao cap,v=O ao gs.length cap/\(gs≠[]->∃ b off,ao=some ⟨b,off,none⟩/\∀ i (h:i < gs.length),w.cell? ⟨b,off+i*2,none⟩=some (zd U gs[i].1)/\w.cell? ⟨b,off+i*2+1,none⟩=some (zd U gs[i].2))
theorem Af {w w':World} {v:Value} {gs:List (Int × Int)} (h:AA w v gs) (hb:Ov w w'):AA w' v gs:=by
 obtain ⟨m,f,rfl,k⟩:=h;refine ⟨m,f,rfl,fun d=>?_⟩;obtain ⟨b,c,rfl,e⟩:=k d;refine ⟨b,c,rfl,fun i j=>?_⟩;obtain ⟨g,l⟩:=e i j;have a:=bL g;exact ⟨by rw [(An hb).1 _ _ a];exact g,by rw [(An hb).1 _ _ a];exact l⟩
def DD (p:Int × Int->Bool) (gs:List (Int × Int)):Int:=match gs.findIdx? p with | some i=>i | none=>-1
theorem Pt {p:Int × Int->Bool} {gs:List (Int × Int)} {k:Nat} (hk:k < gs.length) (h:(gs.take k).all (fun g=>!p g)=true) (hp:p gs[k]=true):DD p gs=k:=by
 have:gs.findIdx? p=some k:=by
  rw [List.findIdx?_eq_some_iff_getElem];refine ⟨hk,hp,fun j a=>?_⟩;have:=List.all_eq_true.1 h gs[j] (by rw [List.mem_take_iff_getElem];exact ⟨j,by omega,rfl⟩);simpa using this
 simp [DD,this]
theorem LZ {p:Int × Int->Bool} {gs:List (Int × Int)} (h:gs.all (fun g=>!p g)=true):DD p gs=-1:=by
 have:gs.findIdx? p=none:=by
  rw [List.findIdx?_eq_none_iff];intro x a;have:=List.all_eq_true.1 h x a;simpa using this
 simp [DD,this]
theorem E8 (F:FuncId) (cv:Value) (p:Int × Int->Bool) (v:Value) (gs) (w:World) (hv:AA w v gs) (hn:gs.length<=20)
  (hF:Hx (∀ (i:Nat) (h:i < gs.length) (w1:World),Ov w w1->Calls Tryz.prog F #[zh #[zd U gs[i].1,zd U gs[i].2],cv] w1 fun e w2=>e=zj (zg (p gs[i]))/\Ov w1 w2))
  (hC:∀ (args:Array Value) (w:World),(callFunc F args).run Tryz.prog w=.ok (.enter F args) w) :
  Calls Tryz.prog 193 #[v,.func (.func F) #[] #[cv]] w fun e w'=>e=zj (zd U (DD p gs))/\Ov w w':=by
 obtain ⟨M,G,rfl,l⟩:=hv;go_enter Tryz.func193,Tryz.ntmps193;go_wp2_with fail;go_loopw [8] (fun i wr=>∃ k:Nat,k<=gs.length/\i=zd U k/\(gs.take k).all (fun g=>!p g)=true/\Ov w wr) (fun i _=>gs.length - (intOf i).toNat)
 case atStart=>exact ⟨0,Nat.zero_le _,rfl,rfl,Below.refl _ w⟩
 case round=>
  obtain ⟨k,J,rfl,d,a⟩:=hrel;by_cases hkl:k < gs.length
  ·obtain ⟨b,D,rfl,t⟩:=l (by rintro rfl;simp at hkl)
   obtain ⟨u,A⟩:=t k hkl;have y:=bL u;rw [<-(An a).1 _ _ y] at u A;have c:=hF.o k hkl;have n:=fun (x:p gs[k]=true)=>Pt hkl d x;have j:p gs[k]=false->(gs.take (k+1)).all (fun g=>!p g)=true:=fun x=>by
    rw [List.take_succ_eq_append_getElem hkl,List.all_append,d];simp [x]
   obtain ⟨r,B⟩:=nm (p gs[k]);obtain ⟨L,s⟩:=nm (gs[k].1);obtain ⟨K,q⟩:=nm (gs[k].2);rw [<-B] at c n j;rw [<-s] at u c;rw [<-q] at A c;have C:=Aa c;have I:=Aa n;have H:=Aa j;clear B s q c n j t l hF;cases r with
   | true=>
    go_wp2_with fail;refine (C.o _ a).mono ?_;rintro e w2 ⟨rfl,m⟩;have f:Ov w w2:=a.trans (m.mono a.size);go_wp2_with fail;go_ret;exact ⟨by rw [I.o (by first | rfl | trivial)];rfl,f⟩
   | false=>
    go_wp2_with fail;refine (C.o _ a).mono ?_;rintro e w2 ⟨rfl,m⟩;have f:Ov w w2:=a.trans (m.mono a.size);go_wp2_with fail;exact ⟨⟨k+1,by omega,by go_num,H.o (by first | rfl | trivial),f⟩,by simp [intOf];omega⟩
  ·have z:k=gs.length:=by omega
   rw [z,List.take_length] at d;have E:=LZ d;clear d l hF;go_wp2_with fail;go_ret;exact ⟨by rw [E];rfl,a⟩
def Ib (m:Int) (g:Int × Int):Bool:=!BB m g.1 || !BB m g.2
def AR (m:Int) (gs:List (Int × Int)):Int:=if 1<=m/\m<=6 then (if gs.length<=20 then (if gs.any (Ib m)=true then 5 else 0) else 2) else 3
theorem SJ (args:Array Value) (w:World):(callFunc 167 args).run Tryz.prog w=.ok (.enter 167 args) w:=by simp [go_sem]
theorem SI (args:Array Value) (w:World):(callFunc 192 args).run Tryz.prog w=.ok (.enter 192 args) w:=by simp [go_sem]
theorem Mj (m:Int) (s:Value) (b:Nat) (g:Int × Int) (w:World) (h0:w.cell? ⟨b,0,none⟩=some (zd U m)) (h1:w.cell? ⟨b,1,none⟩=some s) :
  Calls Tryz.prog 167 #[zh #[zd U g.1,zd U g.2],zi (some ⟨b,0,none⟩)] w fun e w'=>e=zj (zg (Ib m g))/\Ov w w':=by
 obtain ⟨q,p⟩:=g;have d:=bL h0;have B:b≠w.heap.size:=by have:b < w.heap.size:=d;omega
 simp only;have v:=fun w=>IZ m q s w;have u:=fun w=>IZ m p s w;obtain ⟨x,k⟩:=nm (BB m q);obtain ⟨A,j⟩:=nm (BB m p);have i:Ib m (q,p)=(!x || !A):=by rw [k,j];rfl
 rw [<-k] at v;rw [<-j] at u;rw [i];have y:=Aa v;have D:=Aa u;clear v u k j i;have f:Ov w (w.alloc (ze #[zd U q,zd U p] 169)):=bA w _;cases x with
 | true=>
  go_enter Tryz.func167,Tryz.ntmps167;go_wp2_with fail;refine (y.o _).mono ?_;rintro e n ⟨rfl,c⟩;obtain ⟨r,C⟩:=An c;have h:b < (w.alloc (ze #[zd U q,zd U p] 169)).heap.size:=by simp;exact Nat.lt_succ_of_lt d
  have G:n.cell? ⟨b,0,none⟩=some (zd U m):=by rw [r _ _ h,(An f).1 _ _ d];exact h0
  have F:n.cell? ⟨b,1,none⟩=some s:=by rw [r _ _ h,(An f).1 _ _ d];exact h1
  have E:n.cell? ⟨w.heap.size,1,none⟩=some (zd U p):=by rw [r _ _ (by simp)];simp [go_sem]
  have a:Ov w n:=f.trans (c.mono (by simp));clear r C c;go_wp2_with fail;refine (D.o _).mono ?_;rintro e z ⟨rfl,t⟩;have l:Ov w z:=a.trans (t.mono a.size);go_wp2_with fail;go_ret;exact ⟨by simp,l⟩
 | false=>
  go_enter Tryz.func167,Tryz.ntmps167;go_wp2_with fail;refine (y.o _).mono ?_;rintro e n ⟨rfl,c⟩;have a:Ov w n:=f.trans (c.mono (by simp));go_wp2_with fail;go_ret;exact ⟨by simp,a⟩
theorem Qq (p:Int × Int->Bool) (gs):decide (0<=DD p gs)=gs.any p:=by
 unfold DD;cases h:gs.findIdx? p with
 | none=>
  have:gs.any p=false:=by rw [List.any_eq_false];intro x a;have:=(List.findIdx?_eq_none_iff.1 h) x a;simpa using this
  rw [this];rfl
 | some i=>
  obtain ⟨c,b,_⟩:=List.findIdx?_eq_some_iff_getElem.1 h;have:gs.any p=true:=List.any_eq_true.2 ⟨_,List.getElem_mem c,b⟩;rw [this];simp
theorem Gb (m:Int) (s:Value) (b:Nat) (v:Value) (gs) (w:World) (hv:AA w v gs) (hn:gs.length<=20)
  (h0:w.cell? ⟨b,0,none⟩=some (zd U m)) (h1:w.cell? ⟨b,1,none⟩=some s) :
  Calls Tryz.prog 166 #[v,.func (.func 167) #[] #[zi (some ⟨b,0,none⟩)]] w fun e w'=>e=zj (zg (gs.any (Ib m)))/\Ov w w':=by
 have f:=E8 167 (zi (some ⟨b,0,none⟩)) (Ib m) v gs w hv hn (Aa fun i n g j=>by
  have a:=bL h0;exact Mj m s b gs[i] g (by rw [(An j).1 _ _ a];exact h0) (by rw [(An j).1 _ _ a];exact h1)) SJ
 have c:=Qq (Ib m) gs;obtain ⟨r,h⟩:=nm (DD (Ib m) gs);rw [<-h] at f c;rw [<-c];have k:=Aa f;clear f c h hv;obtain ⟨u,l⟩:=nm v;go_enter Tryz.func166,Tryz.ntmps166;go_wp2_with fail;refine (k.o).mono ?_;rintro e g ⟨rfl,d⟩;go_wp2_with fail;go_ret;exact ⟨by simp,d⟩
theorem check_any (m:Int) (v:Value) (gs) (w:World) (hv:AA w v gs) :
  Calls Tryz.prog 109 #[zh #[zd U m,v]] w fun e w'=>e=zj (zd U (AR m gs))/\Ov w w':=by
 have a:Ov w (w.alloc (ze #[zd U m,v] 24)):=bA w _;by_cases h1:m < 1
 ·have c:AR m gs=3:=by unfold AR;rw [if_neg (by omega)]
  have d:=Aa c;clear c;go_enter Tryz.func109,Tryz.ntmps109;go_wp2_with fail;go_ret;exact ⟨by rw [d.o];rfl,a⟩
 by_cases h6:6 < m
 ·have c:AR m gs=3:=by unfold AR;rw [if_neg (by omega)]
  have d:=Aa c;clear c;go_enter Tryz.func109,Tryz.ntmps109;go_wp2_with fail;go_ret;exact ⟨by rw [d.o];rfl,a⟩
 have f:=Af hv a;obtain ⟨p,n,h,-⟩:=hv;by_cases hn:gs.length<=20
 ·have c:AR m gs=if gs.any (Ib m)=true then 5 else 0:=by unfold AR;rw [if_pos (by omega),if_pos hn]
  have j:=Gb m v w.heap.size v gs (w.alloc (ze #[zd U m,v] 24)) f hn (by simp [go_sem]) (by simp [go_sem]);obtain ⟨r,k⟩:=nm (gs.any (Ib m));rw [<-k] at c j;subst h;have d:=Aa c;have l:=Aa j;clear c j k f;cases r with
  | true=>
   go_enter Tryz.func109,Tryz.ntmps109;go_wp2_with fail;refine (l.o).mono ?_;rintro e i ⟨rfl,g⟩;have b:Ov w i:=a.trans (g.mono (by simp));go_wp2_with fail;go_ret;exact ⟨by rw [d.o];rfl,b⟩
  | false=>
   go_enter Tryz.func109,Tryz.ntmps109;go_wp2_with fail;refine (l.o).mono ?_;rintro e i ⟨rfl,g⟩;have b:Ov w i:=a.trans (g.mono (by simp));go_wp2_with fail;go_ret;exact ⟨by rw [d.o];rfl,b⟩
 ·have c:AR m gs=2:=by unfold AR;rw [if_pos (by omega),if_neg hn]
  have d:=Aa c;subst h;clear c f;go_enter Tryz.func109,Tryz.ntmps109;go_wp2_with fail;go_ret;exact ⟨by rw [d.o];rfl,a⟩
def toI (g:Nat × Nat):Int × Int:=((g.1:Int),(g.2:Int))
def Co (w:World) (kb:Nat) (l:List Bool):Prop:=∀ i (h:i < l.length),w.cell? ⟨kb,i,none⟩=some (zg l[i])/\w.frozen? ⟨kb,i,none⟩=false
theorem Hm {w w':World} {kb:Nat} {l:List Bool} (h:Co w kb l) (hb:Ov w w'):Co w' kb l:=fun i hi=>by
 obtain ⟨h1,h2⟩:=h i hi;have hlt:=bL h1;exact ⟨by rw [(An hb).1 _ _ hlt];exact h1,by rw [(An hb).2 _ _ hlt];exact h2⟩
theorem IW {w:World} {kb:Nat} {l:List Bool} (h:Co w kb l) {j:Nat} (hj:j < l.length) (c:Bool):Co (w.setCell ⟨kb,j,none⟩ (zg c)) kb (l.set j c):=fun i hi=>by
 have hi':i < l.length:=by simpa using hi
 obtain ⟨a,b⟩:=h i hi';refine ⟨?_,?_⟩
 ·by_cases e:j=i
  ·subst e
   rw [World.cell?_setCell_same _ _ _ a];simp
  ·rw [World.cell?_setCell_other _ _ _ _ (by intro h;exact e (by injection h)),List.getElem_set_ne e]
   exact a
 ·rw [World.frozen?_setCell]
  exact b
def D4 (l:List Bool) (g:Int × Int):Bool:=(l[g.1.toNat]?.getD false) && !(l[g.2.toNat]?.getD false)
theorem ND (kp kb:Nat) (l:List Bool) (g:Nat × Nat) (w:World) (hl:l.length<=6) (hkp:w.cell? ⟨kp,0,none⟩=some (O (some ⟨kb,0,none⟩) l.length l.length)) (hk:Co w kb l)
  (h0:g.1 < l.length) (h1:g.2 < l.length) :
  Calls Tryz.prog 192 #[zh #[zd U (toI g).1,zd U (toI g).2],zi (some ⟨kp,0,none⟩)] w fun e w'=>e=zj (zg (D4 l (toI g)))/\Ov w w':=by
 obtain ⟨d,c⟩:=g;simp only [toI] at h0 h1 ⊢;have b:D4 l ((d:Int),(c:Int))=(l[d] && !l[c]):=by simp [D4,h0,h1]
 rw [b];obtain ⟨i,-⟩:=hk d h0;obtain ⟨m,-⟩:=hk c h1;obtain ⟨n,h⟩:=nm (l[d]);obtain ⟨o,f⟩:=nm (l[c]);rw [<-h] at i;rw [<-f] at m;rw [<-h,<-f];have k:=bL hkp;have j:=bL i;have a:Ov w (w.alloc (ze #[zd U d,zd U c] 169)):=bA w _;clear h f b hk;cases n with
 | true=>
  go_enter Tryz.func192,Tryz.ntmps192;go_wp2_with fail;go_ret;exact ⟨by simp,a⟩
 | false=>
  go_enter Tryz.func192,Tryz.ntmps192;go_wp2_with fail;go_ret;exact ⟨by simp,a⟩
theorem Tryz.info4:(Tryz.prog.info? 4).map (fun i=>(i.zero,i.size,i.bytes))=some (some (zg false),1,1):=by kernel_rfl
theorem Dx (n:Nat) (hn:n<=6) (w:World):(Instr.makeSlice 48 (zd U n) (zd U n)).run Tryz.prog w=.ok (O (some ⟨w.heap.size,0,none⟩) n n) (w.alloc (.cells (List.replicate n (Value.bool false)).toArray 4)):=by
 cases hi:Tryz.prog.info? 4 with
 | none=>have:=Tryz.info4;rw [hi] at this;cases this
 | some i=>
  have a:=Tryz.info4;rw [hi] at a;simp only [Option.map_some,Option.some.injEq,Prod.mk.injEq] at a;obtain ⟨d,c,b⟩:=a;have:=run_make (P:=Tryz.prog) w 48 4 i (zg false) Tryz.underlying48 hi d U U (n:Int) (n:Int) (by omega) (by omega) (by rw [b];omega) (by omega);rw [this,c];simp only [Int.toNat_natCast,Nat.mul_one];have e:madeCells (Value.bool false).cells n=(List.replicate n (Value.bool false)).toArray:=by
   apply Array.ext
   ·simp [madeCells]
   ·intro j c b
    simp [madeCells,Value.cells,Nat.mod_one]
  rw [e]
def Ez (w:World) (n:Nat) (v:Value) (l:List Bool) (W:World):Prop:=
 W.cell? ⟨w.heap.size,0,none⟩=some (zd U n)/\W.cell? ⟨w.heap.size,1,none⟩=some v/\W.cell? ⟨w.heap.size+1+1,0,none⟩=some (O (some ⟨w.heap.size+1,0,none⟩) n n)/\Co W (w.heap.size+1) l/\Ov w W
theorem Ez.over {w W W':World} {n:Nat} {v:Value} {l:List Bool} (h:Ez w n v l W) (hb:Ov W W'):Ez w n v l W':=by
 obtain ⟨e,d,c,f,b⟩:=h;obtain ⟨a,g⟩:=An hb;refine ⟨?_,?_,?_,Hm f hb,b.trans (hb.mono b.size)⟩
 ·rw [a _ _ (bL e)];exact e
 ·rw [a _ _ (bL d)];exact d
 ·rw [a _ _ (bL c)];exact c
theorem Ih {w W:World} {n:Nat} {v:Value} {l:List Bool} {gn:List (Nat × Nat)} (hn:n<=6) (h:Ez w n v l W) (hl:l.length=n) (hv:AA w v (gn.map toI)) (hlen:gn.length<=20) (hb:∀ g∈gn,g.1 < n/\g.2 < n) :
  Calls Tryz.prog 193 #[v,.func (.func 192) #[] #[zi (some ⟨w.heap.size+1+1,0,none⟩)]] W fun e w'=>e=zj (zd U (DD (D4 l) (gn.map toI)))/\Ez w n v l w':=by
 refine (E8 192 (zi (some ⟨w.heap.size+1+1,0,none⟩)) (D4 l) v (gn.map toI) W (Af hv h.2.2.2.2) (by simpa using hlen) (Aa fun i f d a=>?_) SI).mono ?_
 ·have b:i < gn.length:=by simpa using f
  have c:=h.over a;have j:=hb gn[i] (List.getElem_mem b);have:=ND (w.heap.size+1+1) (w.heap.size+1) l gn[i] d (by omega) (by rw [hl];exact c.2.2.1) c.2.2.2.1 (by omega) (by omega);simpa using this
 ·rintro e w' ⟨rfl,a⟩
  exact ⟨rfl,h.over a⟩
def isF:Option Value->Bool
 | some (zg false)=>true
 | _=>false
def JD (kb n:Nat) (W:World):Nat:=(List.range n).countP fun i=>isF (W.cell? ⟨kb,i,none⟩)
theorem I4 {W:World} {kb:Nat} {l:List Bool} (h:Co W kb l):JD kb l.length W=l.count false:=by
 have:l=(List.range l.length).map fun i=>l[i]?.getD false:=by
  apply List.ext_getElem
  ·simp
  ·intro i c d
   simp [c]
 unfold JD
 conv=>rhs;rw [this]
 rw [List.count_eq_countP,List.countP_map];apply List.countP_congr;intro i b;have a:i < l.length:=by simpa using b
 rw [(h i a).1];simp only [Function.comp,a,List.getElem?_eq_getElem,Option.getD_some];cases l[i] <;> simp [isF]
theorem GI {l:List Bool} {j:Nat} (hj:j < l.length) (h:l[j]=false):(l.set j true).count false < l.count false:=by
 rw [List.count_set hj];have a:0 < l.count false:=List.count_pos_iff.2 (List.mem_iff_getElem.2 ⟨j,hj,h⟩);simp [h];omega
theorem NN (l:List Bool) (gn:List (Nat × Nat)) (n:Nat) (hl:l.length=n) (hb:∀ g∈gn,g.1 < n/\g.2 < n) :
  (DD (D4 l) (gn.map toI)=-1/\D3 gn l)\/∃ (k:Nat) (h:k < gn.length),DD (D4 l) (gn.map toI)=k/\l[gn[k].1]? = some true/\l[gn[k].2]? = some false:=by
 have i:∀ g∈gn,D4 l (toI g)=true ↔ l[g.1]? = some true/\l[g.2]? = some false:=fun g b=>by
  obtain ⟨r,e⟩:=hb g b;have q:l[g.1]? = some l[g.1]:=List.getElem?_eq_getElem (by omega);have f:l[g.2]? = some l[g.2]:=List.getElem?_eq_getElem (by omega);simp only [D4,toI,Int.toNat_natCast,q,f,Option.getD_some,Option.some.injEq];cases l[g.1] <;> cases l[g.2] <;> simp
 unfold DD;cases hf:(gn.map toI).findIdx? (D4 l) with
 | none=>
  left;refine ⟨rfl,fun g b o=>?_⟩;have e:=(List.findIdx?_eq_none_iff.1 hf) (toI g) (List.mem_map_of_mem b);have j:¬ (l[g.1]? = some true/\l[g.2]? = some false):=fun h=>by rw [(i g b).2 h] at e;cases e
  have d:g.2 < l.length:=by have:=hb g b;omega
  have f:l[g.2]? = some l[g.2]:=List.getElem?_eq_getElem d;rw [f] at j ⊢;cases hx:l[g.2] with
  | true=>rfl
  | false=>exact absurd ⟨o,by rw [hx]⟩ j
 | some k=>
  right;obtain ⟨p,m,_⟩:=List.findIdx?_eq_some_iff_getElem.1 hf;have a:k < gn.length:=by simpa using p
  have c:D4 l (toI gn[k])=true:=by simpa using m
  exact ⟨k,a,rfl,(i _ (List.getElem_mem a)).1 c⟩
theorem Lm (n who:Nat) (hn:n<=6) (hw:who < n) (v:Value) (gn:List (Nat × Nat)) (w:World) (hv:AA w v (gn.map toI)) (hlen:gn.length<=20) (hb:∀ g∈gn,g.1 < n/\g.2 < n) :
  Calls Tryz.prog 127 #[zh #[zd U n,v],zd U who] w fun e w'=>∃ kb,w.heap.size<=kb/\kb < w'.heap.size/\e=zj (O (some ⟨kb,0,none⟩) n n)/\Co w' kb (acts gn n who)/\Ov w w':=by
 have S:=fun w=>Dx n hn w;have d:Ez w n v (C8 n who) (((w.alloc (Obj.cells #[Value.int IntKind.i64 n,v] 24)).alloc (Obj.cells ((Array.replicate n (Value.bool false)).setIfInBounds who (Value.bool true)) 4)).alloc (Obj.cells #[Value.slice (some { block:=w.heap.size+1,off:=0 }) n n] 48)):=by
  refine ⟨by simp [go_sem],by simp [go_sem],by simp [go_sem],fun i C=>?_,?_⟩
  ·have I:i < n:=by simpa [C8] using C
   refine ⟨?_,by simp [go_sem]⟩;simp [go_sem,C8,List.getElem_set,I];by_cases e:who=i
   ·simp [e]
   ·simp [e,I]
  ·exact ((bA w _).alloc (by simp) _).alloc (by simp;omega) _
 have K:=Aa (Ih hn d (Cm n who) hv hlen hb);clear d;go_enter Tryz.func127,Tryz.ntmps127;go_wp2_with fail;refine (K.o).mono ?_;rintro e w1 ⟨rfl,d⟩;clear K S;go_wp2_with fail;go_loopw [7] (fun i wr=>∃ l:List Bool,l.length=n/\Dt gn who l/\i=zd U (DD (D4 l) (gn.map toI))/\Ez w n v l wr) (fun _ wr=>JD (w.heap.size+1) n wr)
 case atStart=>exact ⟨_,Cm n who,Ec gn hw,rfl,d⟩
 case round=>
  obtain ⟨l,M,m,rfl,c⟩:=hrel;clear d;rcases NN l gn n M hb with ⟨C,f⟩ | ⟨k,H,C,u,x⟩
  ·have Z:l=acts gn n who:=PQ hw (fun g hg=>(hb g hg).2) M m f
   rw [C];obtain ⟨Y,X,N,s,L⟩:=c;have hz:=bL N;have Q:w.heap.size+1 < wr.heap.size:=by have:w.heap.size+1+1 < wr.heap.size:=hz;omega
   rw [Z] at s;clear f m Z C;go_wp2_with fail;go_ret;exact ⟨w.heap.size+1,by omega,Q,rfl,s,L⟩
  ·obtain ⟨W,V⟩:=hb _ (List.getElem_mem H)
   have R:=c;obtain ⟨Y,X,N,s,L⟩:=c;obtain ⟨ao,J,E,A⟩:=hv;rw [List.length_map] at E;subst E;obtain ⟨b,off,rfl,f⟩:=A (by intro h;rw [List.map_eq_nil_iff] at h;rw [h] at H;simp at H);obtain ⟨D,P⟩:=f k (by simpa using H);have T:=bL D;rw [<-(An L).1 _ _ T] at D P;simp only [List.getElem_map,toI] at D P;obtain ⟨d1,d2⟩:=s gn[k].2 (by omega);have a:l[gn[k].2]=false:=by have:=x;rw [List.getElem?_eq_getElem (by omega)] at this;exact Option.some.inj this
   rw [a] at d1;obtain ⟨gw,y⟩:=nm (gn[k].1);obtain ⟨B,z⟩:=nm (gn[k].2);simp only [<-y,<-z] at D P d1 d2 W V u x a;rw [C];have r:=IW (w:=wr.drew) s (j:=B) (by omega) true;have G:Dt gn who (l.set B true):=by rw [z];exact II m (List.getElem_mem H) (by rw [<-y];exact u)
   have t:(l.set B true).length=n:=by simpa using M
   have ac:JD (w.heap.size+1) n wr=l.count false:=by rw [<-M];exact I4 s
   have ae:=GI (l:=l) (j:=B) (by omega) a;have q:Ez w n (O (some ⟨b,off,none⟩) gn.length J) (l.set B true) (wr.drew.setCell ⟨w.heap.size+1,B,none⟩ (zg true)):=by
    refine ⟨?_,?_,?_,r,(below_drewN L 1).setCell (by simp) _⟩
    ·rw [World.cell?_setCell_other _ _ _ _ (by simp)];exact Y
    ·rw [World.cell?_setCell_other _ _ _ _ (by simp)];exact X
    ·rw [World.cell?_setCell_other _ _ _ _ (by simp)];exact N
   have F:AA w (O (some ⟨b,off,none⟩) gn.length J) (gn.map toI):=⟨_,_,by rw [List.length_map],A⟩;have K:=Aa (Ih hn q t F hlen hb);obtain ⟨t0,t1,t2,-,-⟩:=q;have HS:=Aa G;clear f A r G m R F s u x a y z hb D;go_wp2_with fail;go_region;go_wp2_with fail;refine (K.o).mono ?_;rintro e w2 ⟨rfl,p⟩;clear K;go_wp2_with fail;refine ⟨⟨l.set B true,t,HS.o,rfl,p⟩,?_⟩;have h1:=I4 p.2.2.2.1;rw [t] at h1;omega
def Ax (gs:List (Int × Int)):List (Nat × Nat):=gs.map fun g=>(g.1.toNat,g.2.toNat)
theorem Dr {m:Int} {gs:List (Int × Int)} (h:AR m gs=0):∃ n:Nat,m=n/\1<=n/\n<=6/\(Ax gs).map toI=gs/\(Ax gs).length<=20/\∀ g∈Ax gs,g.1 < n/\g.2 < n:=by
 unfold AR at h;split at h
 ·split at h
  ·split at h
   ·cases h
   ·rename_i l f j
    have c:∀ g∈gs,BB m g.1=true/\BB m g.2=true:=fun g b=>by
     have a:¬ Ib m g=true:=fun i=>j (List.any_eq_true.2 ⟨g,b,i⟩);simp [Ib] at a;exact a
    refine ⟨m.toNat,by omega,by omega,by omega,?_,by simpa [Ax] using f,fun g b=>?_⟩
    ·unfold Ax
     rw [List.map_map]
     conv=>rhs;rw [<-List.map_id gs]
     apply List.map_congr_left;intro g b;obtain ⟨a,e⟩:=c g b;simp [BB] at a e;simp only [Function.comp,toI,id]
     ext <;> simp <;> omega
    ·obtain ⟨k,d,rfl⟩:=List.mem_map.1 b
     obtain ⟨a,e⟩:=c k d;simp [BB] at a e;simp only;omega
  ·cases h
 ·cases h
theorem Tryz.info35:(Tryz.prog.info? 48).map (fun i=>(i.zero,i.size,i.bytes))=some (some (O none 0 0),1,24):=by kernel_rfl
theorem Su (n:Nat) (hn:n<=6) (w:World):(Instr.makeSlice 137 (zd U n) (zd U n)).run Tryz.prog w=.ok (O (some ⟨w.heap.size,0,none⟩) n n) (w.alloc (.cells (List.replicate n (Value.slice none 0 0)).toArray 48)):=by
 cases hi:Tryz.prog.info? 48 with
 | none=>have:=Tryz.info35;rw [hi] at this;cases this
 | some i=>
  have a:=Tryz.info35;rw [hi] at a;simp only [Option.map_some,Option.some.injEq,Prod.mk.injEq] at a;obtain ⟨d,c,b⟩:=a;have:=run_make (P:=Tryz.prog) w 137 48 i (O none 0 0) Tryz.underlying137 hi d U U (n:Int) (n:Int) (by omega) (by omega) (by rw [b];omega) (by omega);rw [this,c];simp only [Int.toNat_natCast,Nat.mul_one];have e:madeCells (Value.slice none 0 0).cells n=(List.replicate n (Value.slice none 0 0)).toArray:=by
   apply Array.ext
   ·simp [madeCells]
   ·intro j c b
    simp [madeCells,Value.cells,Nat.mod_one]
  rw [e]
def CZ (W:World) (ob n:Nat) (gn:List (Nat × Nat)) (k:Nat):Prop:=∀ i,i < k->∃ kb,kb≠ob/\W.cell? ⟨ob,i,none⟩=some (O (some ⟨kb,0,none⟩) n n)/\Co W kb (acts gn n i)
theorem EH {W W':World} {ob n k:Nat} {gn:List (Nat × Nat)} (h:CZ W ob n gn k) (hb:Ov W W'):CZ W' ob n gn k:=fun i hi=>by
 obtain ⟨kb,h1,h2,h3⟩:=h i hi;exact ⟨kb,h1,by rw [(An hb).1 _ _ (bL h2)];exact h2,Hm h3 hb⟩
theorem GA {w:World} {kb:Nat} {l:List Bool} (h:Co w kb l) {p:Addr} (hp:p.block≠kb) (u:Value):Co (w.setCell p u) kb l:=fun i hi=>by
 obtain ⟨h1,h2⟩:=h i hi;refine ⟨?_,?_⟩
 ·rw [World.cell?_setCell_other _ _ _ _ (by intro h;exact hp (by rw [h]))]
  exact h1
 ·rw [World.frozen?_setCell]
  exact h2
theorem O4 {W:World} {ob n k kb:Nat} {gn:List (Nat × Nat)} (h:CZ W ob n gn k) {u:Value} (hu:W.cell? ⟨ob,k,none⟩=some u) (hkb:kb≠ob) (hk:Co W kb (acts gn n k)) :
  CZ (W.setCell ⟨ob,k,none⟩ (O (some ⟨kb,0,none⟩) n n)) ob n gn (k+1):=fun i hi=>by
 by_cases e:i=k
 ·subst e
  exact ⟨kb,hkb,World.cell?_setCell_same _ _ _ hu,GA hk (fun h=>hkb h.symm) _⟩
 ·obtain ⟨kc,h1,h2,h3⟩:=h i (by omega)
  refine ⟨kc,h1,?_,GA h3 (fun h=>h1 h.symm) _⟩;rw [World.cell?_setCell_other _ _ _ _ (by intro h;injection h with _ h;exact e h.symm)];exact h2
def Lr (W:World) (ob n:Nat):Prop:=∀ i,i < n->(∃ u,W.cell? ⟨ob,i,none⟩=some u)/\W.frozen? ⟨ob,i,none⟩=false
theorem Lw {W W':World} {ob n:Nat} (h:Lr W ob n) (hb:Ov W W'):Lr W' ob n:=fun i hi=>by
 obtain ⟨⟨u,h1⟩,h2⟩:=h i hi;have hlt:=bL h1;exact ⟨⟨u,by rw [(An hb).1 _ _ hlt];exact h1⟩,by rw [(An hb).2 _ _ hlt];exact h2⟩
theorem Nf {W:World} {ob n k:Nat} (h:Lr W ob n) (hk:k < n) (v:Value):Lr (W.setCell ⟨ob,k,none⟩ v) ob n:=fun i hi=>by
 obtain ⟨⟨u,h1⟩,h2⟩:=h i hi;refine ⟨?_,by rw [World.frozen?_setCell];exact h2⟩;by_cases e:k=i
 ·subst e
  exact ⟨v,World.cell?_setCell_same _ _ _ h1⟩
 ·exact ⟨u,by rw [World.cell?_setCell_other _ _ _ _ (by intro h;injection h with _ h;exact e h)];exact h1⟩
def Ja (w:World) (n:Nat) (v:Value) (gn:List (Nat × Nat)) (ob k:Nat) (W:World):Prop:=
 W.cell? ⟨w.heap.size,0,none⟩=some (zd U n)/\W.cell? ⟨w.heap.size,1,none⟩=some v/\Lr W ob n/\CZ W ob n gn k/\Ov w W/\w.heap.size < ob/\ob < W.heap.size
theorem Ja.over {w W W':World} {n ob k:Nat} {v:Value} {gn:List (Nat × Nat)} (h:Ja w n v gn ob k W) (hb:Ov W W'):Ja w n v gn ob k W':=by
 obtain ⟨d,c,i,g,b,f,e⟩:=h;obtain ⟨a,j⟩:=An hb;refine ⟨?_,?_,Lw i hb,EH g hb,b.trans (hb.mono b.size),f,Nat.lt_of_lt_of_le e hb.size⟩
 ·rw [a _ _ (bL d)];exact d
 ·rw [a _ _ (bL c)];exact c
theorem PA (n:Nat) (h1:1<=n) (hn:n<=6) (v:Value) (gn:List (Nat × Nat)) (w:World) (hv:AA w v (gn.map toI)) (hlen:gn.length<=20) (hb:∀ g∈gn,g.1 < n/\g.2 < n) (hE:AR n (gn.map toI)=0) :
  Calls Tryz.prog 69 #[zh #[zd U n,v]] w fun e w'=>∃ ob,e=zj (zk #[O (some ⟨ob,0,none⟩) n n,zd U 0])/\CZ w' ob n gn n/\Ov w w':=by
 have x:=fun w=>Su n hn w;have b:Ov w (w.alloc (ze #[zd U n,v] 24)):=bA w _;have C:=check_any n v (gn.map toI) (w.alloc (ze #[zd U n,v] 24)) (Af hv b);rw [hE] at C;have I:=Aa C;have HA:=Aa fun (m:Nat) (hw:m < n) (W:World) (hW:Ov w W)=>Lm n m hn hw v gn W (Af hv hW) hlen hb;clear C hE hv;go_enter Tryz.func69,Tryz.ntmps69;go_wp2_with fail;refine (I.o).mono ?_;rintro e a ⟨rfl,j⟩;obtain ⟨A,Y⟩:=An j;have D:a.cell? ⟨w.heap.size,0,none⟩=some (zd U n):=by rw [A _ _ (by simp)];simp [go_sem]
 have G:a.cell? ⟨w.heap.size,1,none⟩=some v:=by rw [A _ _ (by simp)];simp [go_sem]
 have h:Ov w a:=b.trans (j.mono (by simp));have r:w.heap.size < a.heap.size:=bL D;have p:Ja w n v gn a.heap.size 0 (a.alloc (.cells (List.replicate n (Value.slice none 0 0)).toArray 48)):=by
  have l:Ov a (a.alloc (.cells (List.replicate n (Value.slice none 0 0)).toArray 48)):=bA a _;refine ⟨?_,?_,fun i z=>⟨⟨O none 0 0,by simp [go_sem,z]⟩,by simp [go_sem]⟩,fun i z=>absurd z (Nat.not_lt_zero _),h.trans (l.mono (by omega)),r,by simp⟩
  ·rw [(An l).1 _ _ r];exact D
  ·rw [(An l).1 _ _ r];exact G
 clear I A Y j b;go_wp2_with fail;go_loopw [17] (fun i wr=>∃ k:Nat,k<=n/\i=zd U k/\Ja w n v gn a.heap.size k wr) (fun i _=>n - (intOf i).toNat)
 case atStart=>exact ⟨0,Nat.zero_le _,rfl,by simpa using p⟩
 case round=>
  clear p x D G;obtain ⟨k,hk,rfl,f⟩:=hrel;by_cases hkn:k < n
  ·have H:=Aa f
   obtain ⟨M,L,-,-,q,-,s6⟩:=f;go_wp2_with fail;refine (HA.o k hkn _ q).mono ?_;rintro e J ⟨E,X,F,rfl,c,B⟩;have d:=H.o.over B;clear M L q;obtain ⟨⟨u,Z⟩,d2⟩:=d.2.2.1 k hkn;have t:E≠a.heap.size:=by omega
   have s:Ja w n v gn a.heap.size (k+1) (J.setCell ⟨a.heap.size,k,none⟩ (O (some ⟨E,0,none⟩) n n)):=by
    obtain ⟨V,T,S,R,Q,P,N⟩:=d;refine ⟨?_,?_,Nf S hkn _,O4 R Z t c,Q.setCell (by simp;omega) _,P,by simpa using N⟩
    ·rw [World.cell?_setCell_other _ _ _ _ (by simp)];exact V
    ·rw [World.cell?_setCell_other _ _ _ _ (by simp)];exact T
   clear d H c;go_wp2_with fail;exact ⟨⟨k+1,by omega,by go_num,s⟩,by simp [intOf];omega⟩
  ·have y:k=n:=by omega
   subst y;obtain ⟨-,-,-,K,q,-,-⟩:=f;go_wp2_with fail
   go_ret2
   exact ⟨a.heap.size,rfl,K,q⟩
theorem Pw {w w0 w1:World} {b0 o0 b1 o1 b2 o2 b3 o3:Nat} {v0 v1 v2 v3:Value} (h:w0.cell? ⟨b0,o0,none⟩=some v0/\w0.cell? ⟨b1,o1,none⟩=some v1/\w0.cell? ⟨b2,o2,none⟩=some v2/\w0.cell? ⟨b3,o3,none⟩=some v3/\Ov w w0)
  (hb:Ov w0 w1):w1.cell? ⟨b0,o0,none⟩=some v0/\w1.cell? ⟨b1,o1,none⟩=some v1/\w1.cell? ⟨b2,o2,none⟩=some v2/\w1.cell? ⟨b3,o3,none⟩=some v3/\Ov w w1:=by
 obtain ⟨f,e,d,c,b⟩:=h;obtain ⟨a,g⟩:=An hb;refine ⟨?_,?_,?_,?_,?_⟩
 ·rw [a _ _ (bL f)];exact f
 ·rw [a _ _ (bL e)];exact e
 ·rw [a _ _ (bL d)];exact d
 ·rw [a _ _ (bL c)];exact c
 ·exact b.trans (hb.mono b.size)
theorem Nl {gn:List (Nat × Nat)} {j:Nat} (h:j < gn.length) (l:List Bool):pass (gn.take (j+1)) l=C2 (pass (gn.take j) l) gn[j]:=by
 unfold pass;rw [List.take_succ_eq_append_getElem h,List.foldl_append];rfl
def Ij (w:World) (n:Nat) (v:Value) (l:List Bool) (W:World):Prop:=
 W.cell? ⟨w.heap.size,0,none⟩=some (zd U n)/\W.cell? ⟨w.heap.size,1,none⟩=some v/\Co W (w.heap.size+1) l/\Ov w W
theorem J7 (n who other:Nat) (hn:n<=6) (hw:who < n) (ho:other < n) (v:Value) (gn:List (Nat × Nat)) (w:World) (hv:AA w v (gn.map toI)) (hlen:gn.length<=20) (hb:∀ g∈gn,g.1 < n/\g.2 < n) :
  Calls Tryz.prog 231 #[zh #[zd U n,v],zd U who,zd U other] w fun e w'=>e=zj (zg ((acts gn n who)[other]?.getD false))/\Ov w w':=by
 have aa:=fun w=>Dx n hn w;have D:Ij w n v (C8 n who) ((w.alloc (Obj.cells #[Value.int IntKind.i64 n,v] 24)).alloc (Obj.cells ((Array.replicate n (Value.bool false)).setIfInBounds who (Value.bool true)) 4)):=by
  refine ⟨by simp [go_sem],by simp [go_sem],fun i hi=>?_,?_⟩
  ·have H:i < n:=by simpa [C8] using hi
   refine ⟨?_,by simp [go_sem]⟩;simp [go_sem,C8,List.getElem_set,H];by_cases e:who=i
   ·simp [e]
   ·simp [e,H]
  ·exact (bA w _).alloc (by simp) _
 obtain ⟨K,c,C,d⟩:=hv;rw [List.length_map] at C;subst C;go_enter Tryz.func231,Tryz.ntmps231;go_wp2_with fail;go_loopw [8] (fun i wr=>∃ k:Nat,k<=n/\i=zd U k/\Ij w n (O K gn.length c) (BG gn k (C8 n who)) wr) (fun i _=>n - (intOf i).toNat)
 case atStart=>exact ⟨0,Nat.zero_le _,rfl,D⟩
 case round=>
  obtain ⟨k,hk,rfl,F⟩:=hrel;clear D aa;have HS:=Aa F;obtain ⟨V,T,f,B⟩:=F;by_cases hkn:k < n
  ·clear f
   go_wp2_with fail;go_loopw [9] (fun i wr=>∃ j:Nat,j<=gn.length/\i=zd U j/\Ij w n (O K gn.length c) (pass (gn.take j) (BG gn k (C8 n who))) wr) (fun i _=>gn.length - (intOf i).toNat)
   case atStart=>exact ⟨0,Nat.zero_le _,rfl,HS.o⟩
   case round=>
    clear HS V T B;obtain ⟨j,hj,rfl,u⟩:=hrel;obtain ⟨l,s⟩:=nm (pass (gn.take j) (BG gn k (C8 n who)));have ap:l.length=n:=by rw [s,Gq,C1,Cm]
    have a:j < gn.length->∀ W,Ij w n (O K gn.length c) (C2 l (gn[j]?.getD (0,0))) W->Ij w n (O K gn.length c) (pass (gn.take (j+1)) (BG gn k (C8 n who))) W:=fun h W hW=>by
     rw [Nl h,<-s];simpa [h] using hW
    have HN:=Aa a;rw [<-s] at u;have p:=Aa u;obtain ⟨V,T,f,B⟩:=u;by_cases hjl:j < gn.length
    ·obtain ⟨b,Y,rfl,z⟩:=d (by intro h;rw [List.map_eq_nil_iff] at h;rw [h] at hjl;simp at hjl)
     obtain ⟨P,X⟩:=z j (by simpa using hjl);have ab:=bL P;rw [<-(An B).1 _ _ ab] at P X;simp only [List.getElem_map,toI] at P X;obtain ⟨af,ae⟩:=hb _ (List.getElem_mem hjl);obtain ⟨J,ah⟩:=f gn[j].1 (by omega);obtain ⟨S,ag⟩:=f gn[j].2 (by omega);have Q:gn[j]?.getD (0,0)=(gn[j].1,gn[j].2):=by simp [hjl]
     obtain ⟨gw,x⟩:=nm (gn[j].1);obtain ⟨R,y⟩:=nm (gn[j].2);simp only [<-x,<-y] at P X J ah S ag af ae Q;have t:gw < l.length:=by omega
     have I:R < l.length:=by omega
     obtain ⟨bw,m⟩:=nm (l[gw]);obtain ⟨bf,A⟩:=nm (l[R]);rw [<-m] at J;rw [<-A] at S;have HX:=Aa Q;have M:=Aa (HN.o hjl);have N:=Aa m;cases bw with
     | true=>
      have q:Ij w n (O (some ⟨b,Y,none⟩) gn.length c) (l.set R true) (wr.setCell ⟨w.heap.size+1,R,none⟩ (zg true)):=by
       refine ⟨?_,?_,IW f I true,B.setCell (by simp) _⟩
       ·rw [World.cell?_setCell_other _ _ _ _ (by simp)];exact V
       ·rw [World.cell?_setCell_other _ _ _ _ (by simp)];exact T
      have L:=Aa q;clear q Q m A x y z d a f s p hb;go_wp2_with fail;refine ⟨⟨j+1,by omega,by go_num,M.o _ ?_⟩,by simp [intOf];omega⟩;rw [HX.o];unfold C2;rw [if_pos (by simp [t,<-N.o])];exact L.o
     | false=>
      clear Q m A x y z d a f s hb;go_wp2_with fail;refine ⟨⟨j+1,by omega,by go_num,M.o _ ?_⟩,by simp [intOf];omega⟩;rw [HX.o];unfold C2;rw [if_neg (by simp [t,<-N.o])];exact p.o
    ·have ad:j=gn.length:=by omega
     subst ad;rw [List.take_length] at s;have E:Ij w n (O K gn.length c) (BG gn (k+1) (C8 n who)) wr:=by rw [BG,<-s];exact p.o
     have ai:=Aa E;clear E a HN p s f d hb;go_wp2_with fail;exact ⟨⟨k+1,by omega,by go_num,ai.o⟩,by simp [intOf];omega⟩
  ·have ac:k=n:=by omega
   subst ac;have G:other < (acts gn k who).length:=by rw [BJ];exact ho
   obtain ⟨J,-⟩:=f other G;have he:(acts gn k who)[other]?.getD false=(acts gn k who)[other]:=by simp [G]
   have HE:=Aa he;have S:CE wr (w.heap.size+1) other (zg (acts gn k who)[other]):=J;obtain ⟨r,Z⟩:=nm ((acts gn k who)[other]);rw [<-Z] at S;have HR:=Aa Z;clear J Z he f d HS hb;go_wp2_with fail;go_ret;exact ⟨by rw [HE.o,<-HR.o];rfl,B⟩
def AJ (w:World) (v:Value) (l:List Bool):Prop:=
 ∃ ao cap,v=O ao l.length cap/\(l≠[]->∃ b off,ao=some ⟨b,off,none⟩/\∀ i (h:i < l.length),w.cell? ⟨b,off+i,none⟩=some (zg l[i]))
theorem AF {w w':World} {v:Value} {l:List Bool} (h:AJ w v l) (hb:Ov w w'):AJ w' v l:=by
 obtain ⟨k,e,rfl,j⟩:=h;refine ⟨k,e,rfl,fun c=>?_⟩;obtain ⟨b,a,rfl,d⟩:=j c;refine ⟨b,a,rfl,fun i g=>?_⟩;have f:=d i g;rw [(An hb).1 _ _ (bL f)];exact f
theorem Hq {w:World} {v:Value} {l:List Bool} (h:AJ w v l) {i:Nat} (hi:i < l.length):∃ b off cap,v=O (some ⟨b,off,none⟩) l.length cap/\w.cell? ⟨b,off+i,none⟩=some (zg l[i]):=by
 obtain ⟨d,cap,rfl,c⟩:=h;obtain ⟨b,off,rfl,a⟩:=c (by rintro rfl;simp at hi);exact ⟨b,off,cap,rfl,a i hi⟩
theorem Jf {a b:List Bool} {k:Nat} (hka:k < a.length) (hkb:k < b.length) (hne:a[k]≠b[k]):a≠b:=by
 rintro rfl;exact hne rfl
theorem Ip (va vb:Value) (a b:List Bool) (w:World) (ha:AJ w va a) (hb:AJ w vb b) (hla:a.length<=9223372036854775807) :
  Calls Tryz.prog 43 #[va,vb] w fun e w'=>e=zj (zg (decide (a=b)))/\∃ n,w'=w.drewN n:=by
 have L:=Aa ha;have K:=Aa hb;obtain ⟨X,Q,rfl,-⟩:=ha;obtain ⟨T,P,rfl,-⟩:=hb;by_cases hl:a.length=b.length
 ·have r:((a.length:Int) != b.length)=false:=by simp [hl]
  have B:=Aa hl;clear hl;go_enter Tryz.func43,Tryz.ntmps43;go_wp2_with fail;go_loopw [5] (fun i wr=>∃ k n:Nat,k<=a.length/\i=zd U k/\a.take k=b.take k/\wr=w.drewN n) (fun i _=>a.length - (intOf i).toNat)
  case atStart=>exact ⟨0,0,Nat.zero_le _,rfl,rfl,rfl⟩
  case round=>
   obtain ⟨k,n,O,rfl,c,rfl⟩:=hrel;by_cases hkl:k < a.length
   ·have g:k < b.length:=by have:=B.o;omega
    obtain ⟨W,N,S,G,D⟩:=Hq L.o hkl;obtain ⟨V,M,R,F,C⟩:=Hq K.o g;injection G with A z v;injection F with u t s;subst A v u s;have d:a[k]=b[k]->a.take (k+1)=b.take (k+1):=fun h=>by
     rw [List.take_succ_eq_append_getElem hkl,List.take_succ_eq_append_getElem g,c,h]
    have f:a[k]≠b[k]->decide (a=b)=false:=fun h=>decide_eq_false (Jf hkl g h);obtain ⟨x,q⟩:=nm (a[k]);obtain ⟨y,p⟩:=nm (b[k]);rw [<-q] at D;rw [<-p] at C;rw [<-q,<-p] at d f;have H:=Aa d;have I:=Aa f;clear d f c q p z t;cases x <;> cases y
    all_goals go_wp2_with fail
    all_goals go_region
    all_goals go_wp2_with fail
    all_goals first
     | exact ⟨⟨k+1,n+1,by omega,by go_num,H.o (by first | rfl | trivial),by first | rfl | trivial⟩,by simp [intOf];omega⟩
     | (go_ret;exact ⟨by rw [I.o (by decide)];rfl,n+1,rfl⟩)
   ·have j:k=a.length:=by omega
    have m:a=b:=by
     have E:k=b.length:=by have:=B.o;omega
     rw [j,List.take_length] at c;rw [c,<-j,E,List.take_length]
    have l:decide (a=b)=true:=decide_eq_true m;have J:=Aa l;clear l m c;go_wp2_with fail;go_ret;exact ⟨by rw [J.o];rfl,n,rfl⟩
 ·have r:((a.length:Int) != b.length)=true:=by simp;omega
  have l:decide (a=b)=false:=decide_eq_false (fun h=>hl (by rw [h]));rw [l];clear l;go_enter Tryz.func43,Tryz.ntmps43;go_wp2_with fail;go_ret;exact ⟨rfl,0,rfl⟩
structure Lev where
 r:List Bool
 w:List Bool
def A3 (W:World) (v:Value) (l:Lev):Prop:=∃ vr vw,v=zh #[vr,vw]/\AJ W vr l.r/\AJ W vw l.w
theorem AK {W W':World} {v:Value} {l:Lev} (h:A3 W v l) (hb:Ov W W'):A3 W' v l:=by
 obtain ⟨b,a,rfl,d,c⟩:=h;exact ⟨b,a,rfl,AF d hb,AF c hb⟩
def CN (m:Int) (l:Lev):Int:=if (l.r.length:Int)=m/\(l.w.length:Int)=m then 0 else 1
def Sq (l m:Lev) (i:Nat):Bool:=!((m.r[i]?.getD false && !(l.r[i]?.getD false)) || (l.w[i]?.getD false && !(m.w[i]?.getD false)))
def Av (l m:Lev) (n:Nat):Bool:=(List.range n).all (Sq l m)
theorem BL {l m:Lev} {n:Nat}:Av l m n=true ↔ ∀ i,i < n->(m.r[i]?.getD false=true->l.r[i]?.getD false=true)/\(l.w[i]?.getD false=true->m.w[i]?.getD false=true):=by
 unfold Av;rw [List.all_eq_true];constructor
 ·intro h i a
  have:=h i (List.mem_range.2 a);unfold Sq at this;revert this;cases m.r[i]?.getD false <;> cases l.r[i]?.getD false <;> cases l.w[i]?.getD false <;> cases m.w[i]?.getD false <;> simp
 ·intro h i a
  have:=h i (List.mem_range.1 a);unfold Sq;revert this;cases m.r[i]?.getD false <;> cases l.r[i]?.getD false <;> cases l.w[i]?.getD false <;> cases m.w[i]?.getD false <;> simp
theorem CI {w:World} {v:Value} {l:List Bool} {n:Nat} (h:AJ w v l) (hl:l.length=n) (h1:1<=n) :
  ∃ b off cap,v=O (some ⟨b,off,none⟩) n cap/\∀ i,i < n->w.cell? ⟨b,off+i,none⟩=some (zg (l[i]?.getD false)):=by
 obtain ⟨f,cap,rfl,d⟩:=h;obtain ⟨b,off,rfl,c⟩:=d (by rintro rfl;simp at hl;omega);refine ⟨b,off,cap,by rw [hl],fun i e=>?_⟩;have a:i < l.length:=by omega
 rw [c i a];simp [a]
def Lev.len (l:Lev) (n:Nat):Prop:=l.r.length=n/\l.w.length=n
end Go.Proofs.YtfffpjkcfnekaaaGreat
