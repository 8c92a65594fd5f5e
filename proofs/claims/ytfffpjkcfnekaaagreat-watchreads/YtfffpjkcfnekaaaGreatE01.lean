/- Regions that draw, in few words. -/
import Derived.Deep.RegionHeld3
import Derived.RowKit
import Derived.OpenShut
import Derived.Deep.Draws
import Derived.Lib.Builder
import Derived.Test.YtfffpjkcfnekaaaGreatRows
import Derived.ProofKit
import Derived.Deep.Strs
import Derived.Lib.SmallJoins
import Derived.WalkKit
import Derived.WalkSpells
import Derived.WalkLawsBesides
import Derived.WalkSmall
import Derived.Deep.AppendLies
import Derived.OwnWalk
import Derived.Deep.SlicePairs
import Derived.Laws.MakeOwn
set_option linter.unusedVariables false
set_option maxHeartbeats 8000000
set_option maxRecDepth 100000
namespace Go.Proofs.YtfffpjkcfnekaaaGreat
open Go.RowKit
open Go.Value renaming slice -> O, int -> zd, bool -> zg, agg -> zh, pointer -> zi, tuple -> zk
open Go.IntKind renaming i64 -> U
open Go.Obj renaming cells -> ze
open Go.Ending renaming returned -> zj
abbrev Ov (w w':World):Prop:=Below w.heap.size w w'
abbrev CE (w:World) (b i:Nat) (v:Value):Prop:=w.cell? ⟨b,i,none⟩=some v
theorem nm {α:Type} (x:α):∃ q,q=x:=⟨x,rfl⟩
theorem aqt:(∀ (l:List Oper) (i:Nat) (h:i < l.toArray.size),l.toArray[i]'h=l[i]'(by simpa using h))/\(∀ (a:Oper) (l:List Oper) (i:Nat) (h:i+1 < (a::l).length),(a::l)[i+1]'h=l[i]'(by simpa using h))/\(∀ (a:Oper) (l:List Oper) (h:0 < (a::l).length),(a::l)[0]'h=a)/\(∀ (a:Act) (d:Tmp) (v:Value),a.put (some d) v={ a with tmps:=a.tmps.setIfInBounds d v })/\(∀ (a:Act) (v:Value),a.put none v=a)/\(∀ (l:List Value) (i:Nat) (x:Value),l.toArray.setIfInBounds i x=(l.set i x).toArray)/\(∀ (l:List Value) (a x:Value),(a::l).set 0 x=x::l)/\(∀ (l:List Value) (a x:Value) (i:Nat),(a::l).set (i+1) x=a::l.set i x):=
 ⟨fun _ _ _=>by simp,fun _ _ _ _=>rfl,fun _ _ _=>rfl,fun _ _ _=>rfl,fun _ _=>rfl,fun _ _ _=>by simp,fun _ _ _=>rfl,fun _ _ _ _=>rfl⟩
theorem kT {P:Program} {ops:Array Oper} {Q:Exit->Act->World->Prop} {md:Region.Mode} {S:World->Prop} {oi:Oper} {v:Value} {fuel:Nat} {listed:Array Bool} {a:Act} {w:World} {Z:Prop} (i:Nat) (h:Z)
  (hi:ops[i]? = some oi:=by rfl) (hy:YieldsIf P ops S oi v a:=by (refine Or.inl ⟨by rfl,?_⟩;intro e b;(try dsimp only at b);go_simp;try with_reducible rfl)) (hS:S w:=by assumption)
  (hs:Region.noSelect ops=true:=by kernel_rfl) (hf:Region.free md ops listed i=true:=by kernel_rfl) (hr:(Region.ready md ops listed).contains i=true:=by kernel_rfl)
  (hQ:∀ c a w,Q (.panic c) (a.put oi.dst v) w->Q (.panic c) a w:=by exact fun _ _ _ h=>h)
  (hz:Z->wpAnyH P md ops Q S fuel (listed.setIfInBounds i true) (a.put oi.dst v) w:=by (intro hz;(try simp only [aqt]);exact hz)):wpAnyH P md ops Q S (fuel+1) listed a w:=
 wpAnyH_take hi hs hf hr hQ hy hS (hz h)
theorem kL {P:Program} {ops:Array Oper} {Q:Exit->Act->World->Prop} {md:Region.Mode} {S:World->Prop} {oi:Oper} {v:Value} {fuel:Nat} {listed:Array Bool} {a:Act} {w:World} {Z:Prop} (i:Nat) (h:Z)
  (hi:ops[i]? = some oi:=by rfl) (hy:YieldsIf P ops S oi v a:=by (refine Or.inl ⟨by rfl,?_⟩;intro e b;obtain ⟨l,k,g,f,-⟩:=b;go_simp;first | done | with_reducible rfl)) (hS:S w:=by assumption)
  (hs:Region.noSelect ops=true:=by kernel_rfl) (hf:Region.free md ops listed i=true:=by kernel_rfl) (hr:(Region.ready md ops listed).contains i=true:=by kernel_rfl)
  (hQ:∀ c a w,Q (.panic c) (a.put oi.dst v) w->Q (.panic c) a w:=by exact fun _ _ _ h=>h)
  (hz:Z->wpAnyH P md ops Q S fuel (listed.setIfInBounds i true) (a.put oi.dst v) w:=by (intro hz;(try simp only [aqt]);exact hz)):wpAnyH P md ops Q S (fuel+1) listed a w:=
 wpAnyH_take hi hs hf hr hQ hy hS (hz h)
theorem kU {P:Program} {ops:Array Oper} {Q:Exit->Act->World->Prop} {md:Region.Mode} {S:World->Prop} {oi:Oper} {fuel:Nat} {listed:Array Bool} {a:Act} {w:World} {Z:Prop} (i:Nat) (h:Z)
  (hi:ops[i]? = some oi:=by rfl) (hy:YieldsIf P ops S oi undef a:=by exact Or.inr ⟨by kernel_rfl,rfl⟩) (hS:S w:=by assumption)
  (hs:Region.noSelect ops=true:=by kernel_rfl) (hf:Region.free md ops listed i=true:=by kernel_rfl) (hr:(Region.ready md ops listed).contains i=true:=by kernel_rfl)
  (hQ:∀ c a w,Q (.panic c) (a.put oi.dst undef) w->Q (.panic c) a w:=by exact fun _ _ _ h=>h)
  (hz:Z->wpAnyH P md ops Q S fuel (listed.setIfInBounds i true) (a.put oi.dst undef) w:=by (intro hz;(try simp only [aqt]);exact hz)):wpAnyH P md ops Q S (fuel+1) listed a w:=
 wpAnyH_take hi hs hf hr hQ hy hS (hz h)
abbrev I9 (P:Program) (md:Region.Mode) (ops:Array Oper) (Q:Exit->Act->World->Prop) (S:World->Prop) (fuel:Nat) (listed:Array Bool) (a:Act) (w:World) (i:Nat) (o:Oper):Prop:=
 ∀ K':Act->World->Prop,Shut (∀ a w,S w->(S w->wpAnyH P md ops Q S fuel (listed.setIfInBounds i true) a w)->K' a w)->if Region.wanted o (yielded ops a.tmps)=true then Oper.wp P o a w K' Q else K' (a.put o.dst undef) w
theorem rdA {P:Program} {ops:Array Oper} {Q:Exit->Act->World->Prop} {md:Region.Mode} {S:World->Prop} {fuel:Nat} {listed:Array Bool} {a:Act} {w:World} (i:Nat) {o:Oper} (ho:ops[i]? = some o) (h:I9 P md ops Q S fuel listed a w i o)
  (hr:Region.ready md ops listed=[i]:=by kernel_rfl):wpAnyH P md ops Q S (fuel+1) listed a w:=
 wpAnyH_ready hr (by simp) (AllReadyH.cons ho h AllReadyH.nil)
theorem rdB {P:Program} {ops:Array Oper} {Q:Exit->Act->World->Prop} {md:Region.Mode} {S:World->Prop} {fuel:Nat} {listed:Array Bool} {a:Act} {w:World} (i j:Nat) {o p:Oper} (ho:ops[i]? = some o) (h:I9 P md ops Q S fuel listed a w i o) (hp:ops[j]? = some p) (h2:I9 P md ops Q S fuel listed a w j p)
  (hr:Region.ready md ops listed=[i,j]:=by kernel_rfl):wpAnyH P md ops Q S (fuel+1) listed a w:=
 wpAnyH_ready hr (by simp) (AllReadyH.cons ho h (AllReadyH.cons hp h2 AllReadyH.nil))
theorem rdC {P:Program} {ops:Array Oper} {Q:Exit->Act->World->Prop} {md:Region.Mode} {S:World->Prop} {fuel:Nat} {listed:Array Bool} {a:Act} {w:World} (i j k:Nat) {o p q:Oper} (ho:ops[i]? = some o) (h:I9 P md ops Q S fuel listed a w i o) (hp:ops[j]? = some p) (h2:I9 P md ops Q S fuel listed a w j p) (hq:ops[k]? = some q) (h3:I9 P md ops Q S fuel listed a w k q)
  (hr:Region.ready md ops listed=[i,j,k]:=by kernel_rfl):wpAnyH P md ops Q S (fuel+1) listed a w:=
 wpAnyH_ready hr (by simp) (AllReadyH.cons ho h (AllReadyH.cons hp h2 (AllReadyH.cons hq h3 AllReadyH.nil)))
theorem xK {S:World->Prop} {V:Act->World->Prop} {K':Act->World->Prop} {a:Act} {w:World} {Z:Prop} (hK:Shut (∀ a w,S w->(S w->V a w)->K' a w)) (hS:S w) (h:S w->Z) (hz:Z->V a w:=by (intro hz;(try simp only [aqt]);exact hz)):K' a w:=
 hK.out a w hS (fun b=>hz (h b))
theorem gS {P:Program} {ops:Array Oper} {Q:Exit->Act->World->Prop} (S:World->Prop) {id:Nat} {a:Act} {w:World} (hS:S w.drew)
  (h:S w.drew->wpAnyH P .any ops Q S ops.size (Array.replicate ops.size false) a w.drew) (hm:P.follows .mixedOrders=true:=by kernel_rfl):(Code.region id ops true).wp P Q a w:=
 wp_region_held_drew hm hS h
theorem gE {P:Program} {ops:Array Oper} {Q:Exit->Act->World->Prop} {md:Region.Mode} {S:World->Prop} {fuel:Nat} {listed:Array Bool} {a:Act} {w:World} (h:Q .normal a w) (hr:Region.ready md ops listed=[]:=by kernel_rfl):wpAnyH P md ops Q S fuel listed a w:=
 wpAnyH_done hr h fuel
theorem B3 (w:World) (l:List Value) (T:Nat):∀ (j:Nat) (u:Value),l[j]? = some u->(w.alloc (.cells l.toArray T)).cell? ⟨w.heap.size,j,none⟩=some u:=fun j u hu=>by
 rw [Lib.cell_of_heap (show (w.heap.push (.cells l.toArray T))[w.heap.size]? = some (.cells l.toArray T) by simp)];simpa using hu
theorem QP {w:World} {a:Addr} {u:Value} (h:w.cell? a=some u) (o:Obj):(w.alloc o).cell? a=some u:=by
 rw [World.cell?_alloc_some _ _ _ (by rw [h];rfl)];exact h
theorem alS (w:World) (o:Obj):(w.alloc o).heap.size=w.heap.size+1:=by simp
theorem GM (w:World) (l:List Value) (T:Nat) (o1:Obj):∀ (j:Nat) (u:Value),l[j]? = some u->((w.alloc (.cells l.toArray T)).alloc o1).cell? ⟨w.heap.size,j,none⟩=some u:=fun j u hu=>by
 have h:=B3 w l T j u hu;exact (QP h _)
theorem Ig (w:World) (o0:Obj) (l:List Value) (T:Nat):∀ (j:Nat) (u:Value),l[j]? = some u->((w.alloc o0).alloc (.cells l.toArray T)).cell? ⟨w.heap.size+1,j,none⟩=some u:=fun j u hu=>by
 have h:=B3 (w.alloc o0) l T j u hu;rw [alS] at h;exact h
theorem SU (w:World) (l:List Value) (T:Nat) (o1:Obj) (o2:Obj):∀ (j:Nat) (u:Value),l[j]? = some u->(((w.alloc (.cells l.toArray T)).alloc o1).alloc o2).cell? ⟨w.heap.size,j,none⟩=some u:=fun j u hu=>by
 have h:=B3 w l T j u hu;exact (QP (QP h _) _)
theorem ST (w:World) (o0:Obj) (l:List Value) (T:Nat) (o2:Obj):∀ (j:Nat) (u:Value),l[j]? = some u->(((w.alloc o0).alloc (.cells l.toArray T)).alloc o2).cell? ⟨w.heap.size+1,j,none⟩=some u:=fun j u hu=>by
 have h:=B3 (w.alloc o0) l T j u hu;rw [alS] at h;exact (QP h _)
theorem Tl (w:World) (o0:Obj) (o1:Obj) (l:List Value) (T:Nat):∀ (j:Nat) (u:Value),l[j]? = some u->(((w.alloc o0).alloc o1).alloc (.cells l.toArray T)).cell? ⟨w.heap.size+1+1,j,none⟩=some u:=fun j u hu=>by
 have h:=B3 ((w.alloc o0).alloc o1) l T j u hu;rw [alS,alS] at h;exact h
theorem TE (w:World) (o0:Obj) (o1:Obj) (o2:Obj) (o3:Obj) (l:List Value) (T:Nat):∀ (j:Nat) (u:Value),l[j]? = some u->(((((w.alloc o0).alloc o1).alloc o2).alloc o3).alloc (.cells l.toArray T)).cell? ⟨w.heap.size+1+1+1+1,j,none⟩=some u:=fun j u hu=>by
 have h:=B3 ((((w.alloc o0).alloc o1).alloc o2).alloc o3) l T j u hu;rw [alS,alS,alS,alS] at h;exact h
theorem rc2 {P:Nat->Value->Prop} {a0 a1:Value} {l:List Value} (h:∀ (j:Nat) (u:Value),(a0::a1::l)[j]? = some u->P j u):P 0 a0/\P 1 a1:=⟨h 0 _ rfl,h 1 _ rfl⟩
theorem rc3 {P:Nat->Value->Prop} {a0 a1 a2:Value} {l:List Value} (h:∀ (j:Nat) (u:Value),(a0::a1::a2::l)[j]? = some u->P j u):P 0 a0/\P 1 a1/\P 2 a2:=⟨h 0 _ rfl,h 1 _ rfl,h 2 _ rfl⟩
theorem rc4 {P:Nat->Value->Prop} {a0 a1 a2 a3:Value} {l:List Value} (h:∀ (j:Nat) (u:Value),(a0::a1::a2::a3::l)[j]? = some u->P j u):P 0 a0/\P 1 a1/\P 2 a2/\P 3 a3:=⟨h 0 _ rfl,h 1 _ rfl,h 2 _ rfl,h 3 _ rfl⟩
theorem rc5 {P:Nat->Value->Prop} {a0 a1 a2 a3 a4:Value} {l:List Value} (h:∀ (j:Nat) (u:Value),(a0::a1::a2::a3::a4::l)[j]? = some u->P j u):P 0 a0/\P 1 a1/\P 2 a2/\P 3 a3/\P 4 a4:=⟨h 0 _ rfl,h 1 _ rfl,h 2 _ rfl,h 3 _ rfl,h 4 _ rfl⟩
theorem rc6 {P:Nat->Value->Prop} {a0 a1 a2 a3 a4 a5:Value} {l:List Value} (h:∀ (j:Nat) (u:Value),(a0::a1::a2::a3::a4::a5::l)[j]? = some u->P j u):P 0 a0/\P 1 a1/\P 2 a2/\P 3 a3/\P 4 a4/\P 5 a5:=⟨h 0 _ rfl,h 1 _ rfl,h 2 _ rfl,h 3 _ rfl,h 4 _ rfl,h 5 _ rfl⟩
theorem rc8 {P:Nat->Value->Prop} {a0 a1 a2 a3 a4 a5 a6 a7:Value} {l:List Value} (h:∀ (j:Nat) (u:Value),(a0::a1::a2::a3::a4::a5::a6::a7::l)[j]? = some u->P j u):P 0 a0/\P 1 a1/\P 2 a2/\P 3 a3/\P 4 a4/\P 5 a5/\P 6 a6/\P 7 a7:=⟨h 0 _ rfl,h 1 _ rfl,h 2 _ rfl,h 3 _ rfl,h 4 _ rfl,h 5 _ rfl,h 6 _ rfl,h 7 _ rfl⟩
theorem rc9 {P:Nat->Value->Prop} {a0 a1 a2 a3 a4 a5 a6 a7 a8:Value} {l:List Value} (h:∀ (j:Nat) (u:Value),(a0::a1::a2::a3::a4::a5::a6::a7::a8::l)[j]? = some u->P j u):P 0 a0/\P 1 a1/\P 2 a2/\P 3 a3/\P 4 a4/\P 5 a5/\P 6 a6/\P 7 a7/\P 8 a8:=⟨h 0 _ rfl,h 1 _ rfl,h 2 _ rfl,h 3 _ rfl,h 4 _ rfl,h 5 _ rfl,h 6 _ rfl,h 7 _ rfl,h 8 _ rfl⟩
theorem Ch {P:Nat->Value->Prop} {a0 a1 a2 a3 a4 a5 a6 a7 a8 a9:Value} {l:List Value} (h:∀ (j:Nat) (u:Value),(a0::a1::a2::a3::a4::a5::a6::a7::a8::a9::l)[j]? = some u->P j u):P 0 a0/\P 1 a1/\P 2 a2/\P 3 a3/\P 4 a4/\P 5 a5/\P 6 a6/\P 7 a7/\P 8 a8/\P 9 a9:=⟨h 0 _ rfl,h 1 _ rfl,h 2 _ rfl,h 3 _ rfl,h 4 _ rfl,h 5 _ rfl,h 6 _ rfl,h 7 _ rfl,h 8 _ rfl,h 9 _ rfl⟩
theorem P9 {P:Nat->Value->Prop} {a0 a1 a2 a3 a4 a5 a6 a7 a8 a9 a10 a11:Value} {l:List Value} (h:∀ (j:Nat) (u:Value),(a0::a1::a2::a3::a4::a5::a6::a7::a8::a9::a10::a11::l)[j]? = some u->P j u):P 0 a0/\P 1 a1/\P 2 a2/\P 3 a3/\P 4 a4/\P 5 a5/\P 6 a6/\P 7 a7/\P 8 a8/\P 9 a9/\P 10 a10/\P 11 a11:=⟨h 0 _ rfl,h 1 _ rfl,h 2 _ rfl,h 3 _ rfl,h 4 _ rfl,h 5 _ rfl,h 6 _ rfl,h 7 _ rfl,h 8 _ rfl,h 9 _ rfl,h 10 _ rfl,h 11 _ rfl⟩
theorem TA {P:Nat->Value->Prop} {a0 a1 a2 a3 a4 a5 a6 a7 a8 a9 a10 a11 a12:Value} {l:List Value} (h:∀ (j:Nat) (u:Value),(a0::a1::a2::a3::a4::a5::a6::a7::a8::a9::a10::a11::a12::l)[j]? = some u->P j u):P 0 a0/\P 1 a1/\P 2 a2/\P 3 a3/\P 4 a4/\P 5 a5/\P 6 a6/\P 7 a7/\P 8 a8/\P 9 a9/\P 10 a10/\P 11 a11/\P 12 a12:=⟨h 0 _ rfl,h 1 _ rfl,h 2 _ rfl,h 3 _ rfl,h 4 _ rfl,h 5 _ rfl,h 6 _ rfl,h 7 _ rfl,h 8 _ rfl,h 9 _ rfl,h 10 _ rfl,h 11 _ rfl,h 12 _ rfl⟩
theorem ovS {V W:World} (h:Below V.heap.size V W):∀ a:Addr,(V.cell? a).isSome=true->W.cell? a=V.cell? a:=fun a ha=>by
 obtain ⟨u,hu⟩:=Option.isSome_iff_exists.1 ha;exact h.cell (World.block_lt_of_cell? V _ hu)
theorem kO {P:Program} {ops:Array Oper} {Q:Exit->Act->World->Prop} {md:Region.Mode} {S:World->Prop} {oi:Oper} {v:Value} {fuel:Nat} {listed:Array Bool} {a:Act} {w:World} {Z:Prop} (i:Nat) (h:Z)
  (hi:ops[i]? = some oi:=by rfl) (hy:YieldsIf P ops S oi v a:=by (refine Or.inl ⟨by rfl,?_⟩;intro e b;have b:=ovS b;go_simp;try with_reducible rfl)) (hS:S w:=by assumption)
  (hs:Region.noSelect ops=true:=by kernel_rfl) (hf:Region.free md ops listed i=true:=by kernel_rfl) (hr:(Region.ready md ops listed).contains i=true:=by kernel_rfl)
  (hQ:∀ c a w,Q (.panic c) (a.put oi.dst v) w->Q (.panic c) a w:=by exact fun _ _ _ h=>h)
  (hz:Z->wpAnyH P md ops Q S fuel (listed.setIfInBounds i true) (a.put oi.dst v) w:=by (intro hz;(try simp only [aqt]);exact hz)):wpAnyH P md ops Q S (fuel+1) listed a w:=
 wpAnyH_take hi hs hf hr hQ hy hS (hz h)
def Hx (p:Prop):Prop:=p
theorem Hx.o {p:Prop} (h:Hx p):p:=h
theorem nO {q a1 a2 a3 a4 a5 a6 Z:Prop} (N1:Hx (a1->q)) (N2:Hx (a2->q)) (N3:Hx (a3->q)) (N4:Hx (a4->q)) (N5:Hx (a5->q)) (N6:Hx (a6->q)) (hz:Z)
  (h:Z->a1\/a2\/a3\/a4\/a5\/a6:=by (intro hz;first | exact Or.inl (by (try simp at hz);(try simp);omega) | exact Or.inr (Or.inl (by (try simp at hz);(try simp);omega)) | exact Or.inr (Or.inr (Or.inl (by (try simp at hz);(try simp);omega))) | exact Or.inr (Or.inr (Or.inr (Or.inl (by (try simp at hz);(try simp);omega)))) | exact Or.inr (Or.inr (Or.inr (Or.inr (Or.inl (by (try simp at hz);(try simp);omega))))) | exact Or.inr (Or.inr (Or.inr (Or.inr (Or.inr (by (try simp at hz);(try simp);omega))))))):Hx q:=
 (h hz).elim N1.o fun h=>h.elim N2.o fun h=>h.elim N3.o fun h=>h.elim N4.o fun h=>h.elim N5.o N6.o
theorem ce1 {w w':World} (hb:Below w.heap.size w w') {a:Addr} {u:Value} (h:w.cell? a=some u):w'.cell? a=some u:=by
 rw [hb.cell (World.block_lt_of_cell? w _ h)];exact h
theorem co2 {w w':World} (hb:Below w.heap.size w w') {a0 a1:Addr} {u0 u1:Value} (h0:w.cell? a0=some u0) (h1:w.cell? a1=some u1):w'.cell? a0=some u0/\w'.cell? a1=some u1:=⟨ce1 hb h0,ce1 hb h1⟩
theorem co3 {w w':World} (hb:Below w.heap.size w w') {a0 a1 a2:Addr} {u0 u1 u2:Value} (h0:w.cell? a0=some u0) (h1:w.cell? a1=some u1) (h2:w.cell? a2=some u2):w'.cell? a0=some u0/\w'.cell? a1=some u1/\w'.cell? a2=some u2:=⟨ce1 hb h0,ce1 hb h1,ce1 hb h2⟩
theorem co4 {w w':World} (hb:Below w.heap.size w w') {a0 a1 a2 a3:Addr} {u0 u1 u2 u3:Value} (h0:w.cell? a0=some u0) (h1:w.cell? a1=some u1) (h2:w.cell? a2=some u2) (h3:w.cell? a3=some u3):w'.cell? a0=some u0/\w'.cell? a1=some u1/\w'.cell? a2=some u2/\w'.cell? a3=some u3:=⟨ce1 hb h0,ce1 hb h1,ce1 hb h2,ce1 hb h3⟩
theorem co5 {w w':World} (hb:Below w.heap.size w w') {a0 a1 a2 a3 a4:Addr} {u0 u1 u2 u3 u4:Value} (h0:w.cell? a0=some u0) (h1:w.cell? a1=some u1) (h2:w.cell? a2=some u2) (h3:w.cell? a3=some u3) (h4:w.cell? a4=some u4):w'.cell? a0=some u0/\w'.cell? a1=some u1/\w'.cell? a2=some u2/\w'.cell? a3=some u3/\w'.cell? a4=some u4:=⟨ce1 hb h0,ce1 hb h1,ce1 hb h2,ce1 hb h3,ce1 hb h4⟩
theorem co6 {w w':World} (hb:Below w.heap.size w w') {a0 a1 a2 a3 a4 a5:Addr} {u0 u1 u2 u3 u4 u5:Value} (h0:w.cell? a0=some u0) (h1:w.cell? a1=some u1) (h2:w.cell? a2=some u2) (h3:w.cell? a3=some u3) (h4:w.cell? a4=some u4) (h5:w.cell? a5=some u5):w'.cell? a0=some u0/\w'.cell? a1=some u1/\w'.cell? a2=some u2/\w'.cell? a3=some u3/\w'.cell? a4=some u4/\w'.cell? a5=some u5:=⟨ce1 hb h0,ce1 hb h1,ce1 hb h2,ce1 hb h3,ce1 hb h4,ce1 hb h5⟩
theorem co7 {w w':World} (hb:Below w.heap.size w w') {a0 a1 a2 a3 a4 a5 a6:Addr} {u0 u1 u2 u3 u4 u5 u6:Value} (h0:w.cell? a0=some u0) (h1:w.cell? a1=some u1) (h2:w.cell? a2=some u2) (h3:w.cell? a3=some u3) (h4:w.cell? a4=some u4) (h5:w.cell? a5=some u5) (h6:w.cell? a6=some u6):w'.cell? a0=some u0/\w'.cell? a1=some u1/\w'.cell? a2=some u2/\w'.cell? a3=some u3/\w'.cell? a4=some u4/\w'.cell? a5=some u5/\w'.cell? a6=some u6:=⟨ce1 hb h0,ce1 hb h1,ce1 hb h2,ce1 hb h3,ce1 hb h4,ce1 hb h5,ce1 hb h6⟩
theorem co8 {w w':World} (hb:Below w.heap.size w w') {a0 a1 a2 a3 a4 a5 a6 a7:Addr} {u0 u1 u2 u3 u4 u5 u6 u7:Value} (h0:w.cell? a0=some u0) (h1:w.cell? a1=some u1) (h2:w.cell? a2=some u2) (h3:w.cell? a3=some u3) (h4:w.cell? a4=some u4) (h5:w.cell? a5=some u5) (h6:w.cell? a6=some u6) (h7:w.cell? a7=some u7):w'.cell? a0=some u0/\w'.cell? a1=some u1/\w'.cell? a2=some u2/\w'.cell? a3=some u3/\w'.cell? a4=some u4/\w'.cell? a5=some u5/\w'.cell? a6=some u6/\w'.cell? a7=some u7:=⟨ce1 hb h0,ce1 hb h1,ce1 hb h2,ce1 hb h3,ce1 hb h4,ce1 hb h5,ce1 hb h6,ce1 hb h7⟩
theorem co9 {w w':World} (hb:Below w.heap.size w w') {a0 a1 a2 a3 a4 a5 a6 a7 a8:Addr} {u0 u1 u2 u3 u4 u5 u6 u7 u8:Value} (h0:w.cell? a0=some u0) (h1:w.cell? a1=some u1) (h2:w.cell? a2=some u2) (h3:w.cell? a3=some u3) (h4:w.cell? a4=some u4) (h5:w.cell? a5=some u5) (h6:w.cell? a6=some u6) (h7:w.cell? a7=some u7) (h8:w.cell? a8=some u8):w'.cell? a0=some u0/\w'.cell? a1=some u1/\w'.cell? a2=some u2/\w'.cell? a3=some u3/\w'.cell? a4=some u4/\w'.cell? a5=some u5/\w'.cell? a6=some u6/\w'.cell? a7=some u7/\w'.cell? a8=some u8:=⟨ce1 hb h0,ce1 hb h1,ce1 hb h2,ce1 hb h3,ce1 hb h4,ce1 hb h5,ce1 hb h6,ce1 hb h7,ce1 hb h8⟩
theorem CU {w w':World} (hb:Below w.heap.size w w') {a0 a1 a2 a3 a4 a5 a6 a7 a8 a9:Addr} {u0 u1 u2 u3 u4 u5 u6 u7 u8 u9:Value} (h0:w.cell? a0=some u0) (h1:w.cell? a1=some u1) (h2:w.cell? a2=some u2) (h3:w.cell? a3=some u3) (h4:w.cell? a4=some u4) (h5:w.cell? a5=some u5) (h6:w.cell? a6=some u6) (h7:w.cell? a7=some u7) (h8:w.cell? a8=some u8) (h9:w.cell? a9=some u9):w'.cell? a0=some u0/\w'.cell? a1=some u1/\w'.cell? a2=some u2/\w'.cell? a3=some u3/\w'.cell? a4=some u4/\w'.cell? a5=some u5/\w'.cell? a6=some u6/\w'.cell? a7=some u7/\w'.cell? a8=some u8/\w'.cell? a9=some u9:=⟨ce1 hb h0,ce1 hb h1,ce1 hb h2,ce1 hb h3,ce1 hb h4,ce1 hb h5,ce1 hb h6,ce1 hb h7,ce1 hb h8,ce1 hb h9⟩
theorem cn3 {w:World} {n:Nat} {a0 a1 a2:Addr} {u0 u1 u2:Value} (h0:w.cell? a0=some u0) (h1:w.cell? a1=some u1) (h2:w.cell? a2=some u2):(w.drewN n).cell? a0=some u0/\(w.drewN n).cell? a1=some u1/\(w.drewN n).cell? a2=some u2:=⟨h0,h1,h2⟩
theorem C5 {w:World} {n:Nat} {a0 a1 a2 a3 a4 a5 a6 a7 a8 a9:Addr} {u0 u1 u2 u3 u4 u5 u6 u7 u8 u9:Value} (h0:w.cell? a0=some u0) (h1:w.cell? a1=some u1) (h2:w.cell? a2=some u2) (h3:w.cell? a3=some u3) (h4:w.cell? a4=some u4) (h5:w.cell? a5=some u5) (h6:w.cell? a6=some u6) (h7:w.cell? a7=some u7) (h8:w.cell? a8=some u8) (h9:w.cell? a9=some u9):(w.drewN n).cell? a0=some u0/\(w.drewN n).cell? a1=some u1/\(w.drewN n).cell? a2=some u2/\(w.drewN n).cell? a3=some u3/\(w.drewN n).cell? a4=some u4/\(w.drewN n).cell? a5=some u5/\(w.drewN n).cell? a6=some u6/\(w.drewN n).cell? a7=some u7/\(w.drewN n).cell? a8=some u8/\(w.drewN n).cell? a9=some u9:=⟨h0,h1,h2,h3,h4,h5,h6,h7,h8,h9⟩
theorem bA (w:World) (o:Obj):Below w.heap.size w (w.alloc o):=(Below.refl _ w).alloc (Nat.le_refl _) o
theorem bD (w:World):Below w.heap.size w w.drew:=(Below.refl _ w).drew
theorem bL {w:World} {a:Addr} {u:Value} (h:w.cell? a=some u):a.block < w.heap.size:=World.block_lt_of_cell? w _ h
theorem orT {A B C E:Prop} (h:(A/\E)\/(B/\C)) (hb:¬ B:=by (intro h;cases h)):E:=h.elim (fun h=>h.2) (fun h=>absurd h.1 hb)
end Go.Proofs.YtfffpjkcfnekaaaGreat
namespace Go.Proofs.YtfffpjkcfnekaaaGreat.Ex
open Go.RowKit Go.ChangeShapes Go.WideShapes
open Go.Value renaming slice -> O, int -> zd, bool -> zg, agg -> zh, pointer -> zi, tuple -> zk
open Go.IntKind renaming i64 -> U
open Go.Obj renaming cells -> ze
open Go.Ending renaming returned -> zj
theorem Tryz.cellsX:Tryz.prog.cellsOf 94=3:=by kernel_rfl
theorem Tryz.cellsXs:Tryz.prog.cellsOf 92=1:=by kernel_rfl
theorem Tryz.cellsI:Tryz.prog.cellsOf 3=1:=by kernel_rfl
abbrev D:=DataW Empty
def xD (k n:Int) (args:List D):D:=.agg [.lit (.int U k),.lit (.int U n),.slice args []]
def XS (size:Nat) (R:List Value->D->Prop) (w:World) (v:Value) (ds:List D):Prop:=
 ds.length<=maxLen/\∃ ao cap,v=O ao ds.length cap/\(ds≠[]->∃ b off,ao=some ⟨b,off,none⟩ /\
  ∀ (i:Nat) (d:D),ds[i]? = some d->∃ cs:List Value,cs.length=size/\(∀ (j:Nat) (u:Value),cs[j]? = some u->w.cell? ⟨b,off+i*size+j,none⟩=some u)/\R cs d)
def Cu (n:Int):Prop:=-9223372036854775808<=n/\n<=9223372036854775807
theorem RK {n:Int} (h:(Lit.int U n).wf=true):Cu n:=by
 have b:(decide (IntKind.i64.min<=n) && decide (n<=IntKind.i64.max))=true:=h;rw [Bool.and_eq_true,decide_eq_true_iff,decide_eq_true_iff] at b;exact b
def RX (w:World):Nat->List Value->D->Prop
 | 0,_,_=>False
 | k+1,cs,d=>∃ (kd n:Int) (v:Value) (ds:List D),cs=[zd U kd,zd U n,v]/\d=xD kd n ds/\Cu kd/\Cu n/\XS 3 (RX w k) w v ds
theorem XS.mono {size:Nat} {R R':List Value->D->Prop} {w w':World} {v:Value} {ds:List D} (h:XS size R w v ds)
  (hw:∀ a u,w.cell? a=some u->w'.cell? a=some u) (hR:∀ cs d,d∈ds->R cs d->R' cs d):XS size R' w' v ds:=by
 obtain ⟨t,A,cap,p,y⟩:=h;refine ⟨t,A,cap,p,fun e=>?_⟩;obtain ⟨b,off,k,f⟩:=y e;refine ⟨b,off,k,fun i d l=>?_⟩;obtain ⟨cs,hl,g,s⟩:=f i d l;exact ⟨cs,hl,fun j u q=>hw _ _ (g j u q),hR cs d (List.mem_of_getElem? l) s⟩
theorem RX.mono {w w':World} (hw:∀ a u,w.cell? a=some u->w'.cell? a=some u) :
  ∀ (k m:Nat) (cs:List Value) (d:D),k<=m->RX w k cs d->RX w' m cs d:=by
 intro k
 induction k with
 | zero=>intro m cs d _ h;exact h.elim
 | succ k ih=>
  intro m cs d i h;obtain ⟨b,rfl⟩:∃ b,m=b + 1:=⟨m - 1,by omega⟩;obtain ⟨f,n,v,t,e,p,s,q,g⟩:=h;exact ⟨f,n,v,t,e,p,s,q,g.mono hw (fun cs d _ l=>ih b cs d (by omega) l)⟩
theorem FX {H:Type} {enc:TypeId × Value->H} {W:World}:∀ (fuel:Nat) (cs:List Value) (x:DataW H × List MemPlace),DataW.trod enc Tryz.prog W 0 (fun _=>true) true fuel 94 cs=some x->∃ d,RX W fuel cs d:=by
 intro fuel
 induction fuel using Nat.strongRecOn with
 | ind fuel ih=>
  intro cs x h;obtain ⟨xs,n,rfl,hx,hl,F,l⟩:=DataW.trod_struct Tryz.underlying94 h;rw [Tryz.cellsX] at hl
  match cs,hl,xs,F with
  | [c0,c1,c2],_,[y0,y1,y2],_=>
   have E:=l 0 _ rfl;have P:=l 1 _ rfl;have O:=l 2 _ rfl;simp [Tryz.cellsI,Tryz.cellsXs] at E P O;obtain ⟨a,R,T⟩:=DataW.trod_int Tryz.underlying3 E;obtain ⟨b,Q,S⟩:=DataW.trod_int Tryz.underlying3 P;simp at R Q;subst R;subst Q;have M:Cu a:=RK T.2;have L:Cu b:=RK S.2;rcases DataW.trod_slice Tryz.underlying92 O with ⟨e,-⟩ | ⟨C,len,cap,J,N,m,rfl,e,-,-,aa,ae,ac,B,-,-⟩
   ·simp at e
    subst e;exact ⟨xD a b [],a,b,_,[],rfl,rfl,M,L,by simp,none,0,rfl,fun h=>absurd rfl h⟩
   ·simp at e
    subst e;rw [Tryz.cellsX] at B;have t:∀ i,i < len->∃ d:D,∃ cs:List Value,cs.length=3/\(∀ (j:Nat) (u:Value),cs[j]? = some u->W.cell? (C.add (i*3+j))=some u)/\RX W (m+1) cs d:=fun i hi=>by
     have s:=B i hi;rw [List.getElem?_eq_getElem (by omega),Option.bind_eq_some_iff] at s;obtain ⟨cs,A,U⟩:=s;obtain ⟨-,q,g⟩:=World.cells?_some A;obtain ⟨d,y⟩:=ih m (by omega) cs _ U;refine ⟨d,cs,q,fun j u k=>?_,RX.mono (fun _ _ h=>h) m (m+1) cs d (by omega) y⟩;have hj:j < 3:=by have:=(List.getElem?_eq_some_iff.1 k).1;omega
     have hk:=g j hj;rw [k] at hk;rw [Addr.add_add] at hk;exact hk
    obtain ⟨f,l⟩:=Deep.choose_lt t;refine ⟨xD a b ((List.range len).map f),a,b,_,(List.range len).map f,rfl,rfl,M,L,by simp;omega,some C,cap,by simp,fun G=>?_⟩;have E:0 < len:=by
     rcases Nat.eq_zero_or_pos len with h | h
     ·subst h;simp at G
     ·exact h
    have Z:∃ b off,C=⟨b,off,none⟩:=by
     obtain ⟨cs,hl,A,-⟩:=l 0 E;obtain ⟨u,k⟩:∃ u,cs[0]? = some u:=⟨cs[0]'(by omega),List.getElem?_eq_getElem (by omega)⟩;have hk:=A 0 u k;have p:C.spot=none:=by simpa [Addr.add] using World.cell?_spot hk
     obtain ⟨b,off,sp⟩:=C;simp only at p;subst p;exact ⟨b,off,rfl⟩
    obtain ⟨bb,off,rfl⟩:=Z;refine ⟨bb,off,rfl,fun i d y=>?_⟩;have hi:i < len:=by
     have:=(List.getElem?_eq_some_iff.1 y).1;simpa using this
    have I:d=f i:=by
     rw [List.getElem?_map,List.getElem?_range hi] at y;simpa using y.symm
    subst I;obtain ⟨cs,hl,A,V⟩:=l i hi;exact ⟨cs,hl,fun j u k=>by have:=A j u k;rw [Addr.add_lit] at this;simpa [Nat.add_assoc] using this,V⟩
end Go.Proofs.YtfffpjkcfnekaaaGreat.Ex
namespace Go.Proofs.YtfffpjkcfnekaaaGreat.Ex
open Go.RowKit
open Go.Value renaming slice -> O, int -> zd, bool -> zg, agg -> zh, pointer -> zi, tuple -> zk
open Go.IntKind renaming i64 -> U
open Go.Obj renaming cells -> ze
open Go.Ending renaming returned -> zj
theorem Aa {p:Prop} (h:p):Hx p:=h
theorem GE (x a b:Int) (w:World) :
  Calls Tryz.prog 76 #[zd U x,zd U a,zd U b] w fun e w'=>e=zj (zg (decide (a<=x/\x<=b)))/\w'=w:=by
 by_cases h1:a<=x
 ·by_cases h2:x<=b
  ·go_enter Tryz.func76,Tryz.ntmps76
   go_wp2
   go_ret;exact ⟨by simp;omega,rfl⟩
  ·go_enter Tryz.func76,Tryz.ntmps76
   go_wp2
   go_ret;exact ⟨by simp;omega,rfl⟩
 ·go_enter Tryz.func76,Tryz.ntmps76
  go_wp2
  go_ret;exact ⟨by simp;omega,rfl⟩
def D9 (n:Int):Bool:=decide (-2147483648<=n/\n<=2147483647)
def wrap32 (z:Int):Int:=(z+2147483648) % 4294967296 - 2147483648
theorem EA (z:Int):-2147483648<=wrap32 z/\wrap32 z<=2147483647:=by unfold wrap32;omega
theorem An {W w1:World} (hb:Ov W w1):(∀ b o,b < W.heap.size->w1.cell? ⟨b,o,none⟩=W.cell? ⟨b,o,none⟩)/\(∀ b o,b < W.heap.size->w1.frozen? ⟨b,o,none⟩=W.frozen? ⟨b,o,none⟩):=
 ⟨fun b o h=>hb.cell (p:=⟨b,o,none⟩) h,fun b o h=>hb.frozen (p:=⟨b,o,none⟩) h⟩
theorem Ab {w w':World} (hb:Ov w w') (a:Addr) (u:Value) (h:w.cell? a=some u):w'.cell? a=some u:=by
 rw [hb.cell (bL h)];exact h
theorem RX.over {w w':World} {k:Nat} {cs:List Value} {d:D} (h:RX w k cs d) (hb:Ov w w'):RX w' k cs d:=RX.mono (Ab hb) k k cs d (Nat.le_refl _) h
def A4:D->List D
 | .agg [_,_,.slice l _]=>l
 | _=>[]
def AQ:D->Int
 | .agg (.lit (.int _ n)::_)=>n
 | _=>0
def Bk:D->Int
 | .agg (_::.lit (.int _ n)::_)=>n
 | _=>0
@[simp] theorem Lj (k n:Int) (l:List D):A4 (xD k n l)=l:=rfl
@[simp] theorem Hn (k n:Int) (l:List D):AQ (xD k n l)=k:=rfl
@[simp] theorem MO (k n:Int) (l:List D):Bk (xD k n l)=n:=rfl
theorem RX.form {w:World} {k:Nat} {cs:List Value} {d:D} (h:RX w k cs d):∃ ao cap,cs=[zd U (AQ d),zd U (Bk d),O ao (A4 d).length cap]:=by
 cases k with
 | zero=>exact h.elim
 | succ k=>
  obtain ⟨b,n,v,e,rfl,rfl,-,-,-,ao,cap,rfl,-⟩:=h;exact ⟨ao,cap,rfl⟩
def BM (f:D->Int->Int) (m:Int):List D->Int->Int
 | [],n=>n
 | a::l,n=>if n<=m then BM f m l (n+f a (m - n)) else n
def Cp:Nat->D->Int->Int
 | 0,_,_=>1
 | k+1,d,m=>BM (Cp k) m (A4 d) 1
theorem GG (f:D->Int->Int) (hf:∀ d m,0<=m->1<=f d m/\f d m<=m+1) (m:Int):∀ (l:List D) (n:Int),1<=n->n<=m+1->1<=BM f m l n/\BM f m l n<=m+1
 | [],n,h1,h2=>⟨h1,h2⟩
 | a::l,n,h1,h2=>by
  unfold BM;split
  ·have:=hf a (m - n) (by omega)
   exact GG f hf m l _ (by omega) (by omega)
  ·exact ⟨h1,h2⟩
theorem FW:∀ (k:Nat) (d:D) (m:Int),0<=m->1<=Cp k d m/\Cp k d m<=m+1
 | 0,_,m,h=>by unfold Cp;omega
 | k+1,d,m,h=>GG _ (FW k) m _ 1 (by omega) (by omega)
theorem IB (f:D->Int->Int) (m:Int) (l) (n:Int) (h:m < n):BM f m l n=n:=by
 cases l with
 | nil=>rfl
 | cons a l=>unfold BM;rw [if_neg (by omega)]
theorem IA {f:D->Int->Int} {m n:Int} {l:List D} {j:Nat} (hj:j < l.length) (h:n<=m):BM f m (l.drop j) n=BM f m (l.drop (j+1)) (n+f l[j] (m - n)):=by
 rw [List.drop_eq_getElem_cons hj];rw [BM,if_pos h]
def AN (w:World) (v:Value) (l:List Int):Prop:=
 ∃ ao cap,v=O ao l.length cap/\(l≠[]->∃ b off,ao=some ⟨b,off,none⟩/\∀ i (h:i < l.length),w.cell? ⟨b,off+i,none⟩=some (zd U l[i]))
theorem AN.over {w w':World} {v:Value} {l:List Int} (h:AN w v l) (hb:Ov w w'):AN w' v l:=by
 obtain ⟨q,cap,k,p⟩:=h;refine ⟨q,cap,k,fun e=>?_⟩;obtain ⟨b,off,g,f⟩:=p e;exact ⟨b,off,g,fun i hi=>Ab hb _ _ (f i hi)⟩
def opX (k a b:Int):Int:=
 if k=3 then wrap32 (a+b) else if k=4 then wrap32 (a - b) else if k=5 then wrap32 (a*b) else if k=6/\a < b\/k=7/\a=b then 1 else 0
def AC (vs:List Int):Nat->D->Int
 | 0,_=>0
 | k+1,d=>if AQ d=1 then Bk d else if AQ d=2 then vs.getD (Bk d).toNat 0 else
  match A4 d with
  | [x,y]=>opX (AQ d) (AC vs k x) (AC vs k y)
  | _=>0
def okX (m:Nat):Nat->D->Prop
 | 0,_=>False
 | k+1,d=>(AQ d=1/\-9999999<=Bk d/\Bk d<=9999999)\/(AQ d=2/\0<=Bk d/\Bk d < m)\/(3<=AQ d/\AQ d<=7/\∃ x y,A4 d=[x,y]/\okX m k x/\okX m k y)
def I32 (n:Int):Prop:=-2147483648<=n/\n<=2147483647
theorem So (k a b:Int):I32 (opX k a b):=by
 unfold opX I32;have g:=EA (a+b);have f:=EA (a - b);have e:=EA (a*b)
 repeat' split
 all_goals omega
theorem Fv {vs:List Int} (hv:∀ x∈vs,I32 x):∀ (k:Nat) (d:D),okX vs.length k d->I32 (AC vs k d):=by
 intro k
 induction k with
 | zero=>intro d h;exact h.elim
 | succ k ih=>
  intro d h;rcases h with ⟨b,f,g⟩ | ⟨b,f,g⟩ | ⟨b,f,x,y,e,l,i⟩
  ·unfold AC
   rw [if_pos b];unfold I32;omega
  ·unfold AC
   rw [if_neg (by omega),if_pos b];have hl:(Bk d).toNat < vs.length:=by omega
   rw [List.getD_eq_getElem?_getD,List.getElem?_eq_getElem hl];exact hv _ (List.getElem_mem hl)
  ·unfold AC
   rw [if_neg (by omega),if_neg (by omega),e];exact So _ _ _
theorem RD {w w0 w1:World} {a0 a1 a2 a3 a4 a5 a6 a7:Addr} {v0 v1 v2 v3 v4 v5 v6 v7:Value}
  (h:w0.cell? a0=some v0/\w0.cell? a1=some v1/\w0.cell? a2=some v2/\w0.cell? a3=some v3/\w0.cell? a4=some v4/\w0.cell? a5=some v5/\w0.cell? a6=some v6/\w0.cell? a7=some v7/\Ov w w0) (hb:Ov w0 w1) :
  w1.cell? a0=some v0/\w1.cell? a1=some v1/\w1.cell? a2=some v2/\w1.cell? a3=some v3/\w1.cell? a4=some v4/\w1.cell? a5=some v5/\w1.cell? a6=some v6/\w1.cell? a7=some v7/\Ov w w1:=by
 obtain ⟨q,p,l,k,i,g,f,e,b⟩:=h;exact ⟨Ab hb _ _ q,Ab hb _ _ p,Ab hb _ _ l,Ab hb _ _ k,Ab hb _ _ i,Ab hb _ _ g,Ab hb _ _ f,Ab hb _ _ e,b.trans (hb.mono b.size)⟩
theorem below_drewN {W w:World} {n:Nat} (h:Below n W w) (k:Nat):Below n W (w.drewN k):=by
 induction k with
 | zero=>exact h
 | succ k ih=>exact ih.drew
theorem DA {W:World} {B B' e s:Nat} {v:Value} {k:Nat} {xs:List Value} (h:W.ownsRow B e s v k xs) (hb:B'<=B):W.ownsRow B' e s v k xs:=by
 obtain ⟨p,b⟩:=h;refine ⟨p,?_⟩;rcases b with b | ⟨g,cap,f,i,l,r⟩
 ·exact Or.inl b
 ·exact Or.inr ⟨g,cap,f,i,Nat.le_trans hb l,r⟩
theorem Pc {W:World} {B e s:Nat} {v:Value} {k:Nat} {xs:List Value} (h:W.ownsRow B e s v k xs) {g:Nat} (hg:v.ownBlock=some g):B<=g/\g < W.heap.size:=by
 rcases h.2 with ⟨rfl,_⟩ | ⟨l,cap,i,rfl,b,f,_⟩
 ·cases hg
 ·simp [Value.ownBlock] at hg
  subst hg;exact ⟨b,(Array.getElem?_eq_some_iff.1 f).1⟩
theorem B5 {B e s:Nat} {W W':World} {v:Value} {k:Nat} {xs:List Value} (h:W.ownsRow B e s v k xs) (hg:W.grownBy W' v.ownBlock) (hB:B<=W.heap.size):Below B W W':=
 ⟨hg.os,hg.tape,hg.output,hg.size,fun j hj=>hg.block j (Nat.lt_of_lt_of_le hj hB) (fun e=>by have:=(Pc h e.symm).1;omega)⟩
def CF:Nat->D->List D
 | 0,_=>[]
 | k+1,d=>d::(A4 d).flatMap (CF k)
def CX (vars k n:Int) (l:Nat):Int:=
 if ¬ (1<=k/\k<=7) then 7 else if k<=2/\l≠0\/2 < k/\l≠2 then 1 else if k=1/\¬ (-9999999<=n/\n<=9999999)\/2 < k/\n≠0 then 3 else if k=2/\¬ (0<=n/\n<=vars - 1) then 5 else 0
def BQ (vars:Int):List D->Int
 | []=>0
 | d::l=>if CX vars (AQ d) (Bk d) (A4 d).length=0 then BQ vars l else CX vars (AQ d) (Bk d) (A4 d).length
def AU (vars:Int) (k:Nat) (d:D):Int:=if 15 < Cp k d 15 then 2 else BQ vars (CF k d)
theorem El {vars:Int}:∀ {l:List D},BQ vars l=0->∀ d∈l,CX vars (AQ d) (Bk d) (A4 d).length=0
 | [],_,d,hd=>by cases hd
 | a::l,h,d,hd=>by
  rw [BQ] at h;split at h
  ·rename_i h0
   rcases List.mem_cons.1 hd with rfl | hd
   ·exact h0
   ·exact El h d hd
  ·rename_i h0
   exact absurd h h0
theorem ES {vars k n:Int} {l:Nat} (h:CX vars k n l=0):(k=1/\-9999999<=n/\n<=9999999)\/(k=2/\0<=n/\n < vars)\/(3<=k/\k<=7/\l=2):=by
 unfold CX at h;split at h
 ·omega
 ·split at h
  ·omega
  ·split at h
   ·omega
   ·split at h
    ·omega
    ·omega
theorem Sp {w:World} {m:Nat}:∀ (k:Nat) (cs:List Value) (d:D),RX w k cs d->(∀ x∈CF k d,CX m (AQ x) (Bk x) (A4 x).length=0)->okX m k d:=by
 intro k
 induction k with
 | zero=>intro cs d h;exact h.elim
 | succ k ih=>
  intro cs d h g;obtain ⟨p,n,v,l,rfl,rfl,u,F,i,G,cap,rfl,A⟩:=h;have h0:=ES (g (xD p n l) (by simp [CF]));simp only [Hn,MO,Lj] at h0;rcases h0 with h0 | h0 | ⟨E,C,B⟩
  ·exact Or.inl h0
  ·exact Or.inr (Or.inl h0)
  ·refine Or.inr (Or.inr ⟨E,C,?_⟩)
   match l,B with
   | [x,y],_=>
    obtain ⟨b,off,-,e⟩:=A (by simp);obtain ⟨xs,-,-,t⟩:=e 0 x rfl;obtain ⟨ys,-,-,s⟩:=e 1 y rfl;exact ⟨x,y,rfl,ih xs x t (fun q f=>g q (by simp [CF,f])),ih ys y s (fun q f=>g q (by simp [CF,f]))⟩
theorem Pk:∀ (k:Nat) (cs:List Value) (d:D) (w:World) (m:Int),RX w k cs d->0<=m->m<=15 ->
  Calls Tryz.prog 162 #[.agg cs.toArray,zd U m] w fun e w'=>e=zj (zd U (m - Cp k d m))/\Ov w w':=by
 intro k
 induction k with
 | zero=>intro cs d w m h;exact h.elim
 | succ k ih=>
  intro cs d w m h m0 m1;obtain ⟨Z,n,v,p,rfl,rfl,aa,hn,C,ao,cap,rfl,hc⟩:=h;have HC:=Aa hc;have IH:=Aa ih;have HL:p.length<=9223372036854775807:=C;have q:Cp (k+1) (xD Z n p) m=BM (Cp k) m p 1:=rfl;rw [q];have E:Ov w (w.alloc (ze #[zd U Z,zd U n,O ao p.length cap] 94)):=bA w _;clear hc ih q aa hn C;show Calls Tryz.prog 162 #[zh #[zd U Z,zd U n,O ao p.length cap],zd U m] w _;go_enter Tryz.func162,Tryz.ntmps162;go_wp2_with fail;go_loopw [1,12] (fun c i wr=>∃ (j:Nat) (t:Int),j<=p.length/\i=zd U j/\c=zd U (m - t)/\1<=t/\t<=m+1/\BM (Cp k) m p 1=BM (Cp k) m (p.drop j) t/\Ov w wr) (fun _ i _=>p.length - (intOf i).toNat)
  case atStart=>exact ⟨0,1,Nat.zero_le _,rfl,rfl,by omega,by omega,rfl,E⟩
  case round=>
   clear E;obtain ⟨j,t,hj,rfl,rfl,t1,t2,hp,M⟩:=hrel;have HP:=Aa hp;clear hp;by_cases hjl:j < p.length
   ·obtain ⟨b,off,rfl,L⟩:=HC.o (by rintro rfl;simp at hjl)
    obtain ⟨cs,Q,y,P⟩:=L j p[j] (List.getElem?_eq_getElem hjl);obtain ⟨W,F,u⟩:=P.form;have g:=fun h=>IA (f:=Cp k) (m:=m) (n:=t) hjl h;have s:=fun h=>FW k p[j] (m - t) h;obtain ⟨V,J⟩:=nm (p[j]);rw [<-J] at g s P u;obtain ⟨kj,I⟩:=nm (AQ V);obtain ⟨nj,G⟩:=nm (Bk V);obtain ⟨lj,H⟩:=nm ((A4 V).length);rw [<-I,<-G,<-H] at u;subst u;have q0:wr.cell? ⟨b,off+j*3,none⟩=_:=Ab M _ _ (y 0 _ rfl);have q1:=Ab M _ _ (y 1 _ rfl);have q2:=Ab M _ _ (y 2 _ rfl);have S:Ov wr (wr.alloc (ze #[zd U kj,zd U nj,O W lj F] 94)):=bA wr _;have A:Ov w (wr.alloc (ze #[zd U kj,zd U nj,O W lj F] 94)):=M.trans (S.mono M.size);by_cases htm:t<=m
    ·have g:=g htm
     have s:=s (by omega);have l:=IH.o _ V _ (m - t) (P.over A) (by omega) (by omega);obtain ⟨r,N⟩:=nm (Cp k V (m - t));rw [<-N] at l g s;have B:=Aa l;have HN:=Aa g;clear l g N I G H P y L Q J;go_wp2_with fail;refine (B.o).mono ?_;rintro e w1 ⟨rfl,T⟩;have ab:Ov w w1:=A.trans (T.mono A.size);clear q0 q1 q2 M T B S A;go_wp2_with fail;exact ⟨⟨j+1,t+r,by omega,by go_num,by go_num,by omega,by omega,by rw [HP.o,HN.o],ab⟩,by simp [intOf];omega⟩
    ·have R:=IB (Cp k) m (p.drop j) t (by omega)
     have HD:=Aa R;have ai:m - t < 0:=by omega
     clear R g s P y L Q J I G H htm;go_wp2_with fail;go_ret;exact ⟨by rw [HP.o,HD.o];rfl,A⟩
   ·have R:BM (Cp k) m (p.drop j) t=t:=by rw [List.drop_eq_nil_of_le (by omega)];rfl
    have HD:=Aa R;clear R;go_wp2_with fail;go_ret;exact ⟨by rw [HP.o,HD.o];rfl,M⟩
def Dw (k:Int):Int:=if k=1\/k=2 then 0 else 2
theorem Ie (k:Int) (w:World):Calls Tryz.prog 209 #[zd U k] w fun e w'=>e=zj (zd U (Dw k))/\w'=w:=by
 by_cases h1:k=1
 ·subst h1
  go_enter Tryz.func209,Tryz.ntmps209
  go_wp2
  go_ret;exact ⟨rfl,rfl⟩
 ·by_cases h2:k=2
  ·subst h2
   go_enter Tryz.func209,Tryz.ntmps209
   go_wp2
   go_ret;exact ⟨rfl,rfl⟩
  ·have f:(k == 1)=false:=by simpa using h1
   have b:(k == 2)=false:=by simpa using h2
   go_enter Tryz.func209,Tryz.ntmps209
   go_wp2
   go_ret;exact ⟨by simp [Dw,h1,h2],rfl⟩
theorem E9 (vars:Int):∀ (l m:List D),BQ vars (l++m)=if BQ vars l=0 then BQ vars m else BQ vars l
 | [],m=>by simp [BQ]
 | a::l,m=>by
  rw [List.cons_append,BQ,BQ];split
  ·exact E9 vars l m
  ·rfl
def Gp (vars:Int) (k:Nat):List D->Int
 | []=>0
 | a::l=>if BQ vars (CF k a)=0 then Gp vars k l else BQ vars (CF k a)
theorem G8 (vars:Int) (k:Nat):∀ l:List D,Gp vars k l=BQ vars (l.flatMap (CF k))
 | []=>rfl
 | a::l=>by rw [Gp,List.flatMap_cons,E9,G8 vars k l]
theorem Lz {vars:Int} {k:Nat} {l:List D} {j:Nat} (hj:j < l.length):Gp vars k (l.drop j)=if BQ vars (CF k l[j])=0 then Gp vars k (l.drop (j+1)) else BQ vars (CF k l[j]):=by
 rw [List.drop_eq_getElem_cons hj];rfl
theorem Nq (vars kd n:Int) (dl cap:Nat) (ao:Option Addr) (w:World) (v0:0<=vars) (v1:vars<=9223372036854775807) (HL:dl<=9223372036854775807) (hkd:Cu kd) (hn:Cu n) (hE:CX vars kd n dl≠0) :
  Calls Tryz.prog 163 #[zh #[zd U kd,zd U n,O ao dl cap],zd U vars] w fun e w'=>e=zj (zd U (CX vars kd n dl))/\Ov w w':=by
 have b:Ov w (w.alloc (ze #[zd U kd,zd U n,O ao dl cap] 94)):=bA w _;have h:=Aa fun W=>Ie kd W;obtain ⟨F,E⟩:=hkd;obtain ⟨C,B⟩:=hn;by_cases c1:kd < 1\/7 < kd
 ·have f:CX vars kd n dl=7:=by unfold CX;rw [if_pos (by omega)]
  rw [f];clear f hE;rcases c1 with c1 | c1
  ·go_enter Tryz.func163,Tryz.ntmps163
   go_wp2_with fail;go_ret;exact ⟨rfl,b⟩
  ·have c0:¬ kd < 1:=by omega
   go_enter Tryz.func163,Tryz.ntmps163;go_wp2_with fail;go_ret;exact ⟨rfl,b⟩
 ·have H:1<=kd:=by omega
  have G:kd<=7:=by omega
  clear c1;obtain ⟨l,k,i⟩:=rc3 (B3 w [zd U kd,zd U n,O ao dl cap] 94);by_cases c4:(dl:Int)=Dw kd
  ·by_cases c5:kd=1
   ·subst c5
    have y:dl=0:=by simpa [Dw] using c4
    subst y;have ka:Dw 1=0:=rfl;rw [ka] at h;have f:CX vars 1 n 0=3/\(n < -9999999\/9999999 < n):=by
     unfold CX at hE ⊢;rw [if_neg (by omega),if_neg (by omega)] at hE ⊢;by_cases q:n < -9999999\/9999999 < n
     ·exact ⟨by rw [if_pos (by omega)],q⟩
     ·rw [if_neg (by omega),if_neg (by omega)] at hE
      exact absurd rfl hE
    obtain ⟨f,c5⟩:=f;rw [f];clear f hE c4 ka;rcases c5 with c5 | c5
    ·go_enter Tryz.func163,Tryz.ntmps163
     go_wp2_with fail;go_region_held3 (fun W=>W.cell? ⟨w.heap.size,0,none⟩=some (zd U 1)/\W.cell? ⟨w.heap.size,1,none⟩=some (zd U n)/\W.cell? ⟨w.heap.size,2,none⟩=some (O ao 0 cap)/\Ov w W) (first | assumption | exact ⟨l,k,i,below_drewN b 1⟩ | fail) (first | (go_at_call 209;refine (h.o _).mono ?_;rintro e p ⟨rfl,rfl⟩));obtain ⟨u,t,s,g⟩:=(by assumption:_/\_/\_/\Below _ _ _);go_wp2_with fail;go_ret;exact ⟨rfl,g⟩
    ·have y:¬ n < -9999999:=by omega
     go_enter Tryz.func163,Tryz.ntmps163;go_wp2_with fail;go_region_held3 (fun W=>W.cell? ⟨w.heap.size,0,none⟩=some (zd U 1)/\W.cell? ⟨w.heap.size,1,none⟩=some (zd U n)/\W.cell? ⟨w.heap.size,2,none⟩=some (O ao 0 cap)/\Ov w W) (first | assumption | exact ⟨l,k,i,below_drewN b 1⟩ | fail) (first | (go_at_call 209;refine (h.o _).mono ?_;rintro e p ⟨rfl,rfl⟩));obtain ⟨u,t,s,g⟩:=(by assumption:_/\_/\_/\Below _ _ _);go_wp2_with fail;go_ret;exact ⟨rfl,g⟩
   ·by_cases c7:kd=2
    ·subst c7
     have y:dl=0:=by simpa [Dw] using c4
     subst y;have ka:Dw 2=0:=rfl;rw [ka] at h;have f:CX vars 2 n 0=5/\(n < 0\/vars<=n):=by
      unfold CX at hE ⊢;rw [if_neg (by omega),if_neg (by omega),if_neg (by omega)] at hE ⊢;by_cases q:n < 0\/vars<=n
      ·exact ⟨by rw [if_pos (by omega)],q⟩
      ·rw [if_neg (by omega)] at hE
       exact absurd rfl hE
     obtain ⟨f,c5⟩:=f;rw [f];clear f hE c4 ka;rcases c5 with c5 | c5
     ·go_enter Tryz.func163,Tryz.ntmps163
      go_wp2_with fail;go_region_held3 (fun W=>W.cell? ⟨w.heap.size,0,none⟩=some (zd U 2)/\W.cell? ⟨w.heap.size,1,none⟩=some (zd U n)/\W.cell? ⟨w.heap.size,2,none⟩=some (O ao 0 cap)/\Ov w W) (first | assumption | exact ⟨l,k,i,below_drewN b 1⟩ | fail) (first | (go_at_call 209;refine (h.o _).mono ?_;rintro e p ⟨rfl,rfl⟩));obtain ⟨u,t,s,g⟩:=(by assumption:_/\_/\_/\Below _ _ _);go_wp2_with fail;go_ret;exact ⟨rfl,g⟩
     ·have y:¬ n < 0:=by omega
      go_enter Tryz.func163,Tryz.ntmps163;go_wp2_with fail;go_region_held3 (fun W=>W.cell? ⟨w.heap.size,0,none⟩=some (zd U 2)/\W.cell? ⟨w.heap.size,1,none⟩=some (zd U n)/\W.cell? ⟨w.heap.size,2,none⟩=some (O ao 0 cap)/\Ov w W) (first | assumption | exact ⟨l,k,i,below_drewN b 1⟩ | fail) (first | (go_at_call 209;refine (h.o _).mono ?_;rintro e p ⟨rfl,rfl⟩));obtain ⟨u,t,s,g⟩:=(by assumption:_/\_/\_/\Below _ _ _);go_wp2_with fail;go_ret;exact ⟨rfl,g⟩
    ·have ka:Dw kd=2:=by unfold Dw;rw [if_neg (by omega)]
     rw [ka] at h c4;have A:dl=2:=by omega
     subst A;have f:CX vars kd n 2=3/\n≠0:=by
      unfold CX at hE ⊢;rw [if_neg (by omega),if_neg (by omega)] at hE ⊢;by_cases q:n=0
      ·rw [if_neg (by omega),if_neg (by omega)] at hE
       exact absurd rfl hE
      ·exact ⟨by rw [if_pos (by omega)],q⟩
     obtain ⟨f,c9⟩:=f;rw [f];clear f hE c4 ka;go_enter Tryz.func163,Tryz.ntmps163;go_wp2_with fail;go_region_held3 (fun W=>W.cell? ⟨w.heap.size,0,none⟩=some (zd U kd)/\W.cell? ⟨w.heap.size,1,none⟩=some (zd U n)/\W.cell? ⟨w.heap.size,2,none⟩=some (O ao 2 cap)/\Ov w W) (first | assumption | exact ⟨l,k,i,below_drewN b 1⟩ | fail) (first | (go_at_call 209;refine (h.o _).mono ?_;rintro e p ⟨rfl,rfl⟩));obtain ⟨u,t,s,g⟩:=(by assumption:_/\_/\_/\Below _ _ _);go_wp2_with fail;go_ret;exact ⟨rfl,g⟩
  ·have f:CX vars kd n dl=1:=by
    unfold CX;unfold Dw at c4;rw [if_neg (by omega)];split at c4
    ·rw [if_pos (by omega)]
    ·rw [if_pos (by omega)]
   rw [f];clear f hE;go_enter Tryz.func163,Tryz.ntmps163;go_wp2_with fail;go_region_held3 (fun W=>W.cell? ⟨w.heap.size,0,none⟩=some (zd U kd)/\W.cell? ⟨w.heap.size,1,none⟩=some (zd U n)/\W.cell? ⟨w.heap.size,2,none⟩=some (O ao dl cap)/\Ov w W) (first | assumption | exact ⟨l,k,i,below_drewN b 1⟩ | fail) (first | (go_at_call 209;refine (h.o _).mono ?_;rintro e p ⟨rfl,rfl⟩));obtain ⟨u,t,s,g⟩:=(by assumption:_/\_/\_/\Below _ _ _);go_wp2_with fail;go_ret;exact ⟨rfl,g⟩
theorem Np (vars kd n:Int) (cap:Nat) (ao:Option Addr) (w:World) (v0:0<=vars) (v1:vars<=9223372036854775807) (hE:CX vars kd n 0=0) :
  Calls Tryz.prog 163 #[zh #[zd U kd,zd U n,O ao 0 cap],zd U vars] w fun e w'=>e=zj (zd U 0)/\Ov w w':=by
 have g:=Aa fun W=>Ie kd W;rcases ES hE with ⟨rfl,c1,B⟩ | ⟨rfl,c1,B⟩ | ⟨_,_,q⟩
 ·have b:Ov w (w.alloc (ze #[zd U 1,zd U n,O ao 0 cap] 94)):=bA w _
  obtain ⟨p,l,k⟩:=rc3 (B3 w [zd U 1,zd U n,O ao 0 cap] 94);have ka:Dw 1=0:=rfl;rw [ka] at g;clear hE ka;have q:¬ n < -9999999:=by omega
  have A:¬ 9999999 < n:=by omega
  go_enter Tryz.func163,Tryz.ntmps163;go_wp2_with fail;go_region_held3 (fun W=>W.cell? ⟨w.heap.size,0,none⟩=some (zd U 1)/\W.cell? ⟨w.heap.size,1,none⟩=some (zd U n)/\W.cell? ⟨w.heap.size,2,none⟩=some (O ao 0 cap)/\Ov w W) (first | assumption | exact ⟨p,l,k,below_drewN b 1⟩ | fail) (first | (go_at_call 209;refine (g.o _).mono ?_;rintro e s ⟨rfl,rfl⟩));obtain ⟨y,u,t,h⟩:=(by assumption:_/\_/\_/\Below _ _ _);go_wp2_with fail;go_loopw [67] (fun i wr=>i=zd U 0/\Ov w wr) (fun _ _=>0)
  case atStart=>exact ⟨rfl,h⟩
  case round=>
   obtain ⟨rfl,f⟩:=hrel;go_wp2_with fail;go_ret;exact ⟨rfl,f⟩
 ·have b:Ov w (w.alloc (ze #[zd U 2,zd U n,O ao 0 cap] 94)):=bA w _
  obtain ⟨p,l,k⟩:=rc3 (B3 w [zd U 2,zd U n,O ao 0 cap] 94);have ka:Dw 2=0:=rfl;rw [ka] at g;clear hE ka;have q:¬ n < 0:=by omega
  have A:¬ vars<=n:=by omega
  go_enter Tryz.func163,Tryz.ntmps163;go_wp2_with fail;go_region_held3 (fun W=>W.cell? ⟨w.heap.size,0,none⟩=some (zd U 2)/\W.cell? ⟨w.heap.size,1,none⟩=some (zd U n)/\W.cell? ⟨w.heap.size,2,none⟩=some (O ao 0 cap)/\Ov w W) (first | assumption | exact ⟨p,l,k,below_drewN b 1⟩ | fail) (first | (go_at_call 209;refine (g.o _).mono ?_;rintro e s ⟨rfl,rfl⟩));obtain ⟨y,u,t,h⟩:=(by assumption:_/\_/\_/\Below _ _ _);go_wp2_with fail;go_loopw [67] (fun i wr=>i=zd U 0/\Ov w wr) (fun _ _=>0)
  case atStart=>exact ⟨rfl,h⟩
  case round=>
   obtain ⟨rfl,f⟩:=hrel;go_wp2_with fail;go_ret;exact ⟨rfl,f⟩
 ·omega
theorem Pa (vars:Int) (v0:0<=vars) (v1:vars<=9223372036854775807):∀ (k:Nat) (cs:List Value) (d:D) (w:World),RX w k cs d ->
  Calls Tryz.prog 163 #[.agg cs.toArray,zd U vars] w fun e w'=>e=zj (zd U (BQ vars (CF k d)))/\Ov w w':=by
 intro k
 induction k with
 | zero=>intro cs d w h;exact h.elim
 | succ k ih=>
  intro cs d w h;obtain ⟨l,n,v,t,rfl,rfl,S,hn,F,L,cap,rfl,hc⟩:=h;have u:BQ vars (CF (k+1) (xD l n t))=if CX vars l n t.length=0 then Gp vars k t else CX vars l n t.length:=by
   rw [G8];rfl
  rw [u];show Calls Tryz.prog 163 #[zh #[zd U l,zd U n,O L t.length cap],zd U vars] w _;by_cases hE:CX vars l n t.length=0
  ·rw [if_pos hE]
   have hz:=ES hE
   cases t with
   | nil=>exact Np vars l n cap L w v0 v1 hE
   | cons d0 dr=>
    have ah:3<=l/\l<=7/\(d0::dr).length=2/\n=0:=by
     rcases hz with ⟨rfl,_,_⟩ | ⟨rfl,_,_⟩ | ⟨z1,z2,H⟩
     ·exfalso
      unfold CX at hE;rw [if_neg (by omega),if_pos (by simp)] at hE;omega
     ·exfalso
      unfold CX at hE;rw [if_neg (by omega),if_pos (by simp)] at hE;omega
     ·refine ⟨z1,z2,H,?_⟩
      rw [H] at hE;unfold CX at hE;rw [if_neg (by omega),if_neg (by omega)] at hE;by_cases q:n=0
      ·exact q
      ·rw [if_pos (by omega)] at hE
       omega
    obtain ⟨k1,k2,H,rfl⟩:=ah;obtain ⟨t,T⟩:=nm (d0::dr);rw [<-T] at hc H ⊢;rw [H];have HC:=Aa hc;have IH:=Aa ih;have KA:=Aa fun W=>Ie l W;have ka:Dw l=2:=by unfold Dw;rw [if_neg (by omega)]
    rw [ka] at KA;have aa:Ov w (w.alloc (ze #[zd U l,zd U 0,O L 2 cap] 94)):=bA w _;obtain ⟨e0,e1,e2⟩:=rc3 (B3 w [zd U l,zd U 0,O L 2 cap] 94);have n1:l≠1:=by omega
    have n2:l≠2:=by omega
    obtain ⟨R,hR⟩:=nm (Gp vars k t);have HR:=Aa hR;have HZ:=Aa H;rw [<-hR];clear hc ih u hE hz F S hn ka T H hR;go_enter Tryz.func163,Tryz.ntmps163;go_wp2_with fail;go_region_held3 (fun W=>W.cell? ⟨w.heap.size,0,none⟩=some (zd U l)/\W.cell? ⟨w.heap.size,1,none⟩=some (zd U 0)/\W.cell? ⟨w.heap.size,2,none⟩=some (O L 2 cap)/\Ov w W) (first | assumption | exact ⟨e0,e1,e2,below_drewN aa 1⟩ | fail) (first | (go_at_call 209;refine (KA.o _).mono ?_;rintro e wp ⟨rfl,rfl⟩));obtain ⟨g0,g1,g2,B⟩:=(by assumption:_/\_/\_/\Below _ _ _);go_wp2_with fail;go_loopw [67] (fun i wr=>∃ (j:Nat),j<=2/\i=zd U j/\R=Gp vars k (t.drop j)/\Ov w wr) (fun i _=>2 - (intOf i).toNat)
    case atStart=>exact ⟨0,Nat.zero_le _,rfl,HR.o,B⟩
    case round=>
     clear B g0 g1 g2;obtain ⟨j,hj,rfl,hp,B⟩:=hrel;have HP:=Aa hp;clear hp;by_cases hjl:j < 2
     ·have C:j < t.length:=by rw [HZ.o];exact hjl
      obtain ⟨b,off,rfl,Z⟩:=HC.o (by rintro rfl;simp at C);obtain ⟨cs,ag,E,hr⟩:=Z j t[j] (List.getElem?_eq_getElem C);obtain ⟨ac,G,y⟩:=hr.form;have f:=Lz (vars:=vars) (k:=k) C;obtain ⟨dj,V⟩:=nm (t[j]);rw [<-V] at f hr y;obtain ⟨kj,Q⟩:=nm (AQ dj);obtain ⟨nj,N⟩:=nm (Bk dj);obtain ⟨lj,P⟩:=nm ((A4 dj).length);rw [<-Q,<-N,<-P] at y;subst y;have q0:wr.cell? ⟨b,off+j*3,none⟩=_:=Ab B _ _ (E 0 _ rfl);have q1:=Ab B _ _ (E 1 _ rfl);have q2:=Ab B _ _ (E 2 _ rfl);have I:Ov wr (wr.alloc (ze #[zd U kj,zd U nj,O ac lj G] 94)):=bA wr _;have s:Ov w (wr.alloc (ze #[zd U kj,zd U nj,O ac lj G] 94)):=B.trans (I.mono B.size);have p:=IH.o _ dj _ (hr.over s);obtain ⟨r,M⟩:=nm (BQ vars (CF k dj));rw [<-M] at p f;have g:=Aa p;have HN:=Aa f;clear p f M Q N P hr E Z ag V C;by_cases hr0:r=0
      ·subst hr0
       go_wp2_with fail;refine (g.o).mono ?_;rintro e w1 ⟨rfl,A⟩;have J:Ov w w1:=s.trans (A.mono s.size);clear q0 q1 q2 B A g I s;go_wp2_with fail;exact ⟨⟨j+1,by omega,by go_num,by rw [HP.o,HN.o];rfl,J⟩,by simp [intOf];omega⟩
      ·have hd:R=r:=by rw [HP.o,HN.o,if_neg hr0]
       subst hd;clear HP HN HR;go_wp2_with fail;refine (g.o).mono ?_;rintro e w1 ⟨rfl,A⟩;have J:Ov w w1:=s.trans (A.mono s.size);clear q0 q1 q2 B A g I s;go_wp2_with fail;go_ret;exact ⟨rfl,J⟩
     ·have hd:R=0:=by
       rw [HP.o,List.drop_eq_nil_of_le (by rw [HZ.o];omega)];rfl
      subst hd;clear HP HR;go_wp2_with fail;go_ret;exact ⟨rfl,B⟩
  ·rw [if_neg hE]
   exact Nq vars l n t.length cap L w v0 v1 F S hn hE
theorem check_any (k:Nat) (cs:List Value) (d) (w:World) (vars:Int) (v0:0<=vars) (v1:vars<=9223372036854775807) (h:RX w k cs d) :
  Calls Tryz.prog 102 #[.agg cs.toArray,zd U vars] w fun e w'=>e=zj (zd U (AU vars k d))/\Ov w w':=by
 have q:=Aa fun W J=>Pk k cs d W 15 (h.over J) (by omega) (by omega);have A:=Aa fun W J=>Pa vars v0 v1 k cs d W (h.over J);obtain ⟨F,cap,rfl⟩:=h.form;obtain ⟨B,t⟩:=nm (AQ d);obtain ⟨n,L⟩:=nm (Bk d);obtain ⟨E,u⟩:=nm ((A4 d).length);rw [<-t,<-L,<-u] at q A ⊢;clear t L u;obtain ⟨p,C⟩:=nm (Cp k d 15);have f:AU vars k d=if 15 < p then 2 else BQ vars (CF k d):=by rw [C];rfl
 rw [<-C] at q;have i:=FW k d 15 (by omega);rw [<-C] at i;obtain ⟨z,H⟩:=nm (15 - p);rw [<-H] at q;clear C;obtain ⟨Q,P,N⟩:=rc3 (B3 w [zd U B,zd U n,O F E cap] 94);have b:Ov w (w.alloc (ze #[zd U B,zd U n,O F E cap] 94)):=bA w _;by_cases hq:15 < p
 ·rw [f,if_pos hq]
  have s:z < 0:=by omega
  clear f A hq H i;show Calls Tryz.prog 102 #[zh #[zd U B,zd U n,O F E cap],zd U vars] w _;go_enter Tryz.func102,Tryz.ntmps102;go_wp2_with fail;refine (q.o _ b).mono ?_;rintro e G ⟨rfl,g⟩;have l:Ov w G:=b.trans (g.mono b.size);clear g q;go_wp2_with fail;go_ret;exact ⟨rfl,l⟩
 ·rw [f,if_neg hq]
  have s:¬ z < 0:=by omega
  obtain ⟨R,M⟩:=nm (BQ vars (CF k d));rw [<-M] at A ⊢;clear f hq M H i;show Calls Tryz.prog 102 #[zh #[zd U B,zd U n,O F E cap],zd U vars] w _;go_enter Tryz.func102,Tryz.ntmps102;go_wp2_with fail;refine (q.o _ b).mono ?_;rintro e G ⟨rfl,g⟩;have l:Ov w G:=b.trans (g.mono b.size);obtain ⟨Z,V,T⟩:=co3 g Q P N;clear g q Q P N;go_wp2_with fail;refine (A.o _ l).mono ?_;rintro e S ⟨rfl,y⟩;have I:Ov w S:=l.trans (y.mono l.size);clear y A;go_wp2_with fail;go_ret;exact ⟨rfl,I⟩
theorem EJ (b:Bool) (w:World):Calls Tryz.prog 230 #[zg b] w fun e w'=>e=zj (zd U (if b then 1 else 0))/\w'=w:=by
 cases b
 ·go_enter Tryz.func230,Tryz.ntmps230
  go_wp2
  go_ret;exact ⟨rfl,rfl⟩
 ·go_enter Tryz.func230,Tryz.ntmps230
  go_wp2
  go_ret;exact ⟨rfl,rfl⟩
theorem OG (z:Int):wrap64 (RowKit.wrap32 z)=wrap32 z:=by
 have h:=EA z;have e:RowKit.wrap32 z=wrap32 z:=by
  simp only [RowKit.wrap32,wrap32]
 rw [e];simp only [wrap64];omega
theorem LA (k a b:Int) (ha:I32 a) (hb:I32 b) (hk:3<=k/\k<=7) (w:World):Calls Tryz.prog 191 #[zd U k,zd U a,zd U b] w fun e w'=>e=zj (zd U (opX k a b))/\w'=w:=by
 obtain ⟨q,p⟩:=ha;obtain ⟨l,i⟩:=hb;rcases (by omega:k=3\/k=4\/k=5\/k=6\/k=7) with rfl | rfl | rfl | rfl | rfl
 ·go_enter Tryz.func191,Tryz.ntmps191
  go_wp2_with fail;go_ret;refine ⟨?_,rfl⟩;show Ending.returned (Value.int IntKind.i64 (wrap64 (RowKit.wrap32 (a+b))))=_;rw [OG];rfl
 ·go_enter Tryz.func191,Tryz.ntmps191
  go_wp2_with fail;go_ret;refine ⟨?_,rfl⟩;show Ending.returned (Value.int IntKind.i64 (wrap64 (RowKit.wrap32 (a - b))))=_;rw [OG];rfl
 ·go_enter Tryz.func191,Tryz.ntmps191
  go_wp2_with fail;go_ret;refine ⟨?_,rfl⟩;show Ending.returned (Value.int IntKind.i64 (wrap64 (RowKit.wrap32 (a*b))))=_;rw [OG];rfl
 ·by_cases h:a < b
  ·have f:=Aa fun W=>EJ true W
   go_enter Tryz.func191,Tryz.ntmps191;go_wp2_with fail;refine (f.o _).mono ?_;rintro e g ⟨rfl,rfl⟩;go_wp2_with fail;go_ret;exact ⟨by simp [opX,h],rfl⟩
  ·have f:=Aa fun W=>EJ false W
   go_enter Tryz.func191,Tryz.ntmps191;go_wp2_with fail;refine (f.o _).mono ?_;rintro e g ⟨rfl,rfl⟩;go_wp2_with fail;go_ret;exact ⟨by simp [opX,h],rfl⟩
 ·by_cases h:a=b
  ·have f:=Aa fun W=>EJ true W
   have hb:(a == b)=true:=by simpa using h
   go_enter Tryz.func191,Tryz.ntmps191;go_wp2_with fail;try rw [hb]
   refine (f.o _).mono ?_;rintro e g ⟨rfl,rfl⟩;go_wp2_with fail;go_ret;exact ⟨by simp [opX,h],rfl⟩
  ·have f:=Aa fun W=>EJ false W
   have hb:(a == b)=false:=by simpa using h
   go_enter Tryz.func191,Tryz.ntmps191;go_wp2_with fail;try rw [hb]
   refine (f.o _).mono ?_;rintro e g ⟨rfl,rfl⟩;go_wp2_with fail;go_ret;exact ⟨by simp [opX,h],rfl⟩
theorem IP (cs:List Value) (d) (k:Nat) (w:World) (vv:Value) (vs) (h:RX w (k+1) cs d) (hi:AN w vv vs) (hk:(AQ d=1)\/(AQ d=2/\0<=Bk d/\Bk d < vs.length)) :
  Calls Tryz.prog 126 #[.agg cs.toArray,vv] w fun e w'=>e=zj (zd U (AC vs (k+1) d))/\Ov w w':=by
 obtain ⟨t,n,v,s,rfl,rfl,p,C,g,A,cap,rfl,y⟩:=h;simp only [Hn,MO] at hk;obtain ⟨va,vc,rfl,i⟩:=hi;have f:Ov w (w.alloc (ze #[zd U t,zd U n,O A s.length cap] 94)):=bA w _;show Calls Tryz.prog 126 #[zh #[zd U t,zd U n,O A s.length cap],O va vs.length vc] w _;rcases hk with rfl | ⟨rfl,B,n1⟩
 ·have l:AC vs (k+1) (xD 1 n s)=n:=rfl
  rw [l];clear l y i g p;go_enter Tryz.func126,Tryz.ntmps126;go_wp2_with fail;go_ret;exact ⟨rfl,f⟩
 ·have hl:n.toNat < vs.length:=by omega
  have l:AC vs (k+1) (xD 2 n s)=vs[n.toNat]:=by
   show vs.getD n.toNat 0=_;rw [List.getD_eq_getElem?_getD,List.getElem?_eq_getElem hl];rfl
  obtain ⟨b,off,rfl,q⟩:=i (by rintro rfl;simp at hl);have c:=q _ hl;obtain ⟨j,rfl⟩:∃ j:Nat,n=j:=⟨n.toNat,by omega⟩;rw [l];simp only [Int.toNat_natCast] at c hl ⊢;obtain ⟨r,u⟩:=nm (vs[j]);rw [<-u] at c ⊢;have E:=Ab f _ _ c;clear l y i g p q u;go_enter Tryz.func126,Tryz.ntmps126;go_wp2_with fail;go_ret;exact ⟨rfl,f⟩
theorem Nj (kd n:Int) (b off cap:Nat) (xk xn yk yn:Int) (xa ya:Option Addr) (xl yl xc yc:Nat) (vv:Value) (w:World) (a c:Int) (ha:I32 a) (hc:I32 c) (hkd:3<=kd/\kd<=7)
  (q0:w.cell? ⟨b,off,none⟩=some (zd U xk)) (q1:w.cell? ⟨b,off+1,none⟩=some (zd U xn)) (q2:w.cell? ⟨b,off+2,none⟩=some (O xa xl xc))
  (r0:w.cell? ⟨b,off+3,none⟩=some (zd U yk)) (r1:w.cell? ⟨b,off+3+1,none⟩=some (zd U yn)) (r2:w.cell? ⟨b,off+3+2,none⟩=some (O ya yl yc))
  (KX:Hx (∀ W,Ov w W->Calls Tryz.prog 126 #[zh #[zd U xk,zd U xn,O xa xl xc],vv] W fun e w'=>e=zj (zd U a)/\Ov W w'))
  (KY:Hx (∀ W,Ov w W->Calls Tryz.prog 126 #[zh #[zd U yk,zd U yn,O ya yl yc],vv] W fun e w'=>e=zj (zd U c)/\Ov W w')) :
  Calls Tryz.prog 126 #[zh #[zd U kd,zd U n,O (some ⟨b,off,none⟩) 2 cap],vv] w fun e w'=>e=zj (zd U (opX kd a c))/\Ov w w':=by
 have f:Ov w (w.alloc (ze #[zd U kd,zd U n,O (some ⟨b,off,none⟩) 2 cap] 94)):=bA w _;obtain ⟨p,l,k,i,h,g⟩:=co6 f q0 q1 q2 r0 r1 r2;have q:=B3 w [zd U kd,zd U n,O (some ⟨b,off,none⟩) 2 cap] 94;have t:=q 0 _ rfl;have s:=q 2 _ rfl;clear q;have A:kd≠1:=by omega
 have y:kd≠2:=by omega
 clear q0 q1 q2 r0 r1 r2;have u:=Aa fun W=>LA kd a c ha hc hkd W;go_enter Tryz.func126,Tryz.ntmps126;go_wp2_with fail;go_region_held3 (fun W=>W.cell? ⟨w.heap.size,0,none⟩=some (zd U kd)/\W.cell? ⟨w.heap.size,2,none⟩=some (O (some ⟨b,off,none⟩) 2 cap)/\W.cell? ⟨b,off,none⟩=some (zd U xk)/\W.cell? ⟨b,off+1,none⟩=some (zd U xn)/\W.cell? ⟨b,off+2,none⟩=some (O xa xl xc)/\W.cell? ⟨b,off+3,none⟩=some (zd U yk)/\W.cell? ⟨b,off+3+1,none⟩=some (zd U yn)/\W.cell? ⟨b,off+3+2,none⟩=some (O ya yl yc)/\Ov w W) (first | assumption | exact ⟨t,s,p,l,k,i,h,g,below_drewN f 1⟩ | exact RD (by assumption) hbp | exact RD (by assumption) hbq | fail) (first | (go_at_call_of 126 (Value.agg #[zd U xk,zd U xn,O xa xl xc]);refine (KX.o _ (by assumption:_/\_/\_/\_/\_/\_/\_/\_/\Below _ _ _).2.2.2.2.2.2.2.2).mono ?_;rintro e F ⟨rfl,hbp⟩) | (go_at_call_of 126 (Value.agg #[zd U yk,zd U yn,O ya yl yc]);refine (KY.o _ (by assumption:_/\_/\_/\_/\_/\_/\_/\_/\Below _ _ _).2.2.2.2.2.2.2.2).mono ?_;rintro e E ⟨rfl,hbq⟩) | (go_at_call 191;refine (u.o _).mono ?_;rintro e C ⟨rfl,rfl⟩));obtain ⟨-,-,-,-,-,-,-,-,B⟩:=(by assumption:_/\_/\_/\_/\_/\_/\_/\_/\Below _ _ _);clear p l k i h g t s f KX KY u;go_wp2_with fail;go_ret;exact ⟨rfl,B⟩
theorem O8 (vs:List Int) (hv:∀ x∈vs,I32 x):∀ (k:Nat) (cs:List Value) (d:D) (w:World) (vv:Value),RX w k cs d->okX vs.length k d->AN w vv vs ->
  Calls Tryz.prog 126 #[.agg cs.toArray,vv] w fun e w'=>e=zj (zd U (AC vs k d))/\Ov w w':=by
 intro k
 induction k with
 | zero=>intro cs d w vv h;exact h.elim
 | succ k ih=>
  intro cs d w vv h R hi;rcases R with ⟨g,-,-⟩ | ⟨g,t,V⟩ | ⟨g,t,x,y,l,O,N⟩
  ·exact IP cs d k w vv vs h hi (Or.inl g)
  ·exact IP cs d k w vv vs h hi (Or.inr ⟨g,t,V⟩)
  ·obtain ⟨f,n,v,ds,rfl,rfl,S,hn,P,ao,cap,rfl,T⟩:=h
   simp only [Hn,Lj] at g t l;subst l;obtain ⟨b,off,rfl,q⟩:=T (by simp);obtain ⟨xs,-,C,p⟩:=q 0 x rfl;obtain ⟨ys,-,A,i⟩:=q 1 y rfl;obtain ⟨Z,F,B⟩:=p.form;obtain ⟨ya,E,u⟩:=i.form;subst B;subst u;have Q:AC vs (k+1) (xD f n [x,y])=opX f (AC vs k x) (AC vs k y):=by
    show (if f=1 then n else if f=2 then vs.getD n.toNat 0 else opX f (AC vs k x) (AC vs k y))=_;rw [if_neg (by omega),if_neg (by omega)]
   rw [Q];obtain ⟨M,L,J⟩:=rc3 C;obtain ⟨I,H,G⟩:=rc3 A;simp only [Nat.zero_mul,Nat.one_mul,Nat.add_zero] at M L J I H G;exact Nj f n b off cap _ _ _ _ _ _ _ _ _ _ vv w _ _ (Fv hv k x O) (Fv hv k y N) ⟨g,t⟩ M L J I H G
    (Aa fun W s=>ih _ x W vv (p.over s) O (hi.over s)) (Aa fun W s=>ih _ y W vv (i.over s) N (hi.over s))
theorem Jw (x:Int) (w:World):Calls Tryz.prog 125 #[zd U x] w fun e w'=>e=zj (zg (!D9 x))/\w'=w:=by
 by_cases h1:x < -2147483648
 ·go_enter Tryz.func125,Tryz.ntmps125
  go_wp2
  go_ret;exact ⟨by simp [D9];omega,rfl⟩
 ·by_cases h2:2147483647 < x
  ·go_enter Tryz.func125,Tryz.ntmps125
   go_wp2
   go_ret;exact ⟨by simp [D9];omega,rfl⟩
  ·go_enter Tryz.func125,Tryz.ntmps125
   go_wp2
   go_ret;exact ⟨by simp [D9];omega,rfl⟩
theorem SK (args:Array Value) (w:World):(callFunc 125 args).run Tryz.prog w=.ok (.enter 125 args) w:=by simp [go_sem]
theorem Ir (vs) (v:Value) (w:World) (hv:AN w v vs) (hl:vs.length<=9223372036854775807) :
  Calls Tryz.prog 190 #[v,.func (.func 125) #[] #[]] w fun e w'=>∃ r:Int,e=zj (zd U r)/\decide (0<=r)=!vs.all D9/\w'=w:=by
 obtain ⟨L,cap,rfl,t⟩:=hv;have C:=Aa t;have G:=SK;clear t;go_enter Tryz.func190,Tryz.ntmps190;go_wp2_with fail;go_loopw [8] (fun i wr=>∃ k:Nat,k<=vs.length/\i=zd U k/\(vs.take k).all D9=true/\wr=w) (fun i _=>vs.length - (intOf i).toNat)
 case atStart=>exact ⟨0,Nat.zero_le _,rfl,rfl,rfl⟩
 case round=>
  obtain ⟨k,hk,rfl,q,rfl⟩:=hrel;have u:=Aa q;clear q;by_cases hkl:k < vs.length
  ·obtain ⟨b,off,rfl,s⟩:=C.o (by rintro rfl;simp at hkl)
   have I:=s k hkl;have l:D9 vs[k]=false->vs.all D9=false:=fun h=>by rw [List.all_eq_false];exact ⟨vs[k],List.getElem_mem hkl,by simp [h]⟩
   have p:D9 vs[k]=true->(vs.take (k+1)).all D9=true:=fun h=>by rw [List.take_succ_eq_append_getElem hkl,List.all_append,u.o];simp [h]
   obtain ⟨x,E⟩:=nm (vs[k]);rw [<-E] at I l p;have f:=Jw x wr;obtain ⟨r,F⟩:=nm (D9 x);rw [<-F] at f l p;have g:=Aa f;have A:=Aa l;have B:=Aa p;clear f l p F E s u
   cases r with
   | true=>
    go_wp2_with fail;refine (g.o).mono ?_;rintro e H ⟨rfl,rfl⟩;go_wp2_with fail;exact ⟨⟨k+1,by omega,by go_num,B.o (by first | rfl | trivial),by first | rfl | trivial⟩,by simp [intOf];omega⟩
   | false=>
    go_wp2_with fail;refine (g.o).mono ?_;rintro e H ⟨rfl,rfl⟩;go_wp2_with fail;go_ret;refine ⟨(k:Int),by first | rfl | trivial,?_,by first | rfl | trivial⟩;rw [A.o (by first | rfl | trivial)];simp
  ·have y:=u.o
   rw [List.take_of_length_le (by omega)] at y;have J:=Aa y;clear y u;go_wp2_with fail;go_ret;refine ⟨-1,by first | rfl | trivial,?_,by first | rfl | trivial⟩;rw [J.o];rfl
theorem Ga (vs) (v:Value) (w:World) (hv:AN w v vs) (hl:vs.length<=9223372036854775807) :
  Calls Tryz.prog 124 #[v,.func (.func 125) #[] #[]] w fun e w'=>e=zj (zg (!vs.all D9))/\w'=w:=by
 have f:=Aa (Ir vs v w hv hl);clear hv;obtain ⟨u,i⟩:=nm v;go_enter Tryz.func124,Tryz.ntmps124;go_wp2_with fail;refine (f.o).mono ?_;rintro e h ⟨r,rfl,b,rfl⟩;have g:=Aa b;clear b f;go_wp2_with fail;go_ret;exact ⟨by rw [<-g.o];rfl,by first | rfl | trivial⟩
theorem Nx (at' why:Int) (w:World):Calls Tryz.prog 215 #[zd U at',zg true,zd U why] w fun e w'=>e=zj (zk #[])/\w'=w:=by
 go_enter Tryz.func215,Tryz.ntmps215;go_wp2_with fail;go_end0;exact ⟨rfl,rfl⟩
theorem BO (why:Int) (w:World):Calls Tryz.prog 172 #[zg true,zd U why] w fun e w'=>e=zj (zk #[])/\w'=w:=by
 have K:=Aa fun W=>Nx 0 why W;go_enter Tryz.func172,Tryz.ntmps172;go_wp2_with fail;refine (K.o _).mono ?_;rintro e b ⟨rfl,rfl⟩;go_wp2_with fail;go_end0;exact ⟨rfl,rfl⟩
theorem Qc (w:World):Calls Tryz.prog 171 #[zd U 0] w fun e w'=>e=zj (zk #[])/\w'=w:=by
 have K:=Aa fun W=>BO 0 W;go_enter Tryz.func171,Tryz.ntmps171;go_wp2_with fail;refine (K.o _).mono ?_;rintro e b ⟨rfl,rfl⟩;go_wp2_with fail;go_end0;exact ⟨rfl,rfl⟩
theorem Bf (x m:Int) (w:World):Calls Tryz.prog 173 #[zd U x,zd U m] w fun e w'=>e=zj (zg (decide (0<=x/\x < m)))/\w'=w:=by
 by_cases h1:0<=x
 ·by_cases h2:x < m
  ·go_enter Tryz.func173,Tryz.ntmps173
   go_wp2
   go_ret;exact ⟨by simp;omega,rfl⟩
  ·go_enter Tryz.func173,Tryz.ntmps173
   go_wp2
   go_ret;exact ⟨by simp;omega,rfl⟩
 ·go_enter Tryz.func173,Tryz.ntmps173
  go_wp2
  go_ret;exact ⟨by simp;omega,rfl⟩
theorem Ac {w0 w1 w2:World} (h:Ov w0 w1) (h2:Ov w1 w2):Ov w0 w2:=h.trans (h2.mono h.size)
end Go.Proofs.YtfffpjkcfnekaaaGreat.Ex
namespace Go.Proofs.YtfffpjkcfnekaaaGreat
open Go.RowKit
open Go.Value renaming slice -> O, int -> zd, bool -> zg, agg -> zh, pointer -> zi, tuple -> zk
open Go.IntKind renaming i64 -> U
open Go.Obj renaming cells -> ze
open Go.Ending renaming returned -> zj
def Reach (gs:List (Nat × Nat)) (w k:Nat):Prop:=∀ S:Nat->Prop,S w->(∀ g∈gs,S g.1->S g.2)->S k
theorem LC (gs:List (Nat × Nat)) (w:Nat):Reach gs w w:=fun _ h _=>h
theorem LB {gs:List (Nat × Nat)} {w:Nat} {g:Nat × Nat} (hg:g∈gs) (h:Reach gs w g.1):Reach gs w g.2:=fun S h0 hS=>hS g hg (h S h0 hS)
def Dt (gs:List (Nat × Nat)) (w:Nat) (l:List Bool):Prop:=l[w]? = some true/\∀ k:Nat,l[k]? = some true->Reach gs w k
def D3 (gs:List (Nat × Nat)) (l:List Bool):Prop:=∀ g∈gs,l[g.1]? = some true->l[g.2]? = some true
theorem II {gs:List (Nat × Nat)} {w:Nat} {l:List Bool} {g:Nat × Nat} (h:Dt gs w l) (hg:g∈gs) (hk:l[g.1]? = some true):Dt gs w (l.set g.2 true):=by
 refine ⟨?_,fun k b=>?_⟩
 ·rw [List.getElem?_set]
  split
  ·split
   ·rfl
   ·rename_i e i
    subst e;have f:=h.1;rw [List.getElem?_eq_none (by omega)] at f;cases f
  ·exact h.1
 ·rw [List.getElem?_set] at b
  split at b
  ·rename_i e
   subst e;exact LB hg (h.2 _ hk)
  ·exact h.2 k b
theorem IX {gs:List (Nat × Nat)} {w:Nat} {l:List Bool} (h:Dt gs w l) (hc:D3 gs l) (k:Nat):l[k]? = some true ↔ Reach gs w k:=
 ⟨fun e=>h.2 k e,fun hr=>hr (fun k=>l[k]? = some true) h.1 hc⟩
theorem NE {gs:List (Nat × Nat)} {w:Nat} {l m:List Bool} (h:Dt gs w l) (hc:D3 gs l) (h2:Dt gs w m) (hc2:D3 gs m) (hl:l.length=m.length):l=m:=by
 apply List.ext_getElem?;intro k;have e:=(IX h hc k).trans (IX h2 hc2 k).symm;by_cases hk:k < l.length
 ·have b:k < m.length:=by omega
  rw [List.getElem?_eq_getElem hk,List.getElem?_eq_getElem b] at e ⊢;simp only [Option.some.injEq] at e ⊢;exact Bool.eq_iff_iff.2 e
 ·rw [List.getElem?_eq_none (by omega),List.getElem?_eq_none (by omega)]
def C2 (l:List Bool) (g:Nat × Nat):List Bool:=if l[g.1]? = some true then l.set g.2 true else l
def pass (gs:List (Nat × Nat)) (l:List Bool):List Bool:=gs.foldl C2 l
theorem Jj (l:List Bool) (g:Nat × Nat):(C2 l g).length=l.length:=by
 unfold C2;split <;> simp
theorem Gq (gs:List (Nat × Nat)) (l:List Bool):(pass gs l).length=l.length:=by
 unfold pass
 induction gs generalizing l with
 | nil=>rfl
 | cons g gs ih=>rw [List.foldl_cons,ih,Jj]
theorem JY (l:List Bool) (g:Nat × Nat):C2 l g=l\/l.count true < (C2 l g).count true:=by
 unfold C2;split
 ·by_cases h:g.2 < l.length
  ·by_cases hb:l[g.2]=true
   ·left
    rw [<-hb];exact List.set_getElem_self h
   ·right
    have b:l[g.2]=false:=by simpa using hb
    rw [List.count_set h];rw [b];simp
  ·left
   exact List.set_eq_of_length_le (by omega)
 ·exact Or.inl rfl
theorem LE (gs:List (Nat × Nat)) (l:List Bool):(pass gs l=l/\∀ g∈gs,C2 l g=l)\/l.count true < (pass gs l).count true:=by
 unfold pass
 induction gs generalizing l with
 | nil=>exact Or.inl ⟨rfl,by simp⟩
 | cons g gs ih=>
  rw [List.foldl_cons];rcases JY l g with h | h
  ·rw [h]
   rcases ih l with ⟨h1,e⟩ | h1
   ·left
    refine ⟨h1,fun f b=>?_⟩;rcases List.mem_cons.1 b with rfl | b
    ·exact h
    ·exact e f b
   ·exact Or.inr h1
  ·right
   rcases ih (C2 l g) with ⟨h1,_⟩ | h1
   ·rw [h1];exact h
   ·omega
theorem GJ {gs:List (Nat × Nat)} {l:List Bool} (hb:∀ g∈gs,g.2 < l.length) (h:∀ g∈gs,C2 l g=l):D3 gs l:=fun g hg hk=>by
 have:=h g hg;unfold C2 at this;rw [if_pos hk] at this;rw [<-this,List.getElem?_set_self (hb g hg)]
theorem LD {gs hs:List (Nat × Nat)} {w:Nat} {l:List Bool} (h:Dt gs w l) (hm:∀ g∈hs,g∈gs):Dt gs w (pass hs l):=by
 unfold pass
 induction hs generalizing l with
 | nil=>exact h
 | cons g hs ih=>
  rw [List.foldl_cons];refine ih ?_ fun e b=>hm e (List.mem_cons_of_mem _ b);unfold C2;split
  ·rename_i hk
   exact II h (hm g (by simp)) hk
  ·exact h
def BG (gs:List (Nat × Nat)):Nat->List Bool->List Bool
 | 0,l=>l
 | n+1,l=>pass gs (BG gs n l)
theorem C1 (gs:List (Nat × Nat)) (n:Nat) (l:List Bool):(BG gs n l).length=l.length:=by
 induction n with
 | zero=>rfl
 | succ n ih=>rw [BG,Gq,ih]
theorem Jn {gs:List (Nat × Nat)} {w n:Nat} {l:List Bool} (h:Dt gs w l):Dt gs w (BG gs n l):=by
 induction n with
 | zero=>exact h
 | succ n ih=>exact LD ih fun _ h=>h
theorem Jo (gs:List (Nat × Nat)) (n:Nat) (l:List Bool) (hb:∀ g∈gs,g.2 < l.length):D3 gs (BG gs n l)\/l.count true+n<=(BG gs n l).count true:=by
 induction n with
 | zero=>right;simp [BG]
 | succ n ih=>
  rw [BG];have e:∀ g∈gs,g.2 < (BG gs n l).length:=by rw [C1];exact hb
  rcases LE gs (BG gs n l) with ⟨h1,k⟩ | h1
  ·left
   rw [h1];exact GJ e k
  ·rcases ih with ih | ih
   ·left
    have b:∀ g∈gs,C2 (BG gs n l) g=BG gs n l:=fun g h=>by
     unfold C2;split
     ·rename_i hk
      have:=ih g h hk;obtain ⟨hl,i⟩:=List.getElem?_eq_some_iff.1 this;rw [<-i];exact List.set_getElem_self hl
     ·rfl
    have:pass gs (BG gs n l)=BG gs n l:=by
     generalize BG gs n l=m at b;unfold pass;clear h1 ih hb e
     induction gs with
     | nil=>rfl
     | cons g gs ih2=>
      rw [List.foldl_cons,b g (by simp)];exact ih2 fun p f=>b p (List.mem_cons_of_mem _ f)
    rw [this];exact ih
   ·right;omega
theorem Iq {gs:List (Nat × Nat)} {w:Nat} {l:List Bool} (h:Dt gs w l) (hb:∀ g∈gs,g.2 < l.length):D3 gs (BG gs l.length l):=by
 rcases Jo gs l.length l hb with h1 | h1
 ·exact h1
 ·have b:=List.count_le_length (a:=true) (l:=BG gs l.length l)
  rw [C1] at b;have e:0 < l.count true:=List.count_pos_iff.2 (List.mem_of_getElem? h.1);omega
def C8 (n w:Nat):List Bool:=(List.replicate n false).set w true
theorem Ec (gs:List (Nat × Nat)) {n w:Nat} (h:w < n):Dt gs w (C8 n w):=by
 unfold C8;refine ⟨by rw [List.getElem?_set_self (by simpa using h)],fun k hk=>?_⟩;rw [List.getElem?_set] at hk;split at hk
 ·rename_i e;subst e;exact LC _ _
 ·rw [List.getElem?_replicate] at hk
  split at hk <;> cases hk
def acts (gs:List (Nat × Nat)) (n w:Nat):List Bool:=BG gs n (C8 n w)
theorem Cm (n w:Nat):(C8 n w).length=n:=by simp [C8]
theorem BJ (gs:List (Nat × Nat)) (n w:Nat):(acts gs n w).length=n:=by rw [acts,C1,Cm]
theorem Mw (gs:List (Nat × Nat)) {n w:Nat} (h:w < n):Dt gs w (acts gs n w):=Jn (Ec gs h)
theorem Ll {gs:List (Nat × Nat)} {n w:Nat} (h:w < n) (hb:∀ g∈gs,g.2 < n):D3 gs (acts gs n w):=by
 have:=Iq (gs:=gs) (Ec gs h) (by rw [Cm];exact hb);rw [Cm] at this;exact this
theorem PQ {gs:List (Nat × Nat)} {n w:Nat} (h:w < n) (hb:∀ g∈gs,g.2 < n) {l:List Bool} (hl:l.length=n) (h1:Dt gs w l) (h2:D3 gs l):l=acts gs n w:=
 NE h1 h2 (Mw gs h) (Ll h hb) (by rw [hl,BJ])
theorem Aa {p:Prop} (h:p):Hx p:=h
theorem An {W w1:World} (hb:Ov W w1):(∀ b o,b < W.heap.size->w1.cell? ⟨b,o,none⟩=W.cell? ⟨b,o,none⟩)/\(∀ b o,b < W.heap.size->w1.frozen? ⟨b,o,none⟩=W.frozen? ⟨b,o,none⟩):=
 ⟨fun b o h=>hb.cell (p:=⟨b,o,none⟩) h,fun b o h=>hb.frozen (p:=⟨b,o,none⟩) h⟩
def BB (m x:Int):Bool:=decide (0<=x/\x < m)
theorem IZ (m x:Int) (s:Value) (w:World) :
  Calls Tryz.prog 168 #[zh #[zd U m,s],zd U x] w fun e w'=>e=zj (zg (BB m x))/\Ov w w':=by
 have b:Ov w (w.alloc (ze #[zd U m,s] 24)):=bA w _;by_cases h1:(0:Int)<=x
 ·by_cases h2:x < m
  ·go_enter Tryz.func168,Tryz.ntmps168
   go_wp2
   go_ret;exact ⟨by simp [BB];omega,b⟩
  ·go_enter Tryz.func168,Tryz.ntmps168
   go_wp2
   go_ret;exact ⟨by simp [BB];omega,b⟩
 ·go_enter Tryz.func168,Tryz.ntmps168
  go_wp2
  go_ret;exact ⟨by simp [BB];omega,b⟩
theorem GE (x a b:Int) (w:World) :
  Calls Tryz.prog 76 #[zd U x,zd U a,zd U b] w fun e w'=>e=zj (zg (decide (a<=x/\x<=b)))/\w'=w:=by
 by_cases h1:a<=x
 ·by_cases h2:x<=b
  ·go_enter Tryz.func76,Tryz.ntmps76
   go_wp2
   go_ret;exact ⟨by simp;omega,rfl⟩
  ·go_enter Tryz.func76,Tryz.ntmps76
   go_wp2
   go_ret;exact ⟨by simp;omega,rfl⟩
 ·go_enter Tryz.func76,Tryz.ntmps76
  go_wp2
  go_ret;exact ⟨by simp;omega,rfl⟩
theorem Kv (m x:Int) (hm:1<=m/\m<=6) (s:Value) (w:World) :
  Calls Tryz.prog 25 #[zh #[zd U m,s],zd U x] w fun e w'=>e=zj (zg (BB m x))/\Ov w w':=by
 have f:Ov w (w.alloc (ze #[zd U m,s] 24)):=bA w _;go_enter Tryz.func25,Tryz.ntmps25;go_wp2_with fail;refine (GE x 0 (m - 1) _).mono ?_;rintro e w' ⟨rfl,rfl⟩;go_wp2_with fail;go_ret;exact ⟨congrArg (fun b=>Ending.returned (zg b)) (by rw [Bool.eq_iff_iff];simp [BB];omega),f⟩
def AA (w:World) (v:Value) (gs:List (Int × Int)):Prop:=
 ∃ ao cap,v=O ao gs.length cap/\(gs≠[]->∃ b off,ao=some ⟨b,off,none⟩/\∀ i (h:i < gs.length),w.cell? ⟨b,off+i*2,none⟩=some (zd U gs[i].1)/\w.cell? ⟨b,off+i*2+1,none⟩=some (zd U gs[i].2))
theorem Af {w w':World} {v:Value} {gs:List (Int × Int)} (h:AA w v gs) (hb:Ov w w'):AA w' v gs:=by
 obtain ⟨q,cap,rfl,l⟩:=h;refine ⟨q,cap,rfl,fun f=>?_⟩;obtain ⟨b,off,rfl,g⟩:=l f;refine ⟨b,off,rfl,fun i hi=>?_⟩;obtain ⟨k,p⟩:=g i hi;have e:=bL k;exact ⟨by rw [(An hb).1 _ _ e];exact k,by rw [(An hb).1 _ _ e];exact p⟩
def DD (p:Int × Int->Bool) (gs:List (Int × Int)):Int:=match gs.findIdx? p with | some i=>i | none=>-1
theorem Pt {p:Int × Int->Bool} {gs:List (Int × Int)} {k:Nat} (hk:k < gs.length) (h:(gs.take k).all (fun g=>!p g)=true) (hp:p gs[k]=true):DD p gs=k:=by
 have:gs.findIdx? p=some k:=by
  rw [List.findIdx?_eq_some_iff_getElem];refine ⟨hk,hp,fun j b=>?_⟩;have:=List.all_eq_true.1 h gs[j] (by rw [List.mem_take_iff_getElem];exact ⟨j,by omega,rfl⟩);simpa using this
 simp [DD,this]
theorem LZ {p:Int × Int->Bool} {gs:List (Int × Int)} (h:gs.all (fun g=>!p g)=true):DD p gs=-1:=by
 have:gs.findIdx? p=none:=by
  rw [List.findIdx?_eq_none_iff];intro x b;have:=List.all_eq_true.1 h x b;simpa using this
 simp [DD,this]
theorem E8 (F:FuncId) (cv:Value) (p:Int × Int->Bool) (v:Value) (gs) (w:World) (hv:AA w v gs) (hn:gs.length<=20)
  (hF:Hx (∀ (i:Nat) (h:i < gs.length) (w1:World),Ov w w1->Calls Tryz.prog F #[zh #[zd U gs[i].1,zd U gs[i].2],cv] w1 fun e w2=>e=zj (zg (p gs[i]))/\Ov w1 w2))
  (hC:∀ (args:Array Value) (w:World),(callFunc F args).run Tryz.prog w=.ok (.enter F args) w) :
  Calls Tryz.prog 193 #[v,.func (.func F) #[] #[cv]] w fun e w'=>e=zj (zd U (DD p gs))/\Ov w w':=by
 obtain ⟨T,cap,rfl,u⟩:=hv;go_enter Tryz.func193,Tryz.ntmps193;go_wp2_with fail;go_loopw [8] (fun i wr=>∃ k:Nat,k<=gs.length/\i=zd U k/\(gs.take k).all (fun g=>!p g)=true/\Ov w wr) (fun i _=>gs.length - (intOf i).toNat)
 case atStart=>exact ⟨0,Nat.zero_le _,rfl,rfl,Below.refl _ w⟩
 case round=>
  obtain ⟨k,hk,rfl,q,f⟩:=hrel;by_cases hkl:k < gs.length
  ·obtain ⟨b,off,rfl,E⟩:=u (by rintro rfl;simp at hkl)
   obtain ⟨G,L⟩:=E k hkl;have I:=bL G;rw [<-(An f).1 _ _ I] at G L;have l:=hF.o k hkl;have A:=fun (H:p gs[k]=true)=>Pt hkl q H;have t:p gs[k]=false->(gs.take (k+1)).all (fun g=>!p g)=true:=fun H=>by
    rw [List.take_succ_eq_append_getElem hkl,List.all_append,q];simp [H]
   obtain ⟨r,M⟩:=nm (p gs[k]);obtain ⟨S,C⟩:=nm (gs[k].1);obtain ⟨R,B⟩:=nm (gs[k].2);rw [<-M] at l A t;rw [<-C] at G l;rw [<-B] at L l;have N:=Aa l;have Q:=Aa A;have P:=Aa t;clear M C B l A t E u hF
   cases r with
   | true=>
    go_wp2_with fail;refine (N.o _ f).mono ?_;rintro e w2 ⟨rfl,y⟩;have s:Ov w w2:=f.trans (y.mono f.size);go_wp2_with fail;go_ret;exact ⟨by rw [Q.o (by first | rfl | trivial)];rfl,s⟩
   | false=>
    go_wp2_with fail;refine (N.o _ f).mono ?_;rintro e w2 ⟨rfl,y⟩;have s:Ov w w2:=f.trans (y.mono f.size);go_wp2_with fail;exact ⟨⟨k+1,by omega,by go_num,P.o (by first | rfl | trivial),s⟩,by simp [intOf];omega⟩
  ·have J:k=gs.length:=by omega
   rw [J,List.take_length] at q;have O:=LZ q;clear q u hF;go_wp2_with fail;go_ret;exact ⟨by rw [O];rfl,f⟩
def Ib (m:Int) (g:Int × Int):Bool:=!BB m g.1 || !BB m g.2
def AR (m:Int) (gs:List (Int × Int)):Int:=if 1<=m/\m<=6 then (if gs.length<=20 then (if gs.any (Ib m)=true then 5 else 0) else 2) else 3
theorem SJ (args:Array Value) (w:World):(callFunc 167 args).run Tryz.prog w=.ok (.enter 167 args) w:=by simp [go_sem]
theorem SI (args:Array Value) (w:World):(callFunc 192 args).run Tryz.prog w=.ok (.enter 192 args) w:=by simp [go_sem]
theorem Mj (m:Int) (s:Value) (b:Nat) (g:Int × Int) (w:World) (h0:w.cell? ⟨b,0,none⟩=some (zd U m)) (h1:w.cell? ⟨b,1,none⟩=some s) :
  Calls Tryz.prog 167 #[zh #[zd U g.1,zd U g.2],zi (some ⟨b,0,none⟩)] w fun e w'=>e=zj (zg (Ib m g))/\Ov w w':=by
 obtain ⟨B,A⟩:=g;have i:=bL h0;have M:b≠w.heap.size:=by have:b < w.heap.size:=i;omega
 simp only;have G:=fun w=>IZ m B s w;have F:=fun w=>IZ m A s w;obtain ⟨H,t⟩:=nm (BB m B);obtain ⟨L,q⟩:=nm (BB m A);have p:Ib m (B,A)=(!H || !L):=by rw [t,q];rfl
 rw [<-t] at G;rw [<-q] at F;rw [p];have I:=Aa G;have O:=Aa F;clear G F t q p;have k:Ov w (w.alloc (ze #[zd U B,zd U A] 169)):=bA w _
 cases H with
 | true=>
  go_enter Tryz.func167,Tryz.ntmps167;go_wp2_with fail;refine (I.o _).mono ?_;rintro e y ⟨rfl,h⟩;obtain ⟨C,N⟩:=An h;have l:b < (w.alloc (ze #[zd U B,zd U A] 169)).heap.size:=by simp;exact Nat.lt_succ_of_lt i
  have c0:y.cell? ⟨b,0,none⟩=some (zd U m):=by rw [C _ _ l,(An k).1 _ _ i];exact h0
  have c1:y.cell? ⟨b,1,none⟩=some s:=by rw [C _ _ l,(An k).1 _ _ i];exact h1
  have P:y.cell? ⟨w.heap.size,1,none⟩=some (zd U A):=by rw [C _ _ (by simp)];simp [go_sem]
  have f:Ov w y:=k.trans (h.mono (by simp));clear C N h;go_wp2_with fail;refine (O.o _).mono ?_;rintro e J ⟨rfl,E⟩;have u:Ov w J:=f.trans (E.mono f.size);go_wp2_with fail;go_ret;exact ⟨by simp,u⟩
 | false=>
  go_enter Tryz.func167,Tryz.ntmps167;go_wp2_with fail;refine (I.o _).mono ?_;rintro e y ⟨rfl,h⟩;have f:Ov w y:=k.trans (h.mono (by simp));go_wp2_with fail;go_ret;exact ⟨by simp,f⟩
theorem Qq (p:Int × Int->Bool) (gs):decide (0<=DD p gs)=gs.any p:=by
 unfold DD
 cases h:gs.findIdx? p with
 | none=>
  have:gs.any p=false:=by rw [List.any_eq_false];intro x b;have:=(List.findIdx?_eq_none_iff.1 h) x b;simpa using this
  rw [this];rfl
 | some i=>
  obtain ⟨hi,e,_⟩:=List.findIdx?_eq_some_iff_getElem.1 h;have:gs.any p=true:=List.any_eq_true.2 ⟨_,List.getElem_mem hi,e⟩;rw [this];simp
theorem Gb (m:Int) (s:Value) (b:Nat) (v:Value) (gs) (w:World) (hv:AA w v gs) (hn:gs.length<=20)
  (h0:w.cell? ⟨b,0,none⟩=some (zd U m)) (h1:w.cell? ⟨b,1,none⟩=some s) :
  Calls Tryz.prog 166 #[v,.func (.func 167) #[] #[zi (some ⟨b,0,none⟩)]] w fun e w'=>e=zj (zg (gs.any (Ib m)))/\Ov w w':=by
 have k:=E8 167 (zi (some ⟨b,0,none⟩)) (Ib m) v gs w hv hn (Aa fun i hi l q=>by
  have f:=bL h0;exact Mj m s b gs[i] l (by rw [(An q).1 _ _ f];exact h0) (by rw [(An q).1 _ _ f];exact h1)) SJ
 have g:=Qq (Ib m) gs;obtain ⟨r,p⟩:=nm (DD (Ib m) gs);rw [<-p] at k g;rw [<-g];have t:=Aa k;clear k g p hv;obtain ⟨u,y⟩:=nm v;go_enter Tryz.func166,Tryz.ntmps166;go_wp2_with fail;refine (t.o).mono ?_;rintro e l ⟨rfl,h⟩;go_wp2_with fail;go_ret;exact ⟨by simp,h⟩
theorem check_any (m:Int) (v:Value) (gs) (w:World) (hv:AA w v gs) :
  Calls Tryz.prog 109 #[zh #[zd U m,v]] w fun e w'=>e=zj (zd U (AR m gs))/\Ov w w':=by
 have b:Ov w (w.alloc (ze #[zd U m,v] 24)):=bA w _;by_cases h1:m < 1
 ·have g:AR m gs=3:=by unfold AR;rw [if_neg (by omega)]
  have h:=Aa g;clear g;go_enter Tryz.func109,Tryz.ntmps109;go_wp2_with fail;go_ret;exact ⟨by rw [h.o];rfl,b⟩
 by_cases h6:6 < m
 ·have g:AR m gs=3:=by unfold AR;rw [if_neg (by omega)]
  have h:=Aa g;clear g;go_enter Tryz.func109,Tryz.ntmps109;go_wp2_with fail;go_ret;exact ⟨by rw [h.o];rfl,b⟩
 have i:=Af hv b;obtain ⟨u,cap,l,-⟩:=hv;by_cases hn:gs.length<=20
 ·have g:AR m gs=if gs.any (Ib m)=true then 5 else 0:=by unfold AR;rw [if_pos (by omega),if_pos hn]
  have q:=Gb m v w.heap.size v gs (w.alloc (ze #[zd U m,v] 24)) i hn (by simp [go_sem]) (by simp [go_sem]);obtain ⟨r,s⟩:=nm (gs.any (Ib m));rw [<-s] at g q;subst l;have h:=Aa g;have t:=Aa q;clear g q s i
  cases r with
  | true=>
   go_enter Tryz.func109,Tryz.ntmps109;go_wp2_with fail;refine (t.o).mono ?_;rintro e p ⟨rfl,k⟩;have f:Ov w p:=b.trans (k.mono (by simp));go_wp2_with fail;go_ret;exact ⟨by rw [h.o];rfl,f⟩
  | false=>
   go_enter Tryz.func109,Tryz.ntmps109;go_wp2_with fail;refine (t.o).mono ?_;rintro e p ⟨rfl,k⟩;have f:Ov w p:=b.trans (k.mono (by simp));go_wp2_with fail;go_ret;exact ⟨by rw [h.o];rfl,f⟩
 ·have g:AR m gs=2:=by unfold AR;rw [if_pos (by omega),if_neg hn]
  have h:=Aa g;subst l;clear g i;go_enter Tryz.func109,Tryz.ntmps109;go_wp2_with fail;go_ret;exact ⟨by rw [h.o];rfl,b⟩
def toI (g:Nat × Nat):Int × Int:=((g.1:Int),(g.2:Int))
def Co (w:World) (kb:Nat) (l:List Bool):Prop:=∀ i (h:i < l.length),w.cell? ⟨kb,i,none⟩=some (zg l[i])/\w.frozen? ⟨kb,i,none⟩=false
theorem Hm {w w':World} {kb:Nat} {l:List Bool} (h:Co w kb l) (hb:Ov w w'):Co w' kb l:=fun i hi=>by
 obtain ⟨h1,h2⟩:=h i hi;have hlt:=bL h1;exact ⟨by rw [(An hb).1 _ _ hlt];exact h1,by rw [(An hb).2 _ _ hlt];exact h2⟩
theorem IW {w:World} {kb:Nat} {l:List Bool} (h:Co w kb l) {j:Nat} (hj:j < l.length) (c:Bool):Co (w.setCell ⟨kb,j,none⟩ (zg c)) kb (l.set j c):=fun i hi=>by
 have hi':i < l.length:=by simpa using hi
 obtain ⟨b,f⟩:=h i hi';refine ⟨?_,?_⟩
 ·by_cases e:j=i
  ·subst e
   rw [World.cell?_setCell_same _ _ _ b];simp
  ·rw [World.cell?_setCell_other _ _ _ _ (by intro h;exact e (by injection h)),List.getElem_set_ne e]
   exact b
 ·rw [World.frozen?_setCell]
  exact f
def D4 (l:List Bool) (g:Int × Int):Bool:=(l[g.1.toNat]?.getD false) && !(l[g.2.toNat]?.getD false)
theorem ND (kp kb:Nat) (l:List Bool) (g:Nat × Nat) (w:World) (hl:l.length<=6) (hkp:w.cell? ⟨kp,0,none⟩=some (O (some ⟨kb,0,none⟩) l.length l.length)) (hk:Co w kb l)
  (h0:g.1 < l.length) (h1:g.2 < l.length) :
  Calls Tryz.prog 192 #[zh #[zd U (toI g).1,zd U (toI g).2],zi (some ⟨kp,0,none⟩)] w fun e w'=>e=zj (zg (D4 l (toI g)))/\Ov w w':=by
 obtain ⟨i,h⟩:=g;simp only [toI] at h0 h1 ⊢;have f:D4 l ((i:Int),(h:Int))=(l[i] && !l[h]):=by simp [D4,h0,h1]
 rw [f];obtain ⟨c0,-⟩:=hk i h0;obtain ⟨c1,-⟩:=hk h h1;obtain ⟨t,p⟩:=nm (l[i]);obtain ⟨u,k⟩:=nm (l[h]);rw [<-p] at c0;rw [<-k] at c1;rw [<-p,<-k];have s:=bL hkp;have q:=bL c0;have b:Ov w (w.alloc (ze #[zd U i,zd U h] 169)):=bA w _;clear p k f hk
 cases t with
 | true=>
  go_enter Tryz.func192,Tryz.ntmps192;go_wp2_with fail;go_ret;exact ⟨by simp,b⟩
 | false=>
  go_enter Tryz.func192,Tryz.ntmps192;go_wp2_with fail;go_ret;exact ⟨by simp,b⟩
theorem Tryz.info4:(Tryz.prog.info? 4).map (fun i=>(i.zero,i.size,i.bytes))=some (some (zg false),1,1):=by kernel_rfl
theorem Dx (n:Nat) (hn:n<=6) (w:World):(Instr.makeSlice 48 (zd U n) (zd U n)).run Tryz.prog w=.ok (O (some ⟨w.heap.size,0,none⟩) n n) (w.alloc (.cells (List.replicate n (Value.bool false)).toArray 4)):=by
 cases hi:Tryz.prog.info? 4 with
 | none=>have:=Tryz.info4;rw [hi] at this;cases this
 | some i=>
  have b:=Tryz.info4;rw [hi] at b;simp only [Option.map_some,Option.some.injEq,Prod.mk.injEq] at b;obtain ⟨h,g,f⟩:=b;have:=run_make (P:=Tryz.prog) w 48 4 i (zg false) Tryz.underlying48 hi h U U (n:Int) (n:Int) (by omega) (by omega) (by rw [f];omega) (by omega);rw [this,g];simp only [Int.toNat_natCast,Nat.mul_one];have e:madeCells (Value.bool false).cells n=(List.replicate n (Value.bool false)).toArray:=by
   apply Array.ext
   ·simp [madeCells]
   ·intro j g f
    simp [madeCells,Value.cells,Nat.mod_one]
  rw [e]
def Ez (w:World) (n:Nat) (v:Value) (l:List Bool) (W:World):Prop:=
 W.cell? ⟨w.heap.size,0,none⟩=some (zd U n)/\W.cell? ⟨w.heap.size,1,none⟩=some v/\W.cell? ⟨w.heap.size+1+1,0,none⟩=some (O (some ⟨w.heap.size+1,0,none⟩) n n)/\Co W (w.heap.size+1) l/\Ov w W
theorem Ez.over {w W W':World} {n:Nat} {v:Value} {l:List Bool} (h:Ez w n v l W) (hb:Ov W W'):Ez w n v l W':=by
 obtain ⟨i,g,f,k,e⟩:=h;obtain ⟨b,p⟩:=An hb;refine ⟨?_,?_,?_,Hm k hb,e.trans (hb.mono e.size)⟩
 ·rw [b _ _ (bL i)];exact i
 ·rw [b _ _ (bL g)];exact g
 ·rw [b _ _ (bL f)];exact f
theorem Ih {w W:World} {n:Nat} {v:Value} {l:List Bool} {gn:List (Nat × Nat)} (hn:n<=6) (h:Ez w n v l W) (hl:l.length=n) (hv:AA w v (gn.map toI)) (hlen:gn.length<=20) (hb:∀ g∈gn,g.1 < n/\g.2 < n) :
  Calls Tryz.prog 193 #[v,.func (.func 192) #[] #[zi (some ⟨w.heap.size+1+1,0,none⟩)]] W fun e w'=>e=zj (zd U (DD (D4 l) (gn.map toI)))/\Ez w n v l w':=by
 refine (E8 192 (zi (some ⟨w.heap.size+1+1,0,none⟩)) (D4 l) v (gn.map toI) W (Af hv h.2.2.2.2) (by simpa using hlen) (Aa fun i hi p b=>?_) SI).mono ?_
 ·have f:i < gn.length:=by simpa using hi
  have k:=h.over b;have q:=hb gn[i] (List.getElem_mem f);have:=ND (w.heap.size+1+1) (w.heap.size+1) l gn[i] p (by omega) (by rw [hl];exact k.2.2.1) k.2.2.2.1 (by omega) (by omega);simpa using this
 ·rintro e w' ⟨rfl,b⟩
  exact ⟨rfl,h.over b⟩
def isF:Option Value->Bool
 | some (zg false)=>true
 | _=>false
def JD (kb n:Nat) (W:World):Nat:=(List.range n).countP fun i=>isF (W.cell? ⟨kb,i,none⟩)
theorem I4 {W:World} {kb:Nat} {l:List Bool} (h:Co W kb l):JD kb l.length W=l.count false:=by
 have:l=(List.range l.length).map fun i=>l[i]?.getD false:=by
  apply List.ext_getElem
  ·simp
  ·intro i e f
   simp [e]
 unfold JD
 conv=>rhs;rw [this]
 rw [List.count_eq_countP,List.countP_map];apply List.countP_congr;intro i hi;have b:i < l.length:=by simpa using hi
 rw [(h i b).1];simp only [Function.comp,b,List.getElem?_eq_getElem,Option.getD_some];cases l[i] <;> simp [isF]
theorem GI {l:List Bool} {j:Nat} (hj:j < l.length) (h:l[j]=false):(l.set j true).count false < l.count false:=by
 rw [List.count_set hj];have b:0 < l.count false:=List.count_pos_iff.2 (List.mem_iff_getElem.2 ⟨j,hj,h⟩);simp [h];omega
theorem NN (l:List Bool) (gn:List (Nat × Nat)) (n:Nat) (hl:l.length=n) (hb:∀ g∈gn,g.1 < n/\g.2 < n) :
  (DD (D4 l) (gn.map toI)=-1/\D3 gn l)\/∃ (k:Nat) (h:k < gn.length),DD (D4 l) (gn.map toI)=k/\l[gn[k].1]? = some true/\l[gn[k].2]? = some false:=by
 have s:∀ g∈gn,D4 l (toI g)=true ↔ l[g.1]? = some true/\l[g.2]? = some false:=fun g e=>by
  obtain ⟨A,p⟩:=hb g e;have y:l[g.1]? = some l[g.1]:=List.getElem?_eq_getElem (by omega);have q:l[g.2]? = some l[g.2]:=List.getElem?_eq_getElem (by omega);simp only [D4,toI,Int.toNat_natCast,y,q,Option.getD_some,Option.some.injEq];cases l[g.1] <;> cases l[g.2] <;> simp
 unfold DD
 cases hf:(gn.map toI).findIdx? (D4 l) with
 | none=>
  left;refine ⟨rfl,fun g e hk=>?_⟩;have p:=(List.findIdx?_eq_none_iff.1 hf) (toI g) (List.mem_map_of_mem e);have t:¬ (l[g.1]? = some true/\l[g.2]? = some false):=fun h=>by rw [(s g e).2 h] at p;cases p
  have i:g.2 < l.length:=by have:=hb g e;omega
  have q:l[g.2]? = some l[g.2]:=List.getElem?_eq_getElem i;rw [q] at t ⊢
  cases hx:l[g.2] with
  | true=>rfl
  | false=>exact absurd ⟨hk,by rw [hx]⟩ t
 | some k=>
  right;obtain ⟨hi,u,_⟩:=List.findIdx?_eq_some_iff_getElem.1 hf;have b:k < gn.length:=by simpa using hi
  have f:D4 l (toI gn[k])=true:=by simpa using u
  exact ⟨k,b,rfl,(s _ (List.getElem_mem b)).1 f⟩
theorem Lm (n who:Nat) (hn:n<=6) (hw:who < n) (v:Value) (gn:List (Nat × Nat)) (w:World) (hv:AA w v (gn.map toI)) (hlen:gn.length<=20) (hb:∀ g∈gn,g.1 < n/\g.2 < n) :
  Calls Tryz.prog 127 #[zh #[zd U n,v],zd U who] w fun e w'=>∃ kb,w.heap.size<=kb/\kb < w'.heap.size/\e=zj (O (some ⟨kb,0,none⟩) n n)/\Co w' kb (acts gn n who)/\Ov w w':=by
 have aa:=fun w=>Dx n hn w;have q:Ez w n v (C8 n who) (((w.alloc (Obj.cells #[Value.int IntKind.i64 n,v] 24)).alloc (Obj.cells ((Array.replicate n (Value.bool false)).setIfInBounds who (Value.bool true)) 4)).alloc (Obj.cells #[Value.slice (some { block:=w.heap.size+1,off:=0 }) n n] 48)):=by
  refine ⟨by simp [go_sem],by simp [go_sem],by simp [go_sem],fun i hi=>?_,?_⟩
  ·have Q:i < n:=by simpa [C8] using hi
   refine ⟨?_,by simp [go_sem]⟩;simp [go_sem,C8,List.getElem_set,Q];by_cases e:who=i
   ·simp [e]
   ·simp [e,Q]
  ·exact ((bA w _).alloc (by simp) _).alloc (by simp;omega) _
 have R:=Aa (Ih hn q (Cm n who) hv hlen hb);clear q;go_enter Tryz.func127,Tryz.ntmps127;go_wp2_with fail;refine (R.o).mono ?_;rintro e w1 ⟨rfl,q⟩;clear R aa;go_wp2_with fail;go_loopw [7] (fun i wr=>∃ l:List Bool,l.length=n/\Dt gn who l/\i=zd U (DD (D4 l) (gn.map toI))/\Ez w n v l wr) (fun _ wr=>JD (w.heap.size+1) n wr)
 case atStart=>exact ⟨_,Cm n who,Ec gn hw,rfl,q⟩
 case round=>
  obtain ⟨l,hl,t,rfl,p⟩:=hrel;clear q;rcases NN l gn n hl hb with ⟨hi,s⟩ | ⟨k,hk,hi,E,F⟩
  ·have he:l=acts gn n who:=PQ hw (fun g hg=>(hb g hg).2) hl t s
   rw [hi];obtain ⟨s0,s1,T,B,S⟩:=p;have hz:=bL T;have W:w.heap.size+1 < wr.heap.size:=by have:w.heap.size+1+1 < wr.heap.size:=hz;omega
   rw [he] at B;clear s t he hi;go_wp2_with fail;go_ret;exact ⟨w.heap.size+1,by omega,W,rfl,B,S⟩
  ·obtain ⟨ad,ac⟩:=hb _ (List.getElem_mem hk)
   have Z:=p;obtain ⟨s0,s1,T,B,S⟩:=p;obtain ⟨ao,cap,M,I⟩:=hv;rw [List.length_map] at M;subst M;obtain ⟨b,off,rfl,s⟩:=I (by intro h;rw [List.map_eq_nil_iff] at h;rw [h] at hk;simp at hk);obtain ⟨L,V⟩:=s k (by simpa using hk);have ab:=bL L;rw [<-(An S).1 _ _ ab] at L V;simp only [List.getElem_map,toI] at L V;obtain ⟨d1,d2⟩:=B gn[k].2 (by omega);have f:l[gn[k].2]=false:=by have:=F;rw [List.getElem?_eq_getElem (by omega)] at this;exact Option.some.inj this
   rw [f] at d1;obtain ⟨gw,G⟩:=nm (gn[k].1);obtain ⟨J,H⟩:=nm (gn[k].2);simp only [<-G,<-H] at L V d1 d2 ad ac E F f;rw [hi];have A:=IW (w:=wr.drew) B (j:=J) (by omega) true;have P:Dt gn who (l.set J true):=by rw [H];exact II t (List.getElem_mem hk) (by rw [<-G];exact E)
   have C:(l.set J true).length=n:=by simpa using hl
   have aj:JD (w.heap.size+1) n wr=l.count false:=by rw [<-hl];exact I4 B
   have al:=GI (l:=l) (j:=J) (by omega) f;have y:Ez w n (O (some ⟨b,off,none⟩) gn.length cap) (l.set J true) (wr.drew.setCell ⟨w.heap.size+1,J,none⟩ (zg true)):=by
    refine ⟨?_,?_,?_,A,(below_drewN S 1).setCell (by simp) _⟩
    ·rw [World.cell?_setCell_other _ _ _ _ (by simp)];exact s0
    ·rw [World.cell?_setCell_other _ _ _ _ (by simp)];exact s1
    ·rw [World.cell?_setCell_other _ _ _ _ (by simp)];exact T
   have N:AA w (O (some ⟨b,off,none⟩) gn.length cap) (gn.map toI):=⟨_,_,by rw [List.length_map],I⟩;have R:=Aa (Ih hn y C N hlen hb);obtain ⟨t0,t1,t2,-,-⟩:=y;have HS:=Aa P;clear s I A P t Z N B E F f G H hb L;go_wp2_with fail;go_region;go_wp2_with fail;refine (R.o).mono ?_;rintro e w2 ⟨rfl,u⟩;clear R;go_wp2_with fail;refine ⟨⟨l.set J true,C,HS.o,rfl,u⟩,?_⟩;have h1:=I4 u.2.2.2.1;rw [C] at h1;omega
def Ax (gs:List (Int × Int)):List (Nat × Nat):=gs.map fun g=>(g.1.toNat,g.2.toNat)
theorem Dr {m:Int} {gs:List (Int × Int)} (h:AR m gs=0):∃ n:Nat,m=n/\1<=n/\n<=6/\(Ax gs).map toI=gs/\(Ax gs).length<=20/\∀ g∈Ax gs,g.1 < n/\g.2 < n:=by
 unfold AR at h;split at h
 ·split at h
  ·split at h
   ·cases h
   ·rename_i s hl p
    have f:∀ g∈gs,BB m g.1=true/\BB m g.2=true:=fun g e=>by
     have b:¬ Ib m g=true:=fun l=>p (List.any_eq_true.2 ⟨g,e,l⟩);simp [Ib] at b;exact b
    refine ⟨m.toNat,by omega,by omega,by omega,?_,by simpa [Ax] using hl,fun g e=>?_⟩
    ·unfold Ax
     rw [List.map_map]
     conv=>rhs;rw [<-List.map_id gs]
     apply List.map_congr_left;intro g e;obtain ⟨b,k⟩:=f g e;simp [BB] at b k;simp only [Function.comp,toI,id]
     ext <;> simp <;> omega
    ·obtain ⟨q,i,rfl⟩:=List.mem_map.1 e
     obtain ⟨b,k⟩:=f q i;simp [BB] at b k;simp only;omega
  ·cases h
 ·cases h
theorem Tryz.info35:(Tryz.prog.info? 48).map (fun i=>(i.zero,i.size,i.bytes))=some (some (O none 0 0),1,24):=by kernel_rfl
theorem Su (n:Nat) (hn:n<=6) (w:World):(Instr.makeSlice 137 (zd U n) (zd U n)).run Tryz.prog w=.ok (O (some ⟨w.heap.size,0,none⟩) n n) (w.alloc (.cells (List.replicate n (Value.slice none 0 0)).toArray 48)):=by
 cases hi:Tryz.prog.info? 48 with
 | none=>have:=Tryz.info35;rw [hi] at this;cases this
 | some i=>
  have b:=Tryz.info35;rw [hi] at b;simp only [Option.map_some,Option.some.injEq,Prod.mk.injEq] at b;obtain ⟨h,g,f⟩:=b;have:=run_make (P:=Tryz.prog) w 137 48 i (O none 0 0) Tryz.underlying137 hi h U U (n:Int) (n:Int) (by omega) (by omega) (by rw [f];omega) (by omega);rw [this,g];simp only [Int.toNat_natCast,Nat.mul_one];have e:madeCells (Value.slice none 0 0).cells n=(List.replicate n (Value.slice none 0 0)).toArray:=by
   apply Array.ext
   ·simp [madeCells]
   ·intro j g f
    simp [madeCells,Value.cells,Nat.mod_one]
  rw [e]
def CZ (W:World) (ob n:Nat) (gn:List (Nat × Nat)) (k:Nat):Prop:=∀ i,i < k->∃ kb,kb≠ob/\W.cell? ⟨ob,i,none⟩=some (O (some ⟨kb,0,none⟩) n n)/\Co W kb (acts gn n i)
theorem EH {W W':World} {ob n k:Nat} {gn:List (Nat × Nat)} (h:CZ W ob n gn k) (hb:Ov W W'):CZ W' ob n gn k:=fun i hi=>by
 obtain ⟨kb,h1,h2,h3⟩:=h i hi;exact ⟨kb,h1,by rw [(An hb).1 _ _ (bL h2)];exact h2,Hm h3 hb⟩
theorem GA {w:World} {kb:Nat} {l:List Bool} (h:Co w kb l) {p:Addr} (hp:p.block≠kb) (u:Value):Co (w.setCell p u) kb l:=fun i hi=>by
 obtain ⟨h1,h2⟩:=h i hi;refine ⟨?_,?_⟩
 ·rw [World.cell?_setCell_other _ _ _ _ (by intro h;exact hp (by rw [h]))]
  exact h1
 ·rw [World.frozen?_setCell]
  exact h2
theorem O4 {W:World} {ob n k kb:Nat} {gn:List (Nat × Nat)} (h:CZ W ob n gn k) {u:Value} (hu:W.cell? ⟨ob,k,none⟩=some u) (hkb:kb≠ob) (hk:Co W kb (acts gn n k)) :
  CZ (W.setCell ⟨ob,k,none⟩ (O (some ⟨kb,0,none⟩) n n)) ob n gn (k+1):=fun i hi=>by
 by_cases e:i=k
 ·subst e
  exact ⟨kb,hkb,World.cell?_setCell_same _ _ _ hu,GA hk (fun h=>hkb h.symm) _⟩
 ·obtain ⟨kc,h1,h2,h3⟩:=h i (by omega)
  refine ⟨kc,h1,?_,GA h3 (fun h=>h1 h.symm) _⟩;rw [World.cell?_setCell_other _ _ _ _ (by intro h;injection h with _ h;exact e h.symm)];exact h2
def Lr (W:World) (ob n:Nat):Prop:=∀ i,i < n->(∃ u,W.cell? ⟨ob,i,none⟩=some u)/\W.frozen? ⟨ob,i,none⟩=false
theorem Lw {W W':World} {ob n:Nat} (h:Lr W ob n) (hb:Ov W W'):Lr W' ob n:=fun i hi=>by
 obtain ⟨⟨u,h1⟩,h2⟩:=h i hi;have hlt:=bL h1;exact ⟨⟨u,by rw [(An hb).1 _ _ hlt];exact h1⟩,by rw [(An hb).2 _ _ hlt];exact h2⟩
theorem Nf {W:World} {ob n k:Nat} (h:Lr W ob n) (hk:k < n) (v:Value):Lr (W.setCell ⟨ob,k,none⟩ v) ob n:=fun i hi=>by
 obtain ⟨⟨u,h1⟩,h2⟩:=h i hi;refine ⟨?_,by rw [World.frozen?_setCell];exact h2⟩;by_cases e:k=i
 ·subst e
  exact ⟨v,World.cell?_setCell_same _ _ _ h1⟩
 ·exact ⟨u,by rw [World.cell?_setCell_other _ _ _ _ (by intro h;injection h with _ h;exact e h)];exact h1⟩
def Ja (w:World) (n:Nat) (v:Value) (gn:List (Nat × Nat)) (ob k:Nat) (W:World):Prop:=
 W.cell? ⟨w.heap.size,0,none⟩=some (zd U n)/\W.cell? ⟨w.heap.size,1,none⟩=some v/\Lr W ob n/\CZ W ob n gn k/\Ov w W/\w.heap.size < ob/\ob < W.heap.size
theorem Ja.over {w W W':World} {n ob k:Nat} {v:Value} {gn:List (Nat × Nat)} (h:Ja w n v gn ob k W) (hb:Ov W W'):Ja w n v gn ob k W':=by
 obtain ⟨g,f,q,p,e,l,i⟩:=h;obtain ⟨b,s⟩:=An hb;refine ⟨?_,?_,Lw q hb,EH p hb,e.trans (hb.mono e.size),l,Nat.lt_of_lt_of_le i hb.size⟩
 ·rw [b _ _ (bL g)];exact g
 ·rw [b _ _ (bL f)];exact f
theorem PA (n:Nat) (h1:1<=n) (hn:n<=6) (v:Value) (gn:List (Nat × Nat)) (w:World) (hv:AA w v (gn.map toI)) (hlen:gn.length<=20) (hb:∀ g∈gn,g.1 < n/\g.2 < n) (hE:AR n (gn.map toI)=0) :
  Calls Tryz.prog 69 #[zh #[zd U n,v]] w fun e w'=>∃ ob,e=zj (zk #[O (some ⟨ob,0,none⟩) n n,zd U 0])/\CZ w' ob n gn n/\Ov w w':=by
 have F:=fun w=>Su n hn w;have f:Ov w (w.alloc (ze #[zd U n,v] 24)):=bA w _;have J:=check_any n v (gn.map toI) (w.alloc (ze #[zd U n,v] 24)) (Af hv f);rw [hE] at J;have P:=Aa J;have HA:=Aa fun (who:Nat) (hw:who < n) (W:World) (hW:Ov w W)=>Lm n who hn hw v gn W (Af hv hW) hlen hb;clear J hE hv;go_enter Tryz.func69,Tryz.ntmps69;go_wp2_with fail;refine (P.o).mono ?_;rintro e b ⟨rfl,s⟩;obtain ⟨H,hf⟩:=An s;have c0:b.cell? ⟨w.heap.size,0,none⟩=some (zd U n):=by rw [H _ _ (by simp)];simp [go_sem]
 have c1:b.cell? ⟨w.heap.size,1,none⟩=some v:=by rw [H _ _ (by simp)];simp [go_sem]
 have q:Ov w b:=f.trans (s.mono (by simp));have B:w.heap.size < b.heap.size:=bL c0;have y:Ja w n v gn b.heap.size 0 (b.alloc (.cells (List.replicate n (Value.slice none 0 0)).toArray 48)):=by
  have t:Ov b (b.alloc (.cells (List.replicate n (Value.slice none 0 0)).toArray 48)):=bA b _;refine ⟨?_,?_,fun i hi=>⟨⟨O none 0 0,by simp [go_sem,hi]⟩,by simp [go_sem]⟩,fun i hi=>absurd hi (Nat.not_lt_zero _),q.trans (t.mono (by omega)),B,by simp⟩
  ·rw [(An t).1 _ _ B];exact c0
  ·rw [(An t).1 _ _ B];exact c1
 clear P H hf s f;go_wp2_with fail;go_loopw [17] (fun i wr=>∃ k:Nat,k<=n/\i=zd U k/\Ja w n v gn b.heap.size k wr) (fun i _=>n - (intOf i).toNat)
 case atStart=>exact ⟨0,Nat.zero_le _,rfl,by simpa using y⟩
 case round=>
  clear y F c0 c1;obtain ⟨k,hk,rfl,p⟩:=hrel;by_cases hkn:k < n
  ·have N:=Aa p
   obtain ⟨T,S,-,-,A,-,s6⟩:=p;go_wp2_with fail;refine (HA.o k hkn _ A).mono ?_;rintro e Q ⟨L,af,M,rfl,h,I⟩;have l:=N.o.over I;clear T S A;obtain ⟨⟨u,d1⟩,d2⟩:=l.2.2.1 k hkn;have E:L≠b.heap.size:=by omega
   have C:Ja w n v gn b.heap.size (k+1) (Q.setCell ⟨b.heap.size,k,none⟩ (O (some ⟨L,0,none⟩) n n)):=by
    obtain ⟨r0,r1,r2,r3,r4,Z,V⟩:=l;refine ⟨?_,?_,Nf r2 hkn _,O4 r3 d1 E h,r4.setCell (by simp;omega) _,Z,by simpa using V⟩
    ·rw [World.cell?_setCell_other _ _ _ _ (by simp)];exact r0
    ·rw [World.cell?_setCell_other _ _ _ _ (by simp)];exact r1
   clear l N h;go_wp2_with fail;exact ⟨⟨k+1,by omega,by go_num,C⟩,by simp [intOf];omega⟩
  ·have G:k=n:=by omega
   subst G;obtain ⟨-,-,-,R,A,-,-⟩:=p;go_wp2_with fail
   go_ret2
   exact ⟨b.heap.size,rfl,R,A⟩
theorem Pw {w w0 w1:World} {b0 o0 b1 o1 b2 o2 b3 o3:Nat} {v0 v1 v2 v3:Value} (h:w0.cell? ⟨b0,o0,none⟩=some v0/\w0.cell? ⟨b1,o1,none⟩=some v1/\w0.cell? ⟨b2,o2,none⟩=some v2/\w0.cell? ⟨b3,o3,none⟩=some v3/\Ov w w0)
  (hb:Ov w0 w1):w1.cell? ⟨b0,o0,none⟩=some v0/\w1.cell? ⟨b1,o1,none⟩=some v1/\w1.cell? ⟨b2,o2,none⟩=some v2/\w1.cell? ⟨b3,o3,none⟩=some v3/\Ov w w1:=by
 obtain ⟨k,i,g,f,e⟩:=h;obtain ⟨b,l⟩:=An hb;refine ⟨?_,?_,?_,?_,?_⟩
 ·rw [b _ _ (bL k)];exact k
 ·rw [b _ _ (bL i)];exact i
 ·rw [b _ _ (bL g)];exact g
 ·rw [b _ _ (bL f)];exact f
 ·exact e.trans (hb.mono e.size)
theorem Nl {gn:List (Nat × Nat)} {j:Nat} (h:j < gn.length) (l:List Bool):pass (gn.take (j+1)) l=C2 (pass (gn.take j) l) gn[j]:=by
 unfold pass;rw [List.take_succ_eq_append_getElem h,List.foldl_append];rfl
def Ij (w:World) (n:Nat) (v:Value) (l:List Bool) (W:World):Prop:=
 W.cell? ⟨w.heap.size,0,none⟩=some (zd U n)/\W.cell? ⟨w.heap.size,1,none⟩=some v/\Co W (w.heap.size+1) l/\Ov w W
theorem J7 (n who other:Nat) (hn:n<=6) (hw:who < n) (ho:other < n) (v:Value) (gn:List (Nat × Nat)) (w:World) (hv:AA w v (gn.map toI)) (hlen:gn.length<=20) (hb:∀ g∈gn,g.1 < n/\g.2 < n) :
  Calls Tryz.prog 231 #[zh #[zd U n,v],zd U who,zd U other] w fun e w'=>e=zj (zg ((acts gn n who)[other]?.getD false))/\Ov w w':=by
 have ah:=fun w=>Dx n hn w;have I:Ij w n v (C8 n who) ((w.alloc (Obj.cells #[Value.int IntKind.i64 n,v] 24)).alloc (Obj.cells ((Array.replicate n (Value.bool false)).setIfInBounds who (Value.bool true)) 4)):=by
  refine ⟨by simp [go_sem],by simp [go_sem],fun i hi=>?_,?_⟩
  ·have N:i < n:=by simpa [C8] using hi
   refine ⟨?_,by simp [go_sem]⟩;simp [go_sem,C8,List.getElem_set,N];by_cases e:who=i
   ·simp [e]
   ·simp [e,N]
  ·exact (bA w _).alloc (by simp) _
 obtain ⟨R,cap,H,p⟩:=hv;rw [List.length_map] at H;subst H;go_enter Tryz.func231,Tryz.ntmps231;go_wp2_with fail;go_loopw [8] (fun i wr=>∃ k:Nat,k<=n/\i=zd U k/\Ij w n (O R gn.length cap) (BG gn k (C8 n who)) wr) (fun i _=>n - (intOf i).toNat)
 case atStart=>exact ⟨0,Nat.zero_le _,rfl,I⟩
 case round=>
  obtain ⟨k,hk,rfl,L⟩:=hrel;clear I ah;have HS:=Aa L;obtain ⟨s0,s1,q,G⟩:=L;by_cases hkn:k < n
  ·clear q
   go_wp2_with fail;go_loopw [9] (fun i wr=>∃ j:Nat,j<=gn.length/\i=zd U j/\Ij w n (O R gn.length cap) (pass (gn.take j) (BG gn k (C8 n who))) wr) (fun i _=>gn.length - (intOf i).toNat)
   case atStart=>exact ⟨0,Nat.zero_le _,rfl,HS.o⟩
   case round=>
    clear HS s0 s1 G;obtain ⟨j,hj,rfl,A⟩:=hrel;obtain ⟨l,hl⟩:=nm (pass (gn.take j) (BG gn k (C8 n who)));have az:l.length=n:=by rw [hl,Gq,C1,Cm]
    have f:j < gn.length->∀ W,Ij w n (O R gn.length cap) (C2 l (gn[j]?.getD (0,0))) W->Ij w n (O R gn.length cap) (pass (gn.take (j+1)) (BG gn k (C8 n who))) W:=fun h W hW=>by
     rw [Nl h,<-hl];simpa [h] using hW
    have HN:=Aa f;rw [<-hl] at A;have t:=Aa A;obtain ⟨s0,s1,q,G⟩:=A;by_cases hjl:j < gn.length
    ·obtain ⟨b,off,rfl,E⟩:=p (by intro h;rw [List.map_eq_nil_iff] at h;rw [h] at hjl;simp at hjl)
     obtain ⟨Z,q1⟩:=E j (by simpa using hjl);have ai:=bL Z;rw [<-(An G).1 _ _ ai] at Z q1;simp only [List.getElem_map,toI] at Z q1;obtain ⟨am,al⟩:=hb _ (List.getElem_mem hjl);obtain ⟨Q,aq⟩:=q gn[j].1 (by omega);obtain ⟨d1,an⟩:=q gn[j].2 (by omega);have hx:gn[j]?.getD (0,0)=(gn[j].1,gn[j].2):=by simp [hjl]
     obtain ⟨gw,B⟩:=nm (gn[j].1);obtain ⟨gf,C⟩:=nm (gn[j].2);simp only [<-B,<-C] at Z q1 Q aq d1 an am al hx;have y:gw < l.length:=by omega
     have P:gf < l.length:=by omega
     obtain ⟨bw,s⟩:=nm (l[gw]);obtain ⟨bf,F⟩:=nm (l[gf]);rw [<-s] at Q;rw [<-F] at d1;have HX:=Aa hx;have T:=Aa (HN.o hjl);have V:=Aa s
     cases bw with
     | true=>
      have u:Ij w n (O (some ⟨b,off,none⟩) gn.length cap) (l.set gf true) (wr.setCell ⟨w.heap.size+1,gf,none⟩ (zg true)):=by
       refine ⟨?_,?_,IW q P true,G.setCell (by simp) _⟩
       ·rw [World.cell?_setCell_other _ _ _ _ (by simp)];exact s0
       ·rw [World.cell?_setCell_other _ _ _ _ (by simp)];exact s1
      have S:=Aa u;clear u hx s F B C E p f q hl t hb;go_wp2_with fail;refine ⟨⟨j+1,by omega,by go_num,T.o _ ?_⟩,by simp [intOf];omega⟩;rw [HX.o];unfold C2;rw [if_pos (by simp [y,<-V.o])];exact S.o
     | false=>
      clear hx s F B C E p f q hl hb;go_wp2_with fail;refine ⟨⟨j+1,by omega,by go_num,T.o _ ?_⟩,by simp [intOf];omega⟩;rw [HX.o];unfold C2;rw [if_neg (by simp [y,<-V.o])];exact t.o
    ·have ak:j=gn.length:=by omega
     subst ak;rw [List.take_length] at hl;have J:Ij w n (O R gn.length cap) (BG gn (k+1) (C8 n who)) wr:=by rw [BG,<-hl];exact t.o
     have ar:=Aa J;clear J f HN t hl q p hb;go_wp2_with fail;exact ⟨⟨k+1,by omega,by go_num,ar.o⟩,by simp [intOf];omega⟩
  ·have aj:k=n:=by omega
   subst aj;have M:other < (acts gn k who).length:=by rw [BJ];exact ho
   obtain ⟨Q,-⟩:=q other M;have he:(acts gn k who)[other]?.getD false=(acts gn k who)[other]:=by simp [M]
   have HE:=Aa he;have d1:CE wr (w.heap.size+1) other (zg (acts gn k who)[other]):=Q;obtain ⟨r,hr⟩:=nm ((acts gn k who)[other]);rw [<-hr] at d1;have HR:=Aa hr;clear Q hr he q p HS hb;go_wp2_with fail;go_ret;exact ⟨by rw [HE.o,<-HR.o];rfl,G⟩
def AJ (w:World) (v:Value) (l:List Bool):Prop:=
 ∃ ao cap,v=O ao l.length cap/\(l≠[]->∃ b off,ao=some ⟨b,off,none⟩/\∀ i (h:i < l.length),w.cell? ⟨b,off+i,none⟩=some (zg l[i]))
theorem AF {w w':World} {v:Value} {l:List Bool} (h:AJ w v l) (hb:Ov w w'):AJ w' v l:=by
 obtain ⟨p,cap,rfl,k⟩:=h;refine ⟨p,cap,rfl,fun e=>?_⟩;obtain ⟨b,off,rfl,f⟩:=k e;refine ⟨b,off,rfl,fun i hi=>?_⟩;have g:=f i hi;rw [(An hb).1 _ _ (bL g)];exact g
theorem Hq {w:World} {v:Value} {l:List Bool} (h:AJ w v l) {i:Nat} (hi:i < l.length):∃ b off cap,v=O (some ⟨b,off,none⟩) l.length cap/\w.cell? ⟨b,off+i,none⟩=some (zg l[i]):=by
 obtain ⟨g,cap,rfl,f⟩:=h;obtain ⟨b,off,rfl,e⟩:=f (by rintro rfl;simp at hi);exact ⟨b,off,cap,rfl,e i hi⟩
theorem Jf {a b:List Bool} {k:Nat} (hka:k < a.length) (hkb:k < b.length) (hne:a[k]≠b[k]):a≠b:=by
 rintro rfl;exact hne rfl
theorem Ip (va vb:Value) (a b:List Bool) (w:World) (ha:AJ w va a) (hb:AJ w vb b) (hla:a.length<=9223372036854775807) :
  Calls Tryz.prog 43 #[va,vb] w fun e w'=>e=zj (zg (decide (a=b)))/\∃ n,w'=w.drewN n:=by
 have V:=Aa ha;have T:=Aa hb;obtain ⟨ao,ca,rfl,-⟩:=ha;obtain ⟨bo,cb,rfl,-⟩:=hb;by_cases hl:a.length=b.length
 ·have B:((a.length:Int) != b.length)=false:=by simp [hl]
  have J:=Aa hl;clear hl;go_enter Tryz.func43,Tryz.ntmps43;go_wp2_with fail;go_loopw [5] (fun i wr=>∃ k n:Nat,k<=a.length/\i=zd U k/\a.take k=b.take k/\wr=w.drewN n) (fun i _=>a.length - (intOf i).toNat)
  case atStart=>exact ⟨0,0,Nat.zero_le _,rfl,rfl,rfl⟩
  case round=>
   obtain ⟨k,n,hk,rfl,f,rfl⟩:=hrel;by_cases hkl:k < a.length
   ·have p:k < b.length:=by have:=J.o;omega
    obtain ⟨b1,Z,c1,P,M⟩:=Hq V.o hkl;obtain ⟨b2,W,c2,O,L⟩:=Hq T.o p;injection P with I H G;injection O with F E C;subst I G F C;have g:a[k]=b[k]->a.take (k+1)=b.take (k+1):=fun h=>by
     rw [List.take_succ_eq_append_getElem hkl,List.take_succ_eq_append_getElem p,f,h]
    have l:a[k]≠b[k]->decide (a=b)=false:=fun h=>decide_eq_false (Jf hkl p h);obtain ⟨x,A⟩:=nm (a[k]);obtain ⟨y,u⟩:=nm (b[k]);rw [<-A] at M;rw [<-u] at L;rw [<-A,<-u] at g l;have Q:=Aa g;have R:=Aa l;clear g l f A u H E;cases x <;> cases y
    all_goals go_wp2_with fail
    all_goals go_region
    all_goals go_wp2_with fail
    all_goals first
     | exact ⟨⟨k+1,n+1,by omega,by go_num,Q.o (by first | rfl | trivial),by first | rfl | trivial⟩,by simp [intOf];omega⟩
     | (go_ret;exact ⟨by rw [R.o (by decide)];rfl,n+1,rfl⟩)
   ·have q:k=a.length:=by omega
    have t:a=b:=by
     have N:k=b.length:=by have:=J.o;omega
     rw [q,List.take_length] at f;rw [f,<-q,N,List.take_length]
    have s:decide (a=b)=true:=decide_eq_true t;have S:=Aa s;clear s t f;go_wp2_with fail;go_ret;exact ⟨by rw [S.o];rfl,n,rfl⟩
 ·have B:((a.length:Int) != b.length)=true:=by simp;omega
  have s:decide (a=b)=false:=decide_eq_false (fun h=>hl (by rw [h]));rw [s];clear s;go_enter Tryz.func43,Tryz.ntmps43;go_wp2_with fail;go_ret;exact ⟨rfl,0,rfl⟩
structure Lev where
 r:List Bool
 w:List Bool
def A3 (W:World) (v:Value) (l:Lev):Prop:=∃ vr vw,v=zh #[vr,vw]/\AJ W vr l.r/\AJ W vw l.w
theorem AK {W W':World} {v:Value} {l:Lev} (h:A3 W v l) (hb:Ov W W'):A3 W' v l:=by
 obtain ⟨e,b,rfl,g,f⟩:=h;exact ⟨e,b,rfl,AF g hb,AF f hb⟩
def CN (m:Int) (l:Lev):Int:=if (l.r.length:Int)=m/\(l.w.length:Int)=m then 0 else 1
def Sq (l m:Lev) (i:Nat):Bool:=!((m.r[i]?.getD false && !(l.r[i]?.getD false)) || (l.w[i]?.getD false && !(m.w[i]?.getD false)))
def Av (l m:Lev) (n:Nat):Bool:=(List.range n).all (Sq l m)
theorem BL {l m:Lev} {n:Nat}:Av l m n=true ↔ ∀ i,i < n->(m.r[i]?.getD false=true->l.r[i]?.getD false=true)/\(l.w[i]?.getD false=true->m.w[i]?.getD false=true):=by
 unfold Av;rw [List.all_eq_true];constructor
 ·intro h i hi
  have:=h i (List.mem_range.2 hi);unfold Sq at this;revert this;cases m.r[i]?.getD false <;> cases l.r[i]?.getD false <;> cases l.w[i]?.getD false <;> cases m.w[i]?.getD false <;> simp
 ·intro h i hi
  have:=h i (List.mem_range.1 hi);unfold Sq;revert this;cases m.r[i]?.getD false <;> cases l.r[i]?.getD false <;> cases l.w[i]?.getD false <;> cases m.w[i]?.getD false <;> simp
theorem CI {w:World} {v:Value} {l:List Bool} {n:Nat} (h:AJ w v l) (hl:l.length=n) (h1:1<=n) :
  ∃ b off cap,v=O (some ⟨b,off,none⟩) n cap/\∀ i,i < n->w.cell? ⟨b,off+i,none⟩=some (zg (l[i]?.getD false)):=by
 obtain ⟨k,cap,rfl,g⟩:=h;obtain ⟨b,off,rfl,f⟩:=g (by rintro rfl;simp at hl;omega);refine ⟨b,off,cap,by rw [hl],fun i hi=>?_⟩;have e:i < l.length:=by omega
 rw [f i e];simp [e]
def Lev.len (l:Lev) (n:Nat):Prop:=l.r.length=n/\l.w.length=n
end Go.Proofs.YtfffpjkcfnekaaaGreat
