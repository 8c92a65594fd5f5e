/- Regions that draw, in few words. -/
import Derived.Deep.RegionHeld3
import Derived.RowKit
import Derived.OpenShut
import Derived.Deep.Draws
import Derived.Lib.Builder
import Derived.Test.YtfffpjkcfnekaaaGreatRows
import Derived.ProofKit
import Derived.Deep.Strs
import Derived.Lib.SmallJoins
import Derived.WalkKit
import Derived.WalkSpells
import Derived.WalkLawsBesides
import Derived.WalkSmall
import Derived.Deep.AppendLies
import Derived.OwnWalk
import Derived.Deep.SlicePairs
import Derived.Laws.MakeOwn
import Derived.Deep.CutRange
import Derived.Maps.AppendAt
set_option linter.unusedVariables false
set_option maxHeartbeats 8000000
set_option maxRecDepth 100000
namespace Go.Proofs.YtfffpjkcfnekaaaGreat
open Go.RowKit
open Go.Value renaming slice -> O, int -> U, bool -> zg, agg -> zh, pointer -> zj, tuple -> zm
open Go.IntKind renaming i64 -> zd
open Go.Obj renaming cells -> ze
open Go.Ending renaming returned -> zk
abbrev Ov (w w':World):Prop:=Below w.heap.size w w'
abbrev CE (w:World) (b i:Nat) (v:Value):Prop:=w.cell? ⟨b,i,none⟩=some v
theorem nm {α:Type} (x:α):∃ q,q=x:=⟨x,rfl⟩
theorem aqt:(∀ (l:List Oper) (i:Nat) (h:i < l.toArray.size),l.toArray[i]'h=l[i]'(by simpa using h))/\(∀ (a:Oper) (l:List Oper) (i:Nat) (h:i+1 < (a::l).length),(a::l)[i+1]'h=l[i]'(by simpa using h))/\(∀ (a:Oper) (l:List Oper) (h:0 < (a::l).length),(a::l)[0]'h=a)/\(∀ (a:Act) (d:Tmp) (v:Value),a.put (some d) v={ a with tmps:=a.tmps.setIfInBounds d v })/\(∀ (a:Act) (v:Value),a.put none v=a)/\(∀ (l:List Value) (i:Nat) (x:Value),l.toArray.setIfInBounds i x=(l.set i x).toArray)/\(∀ (l:List Value) (a x:Value),(a::l).set 0 x=x::l)/\(∀ (l:List Value) (a x:Value) (i:Nat),(a::l).set (i+1) x=a::l.set i x):=
 ⟨fun _ _ _=>by simp,fun _ _ _ _=>rfl,fun _ _ _=>rfl,fun _ _ _=>rfl,fun _ _=>rfl,fun _ _ _=>by simp,fun _ _ _=>rfl,fun _ _ _ _=>rfl⟩
theorem kT {P:Program} {ops:Array Oper} {Q:Exit->Act->World->Prop} {md:Region.Mode} {S:World->Prop} {oi:Oper} {v:Value} {fuel:Nat} {listed:Array Bool} {a:Act} {w:World} {Z:Prop} (i:Nat) (h:Z)
  (hi:ops[i]? = some oi:=by rfl) (hy:YieldsIf P ops S oi v a:=by (refine Or.inl ⟨by rfl,?_⟩;intro w' hSw;(try dsimp only at hSw);go_simp;try with_reducible rfl)) (hS:S w:=by assumption)
  (hs:Region.noSelect ops=true:=by kernel_rfl) (hf:Region.free md ops listed i=true:=by kernel_rfl) (hr:(Region.ready md ops listed).contains i=true:=by kernel_rfl)
  (hQ:∀ c a w,Q (.panic c) (a.put oi.dst v) w->Q (.panic c) a w:=by exact fun _ _ _ h=>h)
  (hz:Z->wpAnyH P md ops Q S fuel (listed.setIfInBounds i true) (a.put oi.dst v) w:=by (intro hz;(try simp only [aqt]);exact hz)):wpAnyH P md ops Q S (fuel+1) listed a w:=
 wpAnyH_take hi hs hf hr hQ hy hS (hz h)
theorem kU {P:Program} {ops:Array Oper} {Q:Exit->Act->World->Prop} {md:Region.Mode} {S:World->Prop} {oi:Oper} {fuel:Nat} {listed:Array Bool} {a:Act} {w:World} {Z:Prop} (i:Nat) (h:Z)
  (hi:ops[i]? = some oi:=by rfl) (hy:YieldsIf P ops S oi undef a:=by exact Or.inr ⟨by kernel_rfl,rfl⟩) (hS:S w:=by assumption)
  (hs:Region.noSelect ops=true:=by kernel_rfl) (hf:Region.free md ops listed i=true:=by kernel_rfl) (hr:(Region.ready md ops listed).contains i=true:=by kernel_rfl)
  (hQ:∀ c a w,Q (.panic c) (a.put oi.dst undef) w->Q (.panic c) a w:=by exact fun _ _ _ h=>h)
  (hz:Z->wpAnyH P md ops Q S fuel (listed.setIfInBounds i true) (a.put oi.dst undef) w:=by (intro hz;(try simp only [aqt]);exact hz)):wpAnyH P md ops Q S (fuel+1) listed a w:=
 wpAnyH_take hi hs hf hr hQ hy hS (hz h)
abbrev GB (P:Program) (md:Region.Mode) (ops:Array Oper) (Q:Exit->Act->World->Prop) (S:World->Prop) (fuel:Nat) (listed:Array Bool) (a:Act) (w:World) (i:Nat) (o:Oper):Prop:=
 ∀ K':Act->World->Prop,Shut (∀ a w,S w->(S w->wpAnyH P md ops Q S fuel (listed.setIfInBounds i true) a w)->K' a w)->if Region.wanted o (yielded ops a.tmps)=true then Oper.wp P o a w K' Q else K' (a.put o.dst undef) w
theorem rdA {P:Program} {ops:Array Oper} {Q:Exit->Act->World->Prop} {md:Region.Mode} {S:World->Prop} {fuel:Nat} {listed:Array Bool} {a:Act} {w:World} (i:Nat) {o:Oper} (ho:ops[i]? = some o) (h:GB P md ops Q S fuel listed a w i o)
  (hr:Region.ready md ops listed=[i]:=by kernel_rfl):wpAnyH P md ops Q S (fuel+1) listed a w:=
 wpAnyH_ready hr (by simp) (AllReadyH.cons ho h AllReadyH.nil)
theorem rdB {P:Program} {ops:Array Oper} {Q:Exit->Act->World->Prop} {md:Region.Mode} {S:World->Prop} {fuel:Nat} {listed:Array Bool} {a:Act} {w:World} (i j:Nat) {o p:Oper} (ho:ops[i]? = some o) (h:GB P md ops Q S fuel listed a w i o) (hp:ops[j]? = some p) (h2:GB P md ops Q S fuel listed a w j p)
  (hr:Region.ready md ops listed=[i,j]:=by kernel_rfl):wpAnyH P md ops Q S (fuel+1) listed a w:=
 wpAnyH_ready hr (by simp) (AllReadyH.cons ho h (AllReadyH.cons hp h2 AllReadyH.nil))
theorem rdC {P:Program} {ops:Array Oper} {Q:Exit->Act->World->Prop} {md:Region.Mode} {S:World->Prop} {fuel:Nat} {listed:Array Bool} {a:Act} {w:World} (i j k:Nat) {o p q:Oper} (ho:ops[i]? = some o) (h:GB P md ops Q S fuel listed a w i o) (hp:ops[j]? = some p) (h2:GB P md ops Q S fuel listed a w j p) (hq:ops[k]? = some q) (h3:GB P md ops Q S fuel listed a w k q)
  (hr:Region.ready md ops listed=[i,j,k]:=by kernel_rfl):wpAnyH P md ops Q S (fuel+1) listed a w:=
 wpAnyH_ready hr (by simp) (AllReadyH.cons ho h (AllReadyH.cons hp h2 (AllReadyH.cons hq h3 AllReadyH.nil)))
theorem xK {S:World->Prop} {V:Act->World->Prop} {K':Act->World->Prop} {a:Act} {w:World} {Z:Prop} (hK:Shut (∀ a w,S w->(S w->V a w)->K' a w)) (hS:S w) (h:S w->Z) (hz:Z->V a w:=by (intro hz;(try simp only [aqt]);exact hz)):K' a w:=
 hK.out a w hS (fun hs=>hz (h hs))
theorem gS {P:Program} {ops:Array Oper} {Q:Exit->Act->World->Prop} (S:World->Prop) {id:Nat} {a:Act} {w:World} (hS:S w.drew)
  (h:S w.drew->wpAnyH P .any ops Q S ops.size (Array.replicate ops.size false) a w.drew) (hm:P.follows .mixedOrders=true:=by kernel_rfl):(Code.region id ops true).wp P Q a w:=
 wp_region_held_drew hm hS h
theorem gE {P:Program} {ops:Array Oper} {Q:Exit->Act->World->Prop} {md:Region.Mode} {S:World->Prop} {fuel:Nat} {listed:Array Bool} {a:Act} {w:World} (h:Q .normal a w) (hr:Region.ready md ops listed=[]:=by kernel_rfl):wpAnyH P md ops Q S fuel listed a w:=
 wpAnyH_done hr h fuel
theorem CK (w:World) (l:List Value) (T:Nat):∀ (j:Nat) (u:Value),l[j]? = some u->(w.alloc (.cells l.toArray T)).cell? ⟨w.heap.size,j,none⟩=some u:=fun j u hu=>by
 rw [Lib.cell_of_heap (show (w.heap.push (.cells l.toArray T))[w.heap.size]? = some (.cells l.toArray T) by simp)]
 simpa using hu
theorem MP {w:World} {a:Addr} {u:Value} (h:w.cell? a=some u) (o:Obj):(w.alloc o).cell? a=some u:=by
 rw [World.cell?_alloc_some _ _ _ (by rw [h];rfl)];exact h
theorem alS (w:World) (o:Obj):(w.alloc o).heap.size=w.heap.size+1:=by simp
theorem E4 (w:World) (l:List Value) (T:Nat) (o1:Obj):∀ (j:Nat) (u:Value),l[j]? = some u->((w.alloc (.cells l.toArray T)).alloc o1).cell? ⟨w.heap.size,j,none⟩=some u:=fun j u hu=>by
 have h:=CK w l T j u hu
 exact (MP h _)
theorem Fk (w:World) (o0:Obj) (l:List Value) (T:Nat):∀ (j:Nat) (u:Value),l[j]? = some u->((w.alloc o0).alloc (.cells l.toArray T)).cell? ⟨w.heap.size+1,j,none⟩=some u:=fun j u hu=>by
 have h:=CK (w.alloc o0) l T j u hu
 rw [alS] at h
 exact h
theorem MR (w:World) (l:List Value) (T:Nat) (o1:Obj) (o2:Obj):∀ (j:Nat) (u:Value),l[j]? = some u->(((w.alloc (.cells l.toArray T)).alloc o1).alloc o2).cell? ⟨w.heap.size,j,none⟩=some u:=fun j u hu=>by
 have h:=CK w l T j u hu
 exact (MP (MP h _) _)
theorem MQ (w:World) (o0:Obj) (l:List Value) (T:Nat) (o2:Obj):∀ (j:Nat) (u:Value),l[j]? = some u->(((w.alloc o0).alloc (.cells l.toArray T)).alloc o2).cell? ⟨w.heap.size+1,j,none⟩=some u:=fun j u hu=>by
 have h:=CK (w.alloc o0) l T j u hu
 rw [alS] at h
 exact (MP h _)
theorem Ox (w:World) (o0:Obj) (o1:Obj) (l:List Value) (T:Nat):∀ (j:Nat) (u:Value),l[j]? = some u->(((w.alloc o0).alloc o1).alloc (.cells l.toArray T)).cell? ⟨w.heap.size+1+1,j,none⟩=some u:=fun j u hu=>by
 have h:=CK ((w.alloc o0).alloc o1) l T j u hu
 rw [alS,alS] at h
 exact h
theorem Pn (w:World) (o0:Obj) (o1:Obj) (o2:Obj) (o3:Obj) (l:List Value) (T:Nat):∀ (j:Nat) (u:Value),l[j]? = some u->(((((w.alloc o0).alloc o1).alloc o2).alloc o3).alloc (.cells l.toArray T)).cell? ⟨w.heap.size+1+1+1+1,j,none⟩=some u:=fun j u hu=>by
 have h:=CK ((((w.alloc o0).alloc o1).alloc o2).alloc o3) l T j u hu
 rw [alS,alS,alS,alS] at h
 exact h
theorem rc2 {P:Nat->Value->Prop} {a0 a1:Value} {l:List Value} (h:∀ (j:Nat) (u:Value),(a0::a1::l)[j]? = some u->P j u):P 0 a0/\P 1 a1:=⟨h 0 _ rfl,h 1 _ rfl⟩
theorem rc3 {P:Nat->Value->Prop} {a0 a1 a2:Value} {l:List Value} (h:∀ (j:Nat) (u:Value),(a0::a1::a2::l)[j]? = some u->P j u):P 0 a0/\P 1 a1/\P 2 a2:=⟨h 0 _ rfl,h 1 _ rfl,h 2 _ rfl⟩
theorem rc5 {P:Nat->Value->Prop} {a0 a1 a2 a3 a4:Value} {l:List Value} (h:∀ (j:Nat) (u:Value),(a0::a1::a2::a3::a4::l)[j]? = some u->P j u):P 0 a0/\P 1 a1/\P 2 a2/\P 3 a3/\P 4 a4:=⟨h 0 _ rfl,h 1 _ rfl,h 2 _ rfl,h 3 _ rfl,h 4 _ rfl⟩
theorem rc6 {P:Nat->Value->Prop} {a0 a1 a2 a3 a4 a5:Value} {l:List Value} (h:∀ (j:Nat) (u:Value),(a0::a1::a2::a3::a4::a5::l)[j]? = some u->P j u):P 0 a0/\P 1 a1/\P 2 a2/\P 3 a3/\P 4 a4/\P 5 a5:=⟨h 0 _ rfl,h 1 _ rfl,h 2 _ rfl,h 3 _ rfl,h 4 _ rfl,h 5 _ rfl⟩
theorem rc8 {P:Nat->Value->Prop} {a0 a1 a2 a3 a4 a5 a6 a7:Value} {l:List Value} (h:∀ (j:Nat) (u:Value),(a0::a1::a2::a3::a4::a5::a6::a7::l)[j]? = some u->P j u):P 0 a0/\P 1 a1/\P 2 a2/\P 3 a3/\P 4 a4/\P 5 a5/\P 6 a6/\P 7 a7:=⟨h 0 _ rfl,h 1 _ rfl,h 2 _ rfl,h 3 _ rfl,h 4 _ rfl,h 5 _ rfl,h 6 _ rfl,h 7 _ rfl⟩
theorem rc9 {P:Nat->Value->Prop} {a0 a1 a2 a3 a4 a5 a6 a7 a8:Value} {l:List Value} (h:∀ (j:Nat) (u:Value),(a0::a1::a2::a3::a4::a5::a6::a7::a8::l)[j]? = some u->P j u):P 0 a0/\P 1 a1/\P 2 a2/\P 3 a3/\P 4 a4/\P 5 a5/\P 6 a6/\P 7 a7/\P 8 a8:=⟨h 0 _ rfl,h 1 _ rfl,h 2 _ rfl,h 3 _ rfl,h 4 _ rfl,h 5 _ rfl,h 6 _ rfl,h 7 _ rfl,h 8 _ rfl⟩
theorem B9 {P:Nat->Value->Prop} {a0 a1 a2 a3 a4 a5 a6 a7 a8 a9:Value} {l:List Value} (h:∀ (j:Nat) (u:Value),(a0::a1::a2::a3::a4::a5::a6::a7::a8::a9::l)[j]? = some u->P j u):P 0 a0/\P 1 a1/\P 2 a2/\P 3 a3/\P 4 a4/\P 5 a5/\P 6 a6/\P 7 a7/\P 8 a8/\P 9 a9:=⟨h 0 _ rfl,h 1 _ rfl,h 2 _ rfl,h 3 _ rfl,h 4 _ rfl,h 5 _ rfl,h 6 _ rfl,h 7 _ rfl,h 8 _ rfl,h 9 _ rfl⟩
theorem ovS {V W:World} (h:Below V.heap.size V W):∀ a:Addr,(V.cell? a).isSome=true->W.cell? a=V.cell? a:=fun a ha=>by
 obtain ⟨u,hu⟩:=Option.isSome_iff_exists.1 ha
 exact h.cell (World.block_lt_of_cell? V _ hu)
theorem kO {P:Program} {ops:Array Oper} {Q:Exit->Act->World->Prop} {md:Region.Mode} {S:World->Prop} {oi:Oper} {v:Value} {fuel:Nat} {listed:Array Bool} {a:Act} {w:World} {Z:Prop} (i:Nat) (h:Z)
  (hi:ops[i]? = some oi:=by rfl) (hy:YieldsIf P ops S oi v a:=by (refine Or.inl ⟨by rfl,?_⟩;intro w' hSw;have hSw:=ovS hSw;go_simp;try with_reducible rfl)) (hS:S w:=by assumption)
  (hs:Region.noSelect ops=true:=by kernel_rfl) (hf:Region.free md ops listed i=true:=by kernel_rfl) (hr:(Region.ready md ops listed).contains i=true:=by kernel_rfl)
  (hQ:∀ c a w,Q (.panic c) (a.put oi.dst v) w->Q (.panic c) a w:=by exact fun _ _ _ h=>h)
  (hz:Z->wpAnyH P md ops Q S fuel (listed.setIfInBounds i true) (a.put oi.dst v) w:=by (intro hz;(try simp only [aqt]);exact hz)):wpAnyH P md ops Q S (fuel+1) listed a w:=
 wpAnyH_take hi hs hf hr hQ hy hS (hz h)
def Hx (p:Prop):Prop:=p
theorem Hx.o {p:Prop} (h:Hx p):p:=h
theorem nO {q a1 a2 a3 a4 a5 a6 Z:Prop} (N1:Hx (a1->q)) (N2:Hx (a2->q)) (N3:Hx (a3->q)) (N4:Hx (a4->q)) (N5:Hx (a5->q)) (N6:Hx (a6->q)) (hz:Z)
  (h:Z->a1\/a2\/a3\/a4\/a5\/a6:=by (intro hz;first | exact Or.inl (by (try simp at hz);(try simp);omega) | exact Or.inr (Or.inl (by (try simp at hz);(try simp);omega)) | exact Or.inr (Or.inr (Or.inl (by (try simp at hz);(try simp);omega))) | exact Or.inr (Or.inr (Or.inr (Or.inl (by (try simp at hz);(try simp);omega)))) | exact Or.inr (Or.inr (Or.inr (Or.inr (Or.inl (by (try simp at hz);(try simp);omega))))) | exact Or.inr (Or.inr (Or.inr (Or.inr (Or.inr (by (try simp at hz);(try simp);omega))))))):Hx q:=
 (h hz).elim N1.o fun h=>h.elim N2.o fun h=>h.elim N3.o fun h=>h.elim N4.o fun h=>h.elim N5.o N6.o
theorem ce1 {w w':World} (hb:Below w.heap.size w w') {a:Addr} {u:Value} (h:w.cell? a=some u):w'.cell? a=some u:=by
 rw [hb.cell (World.block_lt_of_cell? w _ h)];exact h
theorem co2 {w w':World} (hb:Below w.heap.size w w') {a0 a1:Addr} {u0 u1:Value} (h0:w.cell? a0=some u0) (h1:w.cell? a1=some u1):w'.cell? a0=some u0/\w'.cell? a1=some u1:=⟨ce1 hb h0,ce1 hb h1⟩
theorem co3 {w w':World} (hb:Below w.heap.size w w') {a0 a1 a2:Addr} {u0 u1 u2:Value} (h0:w.cell? a0=some u0) (h1:w.cell? a1=some u1) (h2:w.cell? a2=some u2):w'.cell? a0=some u0/\w'.cell? a1=some u1/\w'.cell? a2=some u2:=⟨ce1 hb h0,ce1 hb h1,ce1 hb h2⟩
theorem co4 {w w':World} (hb:Below w.heap.size w w') {a0 a1 a2 a3:Addr} {u0 u1 u2 u3:Value} (h0:w.cell? a0=some u0) (h1:w.cell? a1=some u1) (h2:w.cell? a2=some u2) (h3:w.cell? a3=some u3):w'.cell? a0=some u0/\w'.cell? a1=some u1/\w'.cell? a2=some u2/\w'.cell? a3=some u3:=⟨ce1 hb h0,ce1 hb h1,ce1 hb h2,ce1 hb h3⟩
theorem co5 {w w':World} (hb:Below w.heap.size w w') {a0 a1 a2 a3 a4:Addr} {u0 u1 u2 u3 u4:Value} (h0:w.cell? a0=some u0) (h1:w.cell? a1=some u1) (h2:w.cell? a2=some u2) (h3:w.cell? a3=some u3) (h4:w.cell? a4=some u4):w'.cell? a0=some u0/\w'.cell? a1=some u1/\w'.cell? a2=some u2/\w'.cell? a3=some u3/\w'.cell? a4=some u4:=⟨ce1 hb h0,ce1 hb h1,ce1 hb h2,ce1 hb h3,ce1 hb h4⟩
theorem co7 {w w':World} (hb:Below w.heap.size w w') {a0 a1 a2 a3 a4 a5 a6:Addr} {u0 u1 u2 u3 u4 u5 u6:Value} (h0:w.cell? a0=some u0) (h1:w.cell? a1=some u1) (h2:w.cell? a2=some u2) (h3:w.cell? a3=some u3) (h4:w.cell? a4=some u4) (h5:w.cell? a5=some u5) (h6:w.cell? a6=some u6):w'.cell? a0=some u0/\w'.cell? a1=some u1/\w'.cell? a2=some u2/\w'.cell? a3=some u3/\w'.cell? a4=some u4/\w'.cell? a5=some u5/\w'.cell? a6=some u6:=⟨ce1 hb h0,ce1 hb h1,ce1 hb h2,ce1 hb h3,ce1 hb h4,ce1 hb h5,ce1 hb h6⟩
theorem co8 {w w':World} (hb:Below w.heap.size w w') {a0 a1 a2 a3 a4 a5 a6 a7:Addr} {u0 u1 u2 u3 u4 u5 u6 u7:Value} (h0:w.cell? a0=some u0) (h1:w.cell? a1=some u1) (h2:w.cell? a2=some u2) (h3:w.cell? a3=some u3) (h4:w.cell? a4=some u4) (h5:w.cell? a5=some u5) (h6:w.cell? a6=some u6) (h7:w.cell? a7=some u7):w'.cell? a0=some u0/\w'.cell? a1=some u1/\w'.cell? a2=some u2/\w'.cell? a3=some u3/\w'.cell? a4=some u4/\w'.cell? a5=some u5/\w'.cell? a6=some u6/\w'.cell? a7=some u7:=⟨ce1 hb h0,ce1 hb h1,ce1 hb h2,ce1 hb h3,ce1 hb h4,ce1 hb h5,ce1 hb h6,ce1 hb h7⟩
theorem co9 {w w':World} (hb:Below w.heap.size w w') {a0 a1 a2 a3 a4 a5 a6 a7 a8:Addr} {u0 u1 u2 u3 u4 u5 u6 u7 u8:Value} (h0:w.cell? a0=some u0) (h1:w.cell? a1=some u1) (h2:w.cell? a2=some u2) (h3:w.cell? a3=some u3) (h4:w.cell? a4=some u4) (h5:w.cell? a5=some u5) (h6:w.cell? a6=some u6) (h7:w.cell? a7=some u7) (h8:w.cell? a8=some u8):w'.cell? a0=some u0/\w'.cell? a1=some u1/\w'.cell? a2=some u2/\w'.cell? a3=some u3/\w'.cell? a4=some u4/\w'.cell? a5=some u5/\w'.cell? a6=some u6/\w'.cell? a7=some u7/\w'.cell? a8=some u8:=⟨ce1 hb h0,ce1 hb h1,ce1 hb h2,ce1 hb h3,ce1 hb h4,ce1 hb h5,ce1 hb h6,ce1 hb h7,ce1 hb h8⟩
theorem Cy {w w':World} (hb:Below w.heap.size w w') {a0 a1 a2 a3 a4 a5 a6 a7 a8 a9:Addr} {u0 u1 u2 u3 u4 u5 u6 u7 u8 u9:Value} (h0:w.cell? a0=some u0) (h1:w.cell? a1=some u1) (h2:w.cell? a2=some u2) (h3:w.cell? a3=some u3) (h4:w.cell? a4=some u4) (h5:w.cell? a5=some u5) (h6:w.cell? a6=some u6) (h7:w.cell? a7=some u7) (h8:w.cell? a8=some u8) (h9:w.cell? a9=some u9):w'.cell? a0=some u0/\w'.cell? a1=some u1/\w'.cell? a2=some u2/\w'.cell? a3=some u3/\w'.cell? a4=some u4/\w'.cell? a5=some u5/\w'.cell? a6=some u6/\w'.cell? a7=some u7/\w'.cell? a8=some u8/\w'.cell? a9=some u9:=⟨ce1 hb h0,ce1 hb h1,ce1 hb h2,ce1 hb h3,ce1 hb h4,ce1 hb h5,ce1 hb h6,ce1 hb h7,ce1 hb h8,ce1 hb h9⟩
theorem cn3 {w:World} {n:Nat} {a0 a1 a2:Addr} {u0 u1 u2:Value} (h0:w.cell? a0=some u0) (h1:w.cell? a1=some u1) (h2:w.cell? a2=some u2):(w.drewN n).cell? a0=some u0/\(w.drewN n).cell? a1=some u1/\(w.drewN n).cell? a2=some u2:=⟨h0,h1,h2⟩
theorem CJ {w:World} {n:Nat} {a0 a1 a2 a3 a4 a5 a6 a7 a8 a9:Addr} {u0 u1 u2 u3 u4 u5 u6 u7 u8 u9:Value} (h0:w.cell? a0=some u0) (h1:w.cell? a1=some u1) (h2:w.cell? a2=some u2) (h3:w.cell? a3=some u3) (h4:w.cell? a4=some u4) (h5:w.cell? a5=some u5) (h6:w.cell? a6=some u6) (h7:w.cell? a7=some u7) (h8:w.cell? a8=some u8) (h9:w.cell? a9=some u9):(w.drewN n).cell? a0=some u0/\(w.drewN n).cell? a1=some u1/\(w.drewN n).cell? a2=some u2/\(w.drewN n).cell? a3=some u3/\(w.drewN n).cell? a4=some u4/\(w.drewN n).cell? a5=some u5/\(w.drewN n).cell? a6=some u6/\(w.drewN n).cell? a7=some u7/\(w.drewN n).cell? a8=some u8/\(w.drewN n).cell? a9=some u9:=⟨h0,h1,h2,h3,h4,h5,h6,h7,h8,h9⟩
theorem bA (w:World) (o:Obj):Below w.heap.size w (w.alloc o):=(Below.refl _ w).alloc (Nat.le_refl _) o
theorem bD (w:World):Below w.heap.size w w.drew:=(Below.refl _ w).drew
theorem bL {w:World} {a:Addr} {u:Value} (h:w.cell? a=some u):a.block < w.heap.size:=World.block_lt_of_cell? w _ h
theorem orT {A B C E:Prop} (h:(A/\E)\/(B/\C)) (hb:¬ B:=by (intro h;cases h)):E:=h.elim (fun h=>h.2) (fun h=>absurd h.1 hb)
end Go.Proofs.YtfffpjkcfnekaaaGreat
namespace Go.Proofs.YtfffpjkcfnekaaaGreat.Ex
open Go.RowKit Go.ChangeShapes Go.WideShapes
open Go.Value renaming slice -> O, int -> U, bool -> zg, agg -> zh, pointer -> zj, tuple -> zm
open Go.IntKind renaming i64 -> zd
open Go.Obj renaming cells -> ze
open Go.Ending renaming returned -> zk
theorem Tryz.cellsX:Tryz.prog.cellsOf 94=3:=by kernel_rfl
theorem Tryz.cellsXs:Tryz.prog.cellsOf 92=1:=by kernel_rfl
theorem Tryz.cellsI:Tryz.prog.cellsOf 3=1:=by kernel_rfl
abbrev D:=DataW Empty
def xD (k n:Int) (args:List D):D:=.agg [.lit (.int zd k),.lit (.int zd n),.slice args []]
def XS (size:Nat) (R:List Value->D->Prop) (w:World) (v:Value) (ds:List D):Prop:=
 ds.length<=maxLen/\∃ ao cap,v=O ao ds.length cap/\(ds≠[]->∃ b off,ao=some ⟨b,off,none⟩ /\
  ∀ (i:Nat) (d:D),ds[i]? = some d->∃ cs:List Value,cs.length=size/\(∀ (j:Nat) (u:Value),cs[j]? = some u->w.cell? ⟨b,off+i*size+j,none⟩=some u)/\R cs d)
def Ch (n:Int):Prop:=-9223372036854775808<=n/\n<=9223372036854775807
theorem Nr {n:Int} (h:(Lit.int zd n).wf=true):Ch n:=by
 have h2:(decide (IntKind.i64.min<=n) && decide (n<=IntKind.i64.max))=true:=h
 rw [Bool.and_eq_true,decide_eq_true_iff,decide_eq_true_iff] at h2
 exact h2
def RX (w:World):Nat->List Value->D->Prop
 | 0,_,_=>False
 | k+1,cs,d=>∃ (kd n:Int) (v:Value) (ds:List D),cs=[U zd kd,U zd n,v]/\d=xD kd n ds/\Ch kd/\Ch n/\XS 3 (RX w k) w v ds
theorem XS.mono {size:Nat} {R R':List Value->D->Prop} {w w':World} {v:Value} {ds:List D} (h:XS size R w v ds)
  (hw:∀ a u,w.cell? a=some u->w'.cell? a=some u) (hR:∀ cs d,d∈ds->R cs d->R' cs d):XS size R' w' v ds:=by
 obtain ⟨hm,ao,cap,hv,hc⟩:=h
 refine ⟨hm,ao,cap,hv,fun hne=>?_⟩
 obtain ⟨b,off,hao,hel⟩:=hc hne
 refine ⟨b,off,hao,fun i d hd=>?_⟩
 obtain ⟨cs,hl,hcs,hr⟩:=hel i d hd
 exact ⟨cs,hl,fun j u hu=>hw _ _ (hcs j u hu),hR cs d (List.mem_of_getElem? hd) hr⟩
theorem RX.mono {w w':World} (hw:∀ a u,w.cell? a=some u->w'.cell? a=some u) :
  ∀ (k m:Nat) (cs:List Value) (d:D),k<=m->RX w k cs d->RX w' m cs d:=by
 intro k
 induction k with
 | zero=>intro m cs d _ h;exact h.elim
 | succ k ih=>
  intro m cs d hkm h
  obtain ⟨m',rfl⟩:∃ m',m=m' + 1:=⟨m - 1,by omega⟩
  obtain ⟨kd,n,v,ds,hcs,hd,h1,h2,hr⟩:=h
  exact ⟨kd,n,v,ds,hcs,hd,h1,h2,hr.mono hw (fun cs d _ hh=>ih m' cs d (by omega) hh)⟩
theorem EP {H:Type} {enc:TypeId × Value->H} {W:World}:∀ (fuel:Nat) (cs:List Value) (x:DataW H × List MemPlace),DataW.trod enc Tryz.prog W 0 (fun _=>true) true fuel 94 cs=some x->∃ d,RX W fuel cs d:=by
 intro fuel
 induction fuel using Nat.strongRecOn with
 | ind fuel ih=>
  intro cs x h
  obtain ⟨xs,n,rfl,hx,hl,hxl,hf⟩:=DataW.trod_struct Tryz.underlying94 h
  rw [Tryz.cellsX] at hl
  match cs,hl,xs,hxl with
  | [c0,c1,c2],_,[y0,y1,y2],_=>
   have h0:=hf 0 _ rfl
   have h1:=hf 1 _ rfl
   have h2:=hf 2 _ rfl
   simp [Tryz.cellsI,Tryz.cellsXs] at h0 h1 h2
   obtain ⟨a,e0,r0⟩:=DataW.trod_int Tryz.underlying3 h0
   obtain ⟨b,e1,r1⟩:=DataW.trod_int Tryz.underlying3 h1
   simp at e0 e1
   subst e0
   subst e1
   have wa:Ch a:=Nr r0.2
   have wb:Ch b:=Nr r1.2
   rcases DataW.trod_slice Tryz.underlying92 h2 with ⟨hcs,-⟩ | ⟨ad,len,cap,elems,rest,m,rfl,hcs,-,-,hlc,hcm,hel,hat,-,-⟩
   ·simp at hcs
    subst hcs
    exact ⟨xD a b [],a,b,_,[],rfl,rfl,wa,wb,by simp,none,0,rfl,fun h=>absurd rfl h⟩
   ·simp at hcs
    subst hcs
    rw [Tryz.cellsX] at hat
    have hget:∀ i,i < len->∃ d:D,∃ cs:List Value,cs.length=3/\(∀ (j:Nat) (u:Value),cs[j]? = some u->W.cell? (ad.add (i*3+j))=some u)/\RX W (m+1) cs d:=fun i hi=>by
     have hi2:=hat i hi
     rw [List.getElem?_eq_getElem (by omega),Option.bind_eq_some_iff] at hi2
     obtain ⟨cs,hc,ht⟩:=hi2
     obtain ⟨-,hlen,hcell⟩:=World.cells?_some hc
     obtain ⟨d,hd⟩:=ih m (by omega) cs _ ht
     refine ⟨d,cs,hlen,fun j u hu=>?_,RX.mono (fun _ _ h=>h) m (m+1) cs d (by omega) hd⟩
     have hj:j < 3:=by have:=(List.getElem?_eq_some_iff.1 hu).1;omega
     have hk:=hcell j hj
     rw [hu] at hk
     rw [Addr.add_add] at hk
     exact hk
    obtain ⟨f,hf⟩:=Deep.choose_lt hget
    refine ⟨xD a b ((List.range len).map f),a,b,_,(List.range len).map f,rfl,rfl,wa,wb,by simp;omega,some ad,cap,by simp,fun hne=>?_⟩
    have h0:0 < len:=by
     rcases Nat.eq_zero_or_pos len with h | h
     ·subst h;simp at hne
     ·exact h
    have hp:∃ b off,ad=⟨b,off,none⟩:=by
     obtain ⟨cs,hl,hc,-⟩:=hf 0 h0
     obtain ⟨u,hu⟩:∃ u,cs[0]? = some u:=⟨cs[0]'(by omega),List.getElem?_eq_getElem (by omega)⟩
     have hk:=hc 0 u hu
     have hsp:ad.spot=none:=by simpa [Addr.add] using World.cell?_spot hk
     obtain ⟨b,off,sp⟩:=ad
     simp only at hsp
     subst hsp
     exact ⟨b,off,rfl⟩
    obtain ⟨bb,off,rfl⟩:=hp
    refine ⟨bb,off,rfl,fun i d hd=>?_⟩
    have hi:i < len:=by
     have:=(List.getElem?_eq_some_iff.1 hd).1
     simpa using this
    have hd':d=f i:=by
     rw [List.getElem?_map,List.getElem?_range hi] at hd
     simpa using hd.symm
    subst hd'
    obtain ⟨cs,hl,hc,hr⟩:=hf i hi
    exact ⟨cs,hl,fun j u hu=>by have:=hc j u hu;rw [Addr.add_lit] at this;simpa [Nat.add_assoc] using this,hr⟩
end Go.Proofs.YtfffpjkcfnekaaaGreat.Ex
namespace Go.Proofs.YtfffpjkcfnekaaaGreat.Ex
open Go.RowKit
open Go.Value renaming slice -> O, int -> U, bool -> zg, agg -> zh, pointer -> zj, tuple -> zm
open Go.IntKind renaming i64 -> zd
open Go.Obj renaming cells -> ze
open Go.Ending renaming returned -> zk
theorem Aa {p:Prop} (h:p):Hx p:=h
theorem Ap {W w1:World} (hb:Ov W w1):(∀ b o,b < W.heap.size->w1.cell? ⟨b,o,none⟩=W.cell? ⟨b,o,none⟩)/\(∀ b o,b < W.heap.size->w1.frozen? ⟨b,o,none⟩=W.frozen? ⟨b,o,none⟩):=
 ⟨fun b o h=>hb.cell (p:=⟨b,o,none⟩) h,fun b o h=>hb.frozen (p:=⟨b,o,none⟩) h⟩
theorem Ab {w w':World} (hb:Ov w w') (a:Addr) (u:Value) (h:w.cell? a=some u):w'.cell? a=some u:=by
 rw [hb.cell (bL h)]
 exact h
theorem RX.over {w w':World} {k:Nat} {cs:List Value} {d:D} (h:RX w k cs d) (hb:Ov w w'):RX w' k cs d:=RX.mono (Ab hb) k k cs d (Nat.le_refl _) h
def AF:D->List D
 | .agg [_,_,.slice l _]=>l
 | _=>[]
def AH:D->Int
 | .agg (.lit (.int _ n)::_)=>n
 | _=>0
def Ba:D->Int
 | .agg (_::.lit (.int _ n)::_)=>n
 | _=>0
@[simp] theorem O7 (k n:Int) (l:List D):AF (xD k n l)=l:=rfl
@[simp] theorem O0 (k n:Int) (l:List D):AH (xD k n l)=k:=rfl
@[simp] theorem Pg (k n:Int) (l:List D):Ba (xD k n l)=n:=rfl
theorem RX.form {w:World} {k:Nat} {cs:List Value} {d:D} (h:RX w k cs d):∃ ao cap,cs=[U zd (AH d),U zd (Ba d),O ao (AF d).length cap]:=by
 cases k with
 | zero=>exact h.elim
 | succ k=>
  obtain ⟨kd,n,v,ds,rfl,rfl,-,-,-,ao,cap,rfl,-⟩:=h
  exact ⟨ao,cap,rfl⟩
def Bs (f:D->Int->Int) (m:Int):List D->Int->Int
 | [],n=>n
 | a::l,n=>if n<=m then Bs f m l (n+f a (m - n)) else n
def BP:Nat->D->Int->Int
 | 0,_,_=>1
 | k+1,d,m=>Bs (BP k) m (AF d) 1
theorem Ff (f:D->Int->Int) (hf:∀ d m,0<=m->1<=f d m/\f d m<=m+1) (m:Int):∀ (l:List D) (n:Int),1<=n->n<=m+1->1<=Bs f m l n/\Bs f m l n<=m+1
 | [],n,h1,h2=>⟨h1,h2⟩
 | a::l,n,h1,h2=>by
  unfold Bs
  split
  ·have:=hf a (m - n) (by omega)
   exact Ff f hf m l _ (by omega) (by omega)
  ·exact ⟨h1,h2⟩
theorem EN:∀ (k:Nat) (d:D) (m:Int),0<=m->1<=BP k d m/\BP k d m<=m+1
 | 0,_,m,h=>by unfold BP;omega
 | k+1,d,m,h=>Ff _ (EN k) m _ 1 (by omega) (by omega)
theorem Gi (f:D->Int->Int) (m:Int) (l) (n:Int) (h:m < n):Bs f m l n=n:=by
 cases l with
 | nil=>rfl
 | cons a l=>unfold Bs;rw [if_neg (by omega)]
theorem Gh {f:D->Int->Int} {m n:Int} {l:List D} {j:Nat} (hj:j < l.length) (h:n<=m):Bs f m (l.drop j) n=Bs f m (l.drop (j+1)) (n+f l[j] (m - n)):=by
 rw [List.drop_eq_getElem_cons hj]
 rw [Bs,if_pos h]
def AL (w:World) (v:Value) (l:List Int):Prop:=
 ∃ ao cap,v=O ao l.length cap/\(l≠[]->∃ b off,ao=some ⟨b,off,none⟩/\∀ i (h:i < l.length),w.cell? ⟨b,off+i,none⟩=some (U zd l[i]))
theorem AL.over {w w':World} {v:Value} {l:List Int} (h:AL w v l) (hb:Ov w w'):AL w' v l:=by
 obtain ⟨ao,cap,hv,hc⟩:=h
 refine ⟨ao,cap,hv,fun hne=>?_⟩
 obtain ⟨b,off,hao,hel⟩:=hc hne
 exact ⟨b,off,hao,fun i hi=>Ab hb _ _ (hel i hi)⟩
theorem below_drewN {W w:World} {n:Nat} (h:Below n W w) (k:Nat):Below n W (w.drewN k):=by
 induction k with
 | zero=>exact h
 | succ k ih=>exact ih.drew
theorem Ad {W W':World} {B e s:Nat} {v:Value} {k:Nat} {xs:List Value} (h:W.ownsRow B e s v k xs) (hb:Ov W W'):W'.ownsRow B e s v k xs:=by
 obtain ⟨h1,h2⟩:=h
 refine ⟨h1,?_⟩
 rcases h2 with h2 | ⟨g,cap,cur,hv,hg,hh,r⟩
 ·exact Or.inl h2
 ·refine Or.inr ⟨g,cap,cur,hv,hg,?_,r⟩
  rw [hb.block g (Array.getElem?_eq_some_iff.1 hh).1]
  exact hh
theorem Al {W:World} {B e s:Nat} {v:Value} {k:Nat} {xs:List Value} (h:W.ownsRow B e s v k xs) {g:Nat} (hg:v.ownBlock=some g):B<=g/\g < W.heap.size:=by
 rcases h.2 with ⟨rfl,_⟩ | ⟨g',cap,cur,rfl,hg',hh,_⟩
 ·cases hg
 ·simp [Value.ownBlock] at hg
  subst hg
  exact ⟨hg',(Array.getElem?_eq_some_iff.1 hh).1⟩
theorem Aq {B e s:Nat} {W W':World} {v:Value} {k:Nat} {xs:List Value} (h:W.ownsRow B e s v k xs) (hg:W.grownBy W' v.ownBlock) (hB:B<=W.heap.size):Below B W W':=
 ⟨hg.os,hg.tape,hg.output,hg.size,fun j hj=>hg.block j (Nat.lt_of_lt_of_le hj hB) (fun e=>by have:=(Al h e.symm).1;omega)⟩
def Bm:Nat->D->List D
 | 0,_=>[]
 | k+1,d=>d::(AF d).flatMap (Bm k)
theorem J8 {w:World} {k:Nat} {cs:List Value} {d:D} (h:RX w k cs d):0 < (Bm k d).length:=by
 cases k with
 | zero=>exact h.elim
 | succ k=>simp [Bm]
theorem Tryz.infoX:(Tryz.prog.info? 94).map (fun i=>(i.zero,i.size,i.bytes))=some (some (zh #[U zd 0,U zd 0,O none 0 0]),3,40):=by kernel_rfl
def CI (vars k n:Int) (l:Nat):Int:=
 if ¬ (1<=k/\k<=7) then 7 else if k<=2/\l≠0\/2 < k/\l≠2 then 1 else if k=1/\¬ (-9999999<=n/\n<=9999999)\/2 < k/\n≠0 then 3 else if k=2/\¬ (0<=n/\n<=vars - 1) then 5 else 0
def BL (vars:Int):List D->Int
 | []=>0
 | d::l=>if CI vars (AH d) (Ba d) (AF d).length=0 then BL vars l else CI vars (AH d) (Ba d) (AF d).length
def AZ (vars:Int) (k:Nat) (d:D):Int:=if 15 < BP k d 15 then 2 else BL vars (Bm k d)
theorem EG (f:D->Int->Int) (g:D->List D) (hf:∀ d m,0<=m->f d m<=m->((g d).length:Int)<=f d m) (m:Int):∀ (l:List D) (n:Int),Bs f m l n<=m->((l.flatMap g).length:Int)+n<=Bs f m l n
 | [],n,_=>by simp [Bs]
 | a::l,n,h=>by
  rw [Bs] at h ⊢
  split at h
  ·rename_i hn
   rw [if_pos hn]
   have h1:=EG f g hf m l _ h
   have h2:(((a::l).flatMap g).length:Int)=((g a).length:Int)+((l.flatMap g).length:Int):=by simp
   have h3:=hf a (m - n) (by omega) (by omega)
   omega
  ·omega
theorem Gp:∀ (k:Nat) (d:D) (m:Int),0<=m->BP k d m<=m->((Bm k d).length:Int)<=BP k d m
 | 0,_,m,_,h=>by simp [Bm,BP]
 | k+1,d,m,h0,h=>by
  have h1:=EG (BP k) (Bm k) (Gp k) m (AF d) 1 h
  have h2:((Bm (k+1) d).length:Int)=(((AF d).flatMap (Bm k)).length:Int)+1:=by simp [Bm]
  rw [h2]
  exact h1
theorem Fe {vars:Int}:∀ {l:List D},BL vars l=0->∀ d∈l,CI vars (AH d) (Ba d) (AF d).length=0
 | [],_,d,hd=>by cases hd
 | a::l,h,d,hd=>by
  rw [BL] at h
  split at h
  ·rename_i h0
   rcases List.mem_cons.1 hd with rfl | hd
   ·exact h0
   ·exact Fe h d hd
  ·rename_i h0
   exact absurd h h0
theorem EX {vars k n:Int} {l:Nat} (h:CI vars k n l=0):(k=1/\-9999999<=n/\n<=9999999)\/(k=2/\0<=n/\n < vars)\/(3<=k/\k<=7/\l=2):=by
 unfold CI at h
 split at h
 ·omega
 ·split at h
  ·omega
  ·split at h
   ·omega
   ·split at h
    ·omega
    ·omega
theorem LD:∀ (k:Nat) (cs:List Value) (d:D) (w:World) (m:Int),RX w k cs d->0<=m->m<=15 ->
  Calls Tryz.prog 162 #[.agg cs.toArray,U zd m] w fun e w'=>e=zk (U zd (m - BP k d m))/\Ov w w':=by
 intro k
 induction k with
 | zero=>intro cs d w m h;exact h.elim
 | succ k ih=>
  intro cs d w m h m0 m1
  obtain ⟨kd,n,v,ds,rfl,rfl,hkd,hn,hlen,ao,cap,rfl,hc⟩:=h
  have HC:=Aa hc
  have IH:=Aa ih
  have HL:ds.length<=9223372036854775807:=hlen
  have hspec:BP (k+1) (xD kd n ds) m=Bs (BP k) m ds 1:=rfl
  rw [hspec]
  have hbel:Ov w (w.alloc (ze #[U zd kd,U zd n,O ao ds.length cap] 94)):=bA w _
  clear hc ih hspec hkd hn hlen
  show Calls Tryz.prog 162 #[zh #[U zd kd,U zd n,O ao ds.length cap],U zd m] w _
  go_enter Tryz.func162,Tryz.ntmps162
  go_wp2_with fail
  go_loopw [1,12] (fun c i wr=>∃ (j:Nat) (t:Int),j<=ds.length/\i=U zd j/\c=U zd (m - t)/\1<=t/\t<=m+1/\Bs (BP k) m ds 1=Bs (BP k) m (ds.drop j) t/\Ov w wr) (fun _ i _=>ds.length - (intOf i).toNat)
  case atStart=>exact ⟨0,1,Nat.zero_le _,rfl,rfl,by omega,by omega,rfl,hbel⟩
  case round=>
   clear hbel
   obtain ⟨j,t,hj,rfl,rfl,t1,t2,hp,hB⟩:=hrel
   have HP:=Aa hp
   clear hp
   by_cases hjl:j < ds.length
   ·obtain ⟨b,off,rfl,hcl⟩:=HC.o (by rintro rfl;simp at hjl)
    obtain ⟨cs,hl3,hcs,hr⟩:=hcl j ds[j] (List.getElem?_eq_getElem hjl)
    obtain ⟨ao',cap',hcse⟩:=hr.form
    have hnext:=fun h=>Gh (f:=BP k) (m:=m) (n:=t) hjl h
    have hle:=fun h=>EN k ds[j] (m - t) h
    obtain ⟨dj,hdj⟩:=nm (ds[j])
    rw [<-hdj] at hnext hle hr hcse
    obtain ⟨kj,hkj⟩:=nm (AH dj)
    obtain ⟨nj,hnj⟩:=nm (Ba dj)
    obtain ⟨lj,hlj⟩:=nm ((AF dj).length)
    rw [<-hkj,<-hnj,<-hlj] at hcse
    subst hcse
    have q0:wr.cell? ⟨b,off+j*3,none⟩=_:=Ab hB _ _ (hcs 0 _ rfl)
    have q1:=Ab hB _ _ (hcs 1 _ rfl)
    have q2:=Ab hB _ _ (hcs 2 _ rfl)
    have hba:Ov wr (wr.alloc (ze #[U zd kj,U zd nj,O ao' lj cap'] 94)):=bA wr _
    have hBa:Ov w (wr.alloc (ze #[U zd kj,U zd nj,O ao' lj cap'] 94)):=hB.trans (hba.mono hB.size)
    by_cases htm:t<=m
    ·have hnext:=hnext htm
     have hle:=hle (by omega)
     have hcall:=IH.o _ dj _ (m - t) (hr.over hBa) (by omega) (by omega)
     obtain ⟨r,hre⟩:=nm (BP k dj (m - t))
     rw [<-hre] at hcall hnext hle
     have HCALL:=Aa hcall
     have HN:=Aa hnext
     clear hcall hnext hre hkj hnj hlj hr hcs hcl hl3 hdj
     go_wp2_with fail
     refine (HCALL.o).mono ?_
     rintro e w1 ⟨rfl,hb1⟩
     have hB':Ov w w1:=hBa.trans (hb1.mono hBa.size)
     clear q0 q1 q2 hB hb1 HCALL hba hBa
     go_wp2_with fail
     exact ⟨⟨j+1,t+r,by omega,by go_num,by go_num,by omega,by omega,by rw [HP.o,HN.o],hB'⟩,by simp [intOf];omega⟩
    ·have hd:=Gi (BP k) m (ds.drop j) t (by omega)
     have HD:=Aa hd
     have hneg:m - t < 0:=by omega
     clear hd hnext hle hr hcs hcl hl3 hdj hkj hnj hlj htm
     go_wp2_with fail
     go_ret
     exact ⟨by rw [HP.o,HD.o];rfl,hBa⟩
   ·have hd:Bs (BP k) m (ds.drop j) t=t:=by rw [List.drop_eq_nil_of_le (by omega)];rfl
    have HD:=Aa hd
    clear hd
    go_wp2_with fail
    go_ret
    exact ⟨by rw [HP.o,HD.o];rfl,hB⟩
def C8 (k:Int):Int:=if k=1\/k=2 then 0 else 2
theorem F4 (k:Int) (w:World):Calls Tryz.prog 209 #[U zd k] w fun e w'=>e=zk (U zd (C8 k))/\w'=w:=by
 by_cases h1:k=1
 ·subst h1
  go_enter Tryz.func209,Tryz.ntmps209
  go_wp2
  go_ret
  exact ⟨rfl,rfl⟩
 ·by_cases h2:k=2
  ·subst h2
   go_enter Tryz.func209,Tryz.ntmps209
   go_wp2
   go_ret
   exact ⟨rfl,rfl⟩
  ·have b1:(k == 1)=false:=by simpa using h1
   have b2:(k == 2)=false:=by simpa using h2
   go_enter Tryz.func209,Tryz.ntmps209
   go_wp2
   go_ret
   exact ⟨by simp [C8,h1,h2],rfl⟩
theorem Eb (vars:Int):∀ (l m:List D),BL vars (l++m)=if BL vars l=0 then BL vars m else BL vars l
 | [],m=>by simp [BL]
 | a::l,m=>by
  rw [List.cons_append,BL,BL]
  split
  ·exact Eb vars l m
  ·rfl
def E6 (vars:Int) (k:Nat):List D->Int
 | []=>0
 | a::l=>if BL vars (Bm k a)=0 then E6 vars k l else BL vars (Bm k a)
theorem Fw (vars:Int) (k:Nat):∀ l:List D,E6 vars k l=BL vars (l.flatMap (Bm k))
 | []=>rfl
 | a::l=>by rw [E6,List.flatMap_cons,Eb,Fw vars k l]
theorem IB {vars:Int} {k:Nat} {l:List D} {j:Nat} (hj:j < l.length):E6 vars k (l.drop j)=if BL vars (Bm k l[j])=0 then E6 vars k (l.drop (j+1)) else BL vars (Bm k l[j]):=by
 rw [List.drop_eq_getElem_cons hj]
 rfl
theorem J2 (vars kd n:Int) (dl cap:Nat) (ao:Option Addr) (w:World) (v0:0<=vars) (v1:vars<=9223372036854775807) (HL:dl<=9223372036854775807) (hkd:Ch kd) (hn:Ch n) (hE:CI vars kd n dl≠0) :
  Calls Tryz.prog 163 #[zh #[U zd kd,U zd n,O ao dl cap],U zd vars] w fun e w'=>e=zk (U zd (CI vars kd n dl))/\Ov w w':=by
 have hbel:Ov w (w.alloc (ze #[U zd kd,U zd n,O ao dl cap] 94)):=bA w _
 have KA:=Aa fun W=>F4 kd W
 obtain ⟨kl,ku⟩:=hkd
 obtain ⟨nl,nu⟩:=hn
 by_cases c1:kd < 1\/7 < kd
 ·have hr:CI vars kd n dl=7:=by unfold CI;rw [if_pos (by omega)]
  rw [hr]
  clear hr hE
  rcases c1 with c1 | c1
  ·go_enter Tryz.func163,Tryz.ntmps163
   go_wp2_with fail
   go_ret
   exact ⟨rfl,hbel⟩
  ·have c0:¬ kd < 1:=by omega
   go_enter Tryz.func163,Tryz.ntmps163
   go_wp2_with fail
   go_ret
   exact ⟨rfl,hbel⟩
 ·have c2:1<=kd:=by omega
  have c3:kd<=7:=by omega
  clear c1
  obtain ⟨e0,e1,e2⟩:=rc3 (CK w [U zd kd,U zd n,O ao dl cap] 94)
  by_cases c4:(dl:Int)=C8 kd
  ·by_cases c5:kd=1
   ·subst c5
    have c6:dl=0:=by simpa [C8] using c4
    subst c6
    have ka:C8 1=0:=rfl
    rw [ka] at KA
    have hr:CI vars 1 n 0=3/\(n < -9999999\/9999999 < n):=by
     unfold CI at hE ⊢
     rw [if_neg (by omega),if_neg (by omega)] at hE ⊢
     by_cases q:n < -9999999\/9999999 < n
     ·exact ⟨by rw [if_pos (by omega)],q⟩
     ·rw [if_neg (by omega),if_neg (by omega)] at hE
      exact absurd rfl hE
    obtain ⟨hr,c5⟩:=hr
    rw [hr]
    clear hr hE c4 ka
    rcases c5 with c5 | c5
    ·go_enter Tryz.func163,Tryz.ntmps163
     go_wp2_with fail
     go_region_held3 (fun W=>W.cell? ⟨w.heap.size,0,none⟩=some (U zd 1)/\W.cell? ⟨w.heap.size,1,none⟩=some (U zd n)/\W.cell? ⟨w.heap.size,2,none⟩=some (O ao 0 cap)/\Ov w W) (first | assumption | exact ⟨e0,e1,e2,below_drewN hbel 1⟩ | fail) (first | (go_at_call 209;refine (KA.o _).mono ?_;rintro e wp ⟨rfl,rfl⟩))
     obtain ⟨g0,g1,g2,hB⟩:=(by assumption:_/\_/\_/\Below _ _ _)
     go_wp2_with fail
     go_ret
     exact ⟨rfl,hB⟩
    ·have c6:¬ n < -9999999:=by omega
     go_enter Tryz.func163,Tryz.ntmps163
     go_wp2_with fail
     go_region_held3 (fun W=>W.cell? ⟨w.heap.size,0,none⟩=some (U zd 1)/\W.cell? ⟨w.heap.size,1,none⟩=some (U zd n)/\W.cell? ⟨w.heap.size,2,none⟩=some (O ao 0 cap)/\Ov w W) (first | assumption | exact ⟨e0,e1,e2,below_drewN hbel 1⟩ | fail) (first | (go_at_call 209;refine (KA.o _).mono ?_;rintro e wp ⟨rfl,rfl⟩))
     obtain ⟨g0,g1,g2,hB⟩:=(by assumption:_/\_/\_/\Below _ _ _)
     go_wp2_with fail
     go_ret
     exact ⟨rfl,hB⟩
   ·by_cases c7:kd=2
    ·subst c7
     have c6:dl=0:=by simpa [C8] using c4
     subst c6
     have ka:C8 2=0:=rfl
     rw [ka] at KA
     have hr:CI vars 2 n 0=5/\(n < 0\/vars<=n):=by
      unfold CI at hE ⊢
      rw [if_neg (by omega),if_neg (by omega),if_neg (by omega)] at hE ⊢
      by_cases q:n < 0\/vars<=n
      ·exact ⟨by rw [if_pos (by omega)],q⟩
      ·rw [if_neg (by omega)] at hE
       exact absurd rfl hE
     obtain ⟨hr,c5⟩:=hr
     rw [hr]
     clear hr hE c4 ka
     rcases c5 with c5 | c5
     ·go_enter Tryz.func163,Tryz.ntmps163
      go_wp2_with fail
      go_region_held3 (fun W=>W.cell? ⟨w.heap.size,0,none⟩=some (U zd 2)/\W.cell? ⟨w.heap.size,1,none⟩=some (U zd n)/\W.cell? ⟨w.heap.size,2,none⟩=some (O ao 0 cap)/\Ov w W) (first | assumption | exact ⟨e0,e1,e2,below_drewN hbel 1⟩ | fail) (first | (go_at_call 209;refine (KA.o _).mono ?_;rintro e wp ⟨rfl,rfl⟩))
      obtain ⟨g0,g1,g2,hB⟩:=(by assumption:_/\_/\_/\Below _ _ _)
      go_wp2_with fail
      go_ret
      exact ⟨rfl,hB⟩
     ·have c6:¬ n < 0:=by omega
      go_enter Tryz.func163,Tryz.ntmps163
      go_wp2_with fail
      go_region_held3 (fun W=>W.cell? ⟨w.heap.size,0,none⟩=some (U zd 2)/\W.cell? ⟨w.heap.size,1,none⟩=some (U zd n)/\W.cell? ⟨w.heap.size,2,none⟩=some (O ao 0 cap)/\Ov w W) (first | assumption | exact ⟨e0,e1,e2,below_drewN hbel 1⟩ | fail) (first | (go_at_call 209;refine (KA.o _).mono ?_;rintro e wp ⟨rfl,rfl⟩))
      obtain ⟨g0,g1,g2,hB⟩:=(by assumption:_/\_/\_/\Below _ _ _)
      go_wp2_with fail
      go_ret
      exact ⟨rfl,hB⟩
    ·have ka:C8 kd=2:=by unfold C8;rw [if_neg (by omega)]
     rw [ka] at KA c4
     have c8:dl=2:=by omega
     subst c8
     have hr:CI vars kd n 2=3/\n≠0:=by
      unfold CI at hE ⊢
      rw [if_neg (by omega),if_neg (by omega)] at hE ⊢
      by_cases q:n=0
      ·rw [if_neg (by omega),if_neg (by omega)] at hE
       exact absurd rfl hE
      ·exact ⟨by rw [if_pos (by omega)],q⟩
     obtain ⟨hr,c9⟩:=hr
     rw [hr]
     clear hr hE c4 ka
     go_enter Tryz.func163,Tryz.ntmps163
     go_wp2_with fail
     go_region_held3 (fun W=>W.cell? ⟨w.heap.size,0,none⟩=some (U zd kd)/\W.cell? ⟨w.heap.size,1,none⟩=some (U zd n)/\W.cell? ⟨w.heap.size,2,none⟩=some (O ao 2 cap)/\Ov w W) (first | assumption | exact ⟨e0,e1,e2,below_drewN hbel 1⟩ | fail) (first | (go_at_call 209;refine (KA.o _).mono ?_;rintro e wp ⟨rfl,rfl⟩))
     obtain ⟨g0,g1,g2,hB⟩:=(by assumption:_/\_/\_/\Below _ _ _)
     go_wp2_with fail
     go_ret
     exact ⟨rfl,hB⟩
  ·have hr:CI vars kd n dl=1:=by
    unfold CI
    unfold C8 at c4
    rw [if_neg (by omega)]
    split at c4
    ·rw [if_pos (by omega)]
    ·rw [if_pos (by omega)]
   rw [hr]
   clear hr hE
   go_enter Tryz.func163,Tryz.ntmps163
   go_wp2_with fail
   go_region_held3 (fun W=>W.cell? ⟨w.heap.size,0,none⟩=some (U zd kd)/\W.cell? ⟨w.heap.size,1,none⟩=some (U zd n)/\W.cell? ⟨w.heap.size,2,none⟩=some (O ao dl cap)/\Ov w W) (first | assumption | exact ⟨e0,e1,e2,below_drewN hbel 1⟩ | fail) (first | (go_at_call 209;refine (KA.o _).mono ?_;rintro e wp ⟨rfl,rfl⟩))
   obtain ⟨g0,g1,g2,hB⟩:=(by assumption:_/\_/\_/\Below _ _ _)
   go_wp2_with fail
   go_ret
   exact ⟨rfl,hB⟩
theorem J1 (vars kd n:Int) (cap:Nat) (ao:Option Addr) (w:World) (v0:0<=vars) (v1:vars<=9223372036854775807) (hE:CI vars kd n 0=0) :
  Calls Tryz.prog 163 #[zh #[U zd kd,U zd n,O ao 0 cap],U zd vars] w fun e w'=>e=zk (U zd 0)/\Ov w w':=by
 have KA:=Aa fun W=>F4 kd W
 rcases EX hE with ⟨rfl,c1,c2⟩ | ⟨rfl,c1,c2⟩ | ⟨_,_,c3⟩
 ·have hbel:Ov w (w.alloc (ze #[U zd 1,U zd n,O ao 0 cap] 94)):=bA w _
  obtain ⟨e0,e1,e2⟩:=rc3 (CK w [U zd 1,U zd n,O ao 0 cap] 94)
  have ka:C8 1=0:=rfl
  rw [ka] at KA
  clear hE ka
  have c3:¬ n < -9999999:=by omega
  have c4:¬ 9999999 < n:=by omega
  go_enter Tryz.func163,Tryz.ntmps163
  go_wp2_with fail
  go_region_held3 (fun W=>W.cell? ⟨w.heap.size,0,none⟩=some (U zd 1)/\W.cell? ⟨w.heap.size,1,none⟩=some (U zd n)/\W.cell? ⟨w.heap.size,2,none⟩=some (O ao 0 cap)/\Ov w W) (first | assumption | exact ⟨e0,e1,e2,below_drewN hbel 1⟩ | fail) (first | (go_at_call 209;refine (KA.o _).mono ?_;rintro e wp ⟨rfl,rfl⟩))
  obtain ⟨g0,g1,g2,hB⟩:=(by assumption:_/\_/\_/\Below _ _ _)
  go_wp2_with fail
  go_loopw [67] (fun i wr=>i=U zd 0/\Ov w wr) (fun _ _=>0)
  case atStart=>exact ⟨rfl,hB⟩
  case round=>
   obtain ⟨rfl,hB2⟩:=hrel
   go_wp2_with fail
   go_ret
   exact ⟨rfl,hB2⟩
 ·have hbel:Ov w (w.alloc (ze #[U zd 2,U zd n,O ao 0 cap] 94)):=bA w _
  obtain ⟨e0,e1,e2⟩:=rc3 (CK w [U zd 2,U zd n,O ao 0 cap] 94)
  have ka:C8 2=0:=rfl
  rw [ka] at KA
  clear hE ka
  have c3:¬ n < 0:=by omega
  have c4:¬ vars<=n:=by omega
  go_enter Tryz.func163,Tryz.ntmps163
  go_wp2_with fail
  go_region_held3 (fun W=>W.cell? ⟨w.heap.size,0,none⟩=some (U zd 2)/\W.cell? ⟨w.heap.size,1,none⟩=some (U zd n)/\W.cell? ⟨w.heap.size,2,none⟩=some (O ao 0 cap)/\Ov w W) (first | assumption | exact ⟨e0,e1,e2,below_drewN hbel 1⟩ | fail) (first | (go_at_call 209;refine (KA.o _).mono ?_;rintro e wp ⟨rfl,rfl⟩))
  obtain ⟨g0,g1,g2,hB⟩:=(by assumption:_/\_/\_/\Below _ _ _)
  go_wp2_with fail
  go_loopw [67] (fun i wr=>i=U zd 0/\Ov w wr) (fun _ _=>0)
  case atStart=>exact ⟨rfl,hB⟩
  case round=>
   obtain ⟨rfl,hB2⟩:=hrel
   go_wp2_with fail
   go_ret
   exact ⟨rfl,hB2⟩
 ·omega
theorem Lx (vars:Int) (v0:0<=vars) (v1:vars<=9223372036854775807):∀ (k:Nat) (cs:List Value) (d:D) (w:World),RX w k cs d ->
  Calls Tryz.prog 163 #[.agg cs.toArray,U zd vars] w fun e w'=>e=zk (U zd (BL vars (Bm k d)))/\Ov w w':=by
 intro k
 induction k with
 | zero=>intro cs d w h;exact h.elim
 | succ k ih=>
  intro cs d w h
  obtain ⟨kd,n,v,ds,rfl,rfl,hkd,hn,hlen,ao,cap,rfl,hc⟩:=h
  have hspec:BL vars (Bm (k+1) (xD kd n ds))=if CI vars kd n ds.length=0 then E6 vars k ds else CI vars kd n ds.length:=by
   rw [Fw]
   rfl
  rw [hspec]
  show Calls Tryz.prog 163 #[zh #[U zd kd,U zd n,O ao ds.length cap],U zd vars] w _
  by_cases hE:CI vars kd n ds.length=0
  ·rw [if_pos hE]
   have hz:=EX hE
   cases ds with
   | nil=>exact J1 vars kd n cap ao w v0 v1 hE
   | cons d0 dr=>
    have hk3:3<=kd/\kd<=7/\(d0::dr).length=2/\n=0:=by
     rcases hz with ⟨rfl,_,_⟩ | ⟨rfl,_,_⟩ | ⟨z1,z2,z3⟩
     ·exfalso
      unfold CI at hE
      rw [if_neg (by omega),if_pos (by simp)] at hE
      omega
     ·exfalso
      unfold CI at hE
      rw [if_neg (by omega),if_pos (by simp)] at hE
      omega
     ·refine ⟨z1,z2,z3,?_⟩
      rw [z3] at hE
      unfold CI at hE
      rw [if_neg (by omega),if_neg (by omega)] at hE
      by_cases q:n=0
      ·exact q
      ·rw [if_pos (by omega)] at hE
       omega
    obtain ⟨k1,k2,z3,rfl⟩:=hk3
    obtain ⟨ds,hds⟩:=nm (d0::dr)
    rw [<-hds] at hc z3 ⊢
    rw [z3]
    have HC:=Aa hc
    have IH:=Aa ih
    have KA:=Aa fun W=>F4 kd W
    have ka:C8 kd=2:=by unfold C8;rw [if_neg (by omega)]
    rw [ka] at KA
    have hbel:Ov w (w.alloc (ze #[U zd kd,U zd 0,O ao 2 cap] 94)):=bA w _
    obtain ⟨e0,e1,e2⟩:=rc3 (CK w [U zd kd,U zd 0,O ao 2 cap] 94)
    have n1:kd≠1:=by omega
    have n2:kd≠2:=by omega
    obtain ⟨R,hR⟩:=nm (E6 vars k ds)
    have HR:=Aa hR
    have HZ:=Aa z3
    rw [<-hR]
    clear hc ih hspec hE hz hlen hkd hn ka hds z3 hR
    go_enter Tryz.func163,Tryz.ntmps163
    go_wp2_with fail
    go_region_held3 (fun W=>W.cell? ⟨w.heap.size,0,none⟩=some (U zd kd)/\W.cell? ⟨w.heap.size,1,none⟩=some (U zd 0)/\W.cell? ⟨w.heap.size,2,none⟩=some (O ao 2 cap)/\Ov w W) (first | assumption | exact ⟨e0,e1,e2,below_drewN hbel 1⟩ | fail) (first | (go_at_call 209;refine (KA.o _).mono ?_;rintro e wp ⟨rfl,rfl⟩))
    obtain ⟨g0,g1,g2,hB⟩:=(by assumption:_/\_/\_/\Below _ _ _)
    go_wp2_with fail
    go_loopw [67] (fun i wr=>∃ (j:Nat),j<=2/\i=U zd j/\R=E6 vars k (ds.drop j)/\Ov w wr) (fun i _=>2 - (intOf i).toNat)
    case atStart=>exact ⟨0,Nat.zero_le _,rfl,HR.o,hB⟩
    case round=>
     clear hB g0 g1 g2
     obtain ⟨j,hj,rfl,hp,hB⟩:=hrel
     have HP:=Aa hp
     clear hp
     by_cases hjl:j < 2
     ·have hjd:j < ds.length:=by rw [HZ.o];exact hjl
      obtain ⟨b,off,rfl,hcl⟩:=HC.o (by rintro rfl;simp at hjd)
      obtain ⟨cs,hl3,hcs,hr⟩:=hcl j ds[j] (List.getElem?_eq_getElem hjd)
      obtain ⟨ao',cap',hcse⟩:=hr.form
      have hnext:=IB (vars:=vars) (k:=k) hjd
      obtain ⟨dj,hdj⟩:=nm (ds[j])
      rw [<-hdj] at hnext hr hcse
      obtain ⟨kj,hkj⟩:=nm (AH dj)
      obtain ⟨nj,hnj⟩:=nm (Ba dj)
      obtain ⟨lj,hlj⟩:=nm ((AF dj).length)
      rw [<-hkj,<-hnj,<-hlj] at hcse
      subst hcse
      have q0:wr.cell? ⟨b,off+j*3,none⟩=_:=Ab hB _ _ (hcs 0 _ rfl)
      have q1:=Ab hB _ _ (hcs 1 _ rfl)
      have q2:=Ab hB _ _ (hcs 2 _ rfl)
      have hba:Ov wr (wr.alloc (ze #[U zd kj,U zd nj,O ao' lj cap'] 94)):=bA wr _
      have hBa:Ov w (wr.alloc (ze #[U zd kj,U zd nj,O ao' lj cap'] 94)):=hB.trans (hba.mono hB.size)
      have hcall:=IH.o _ dj _ (hr.over hBa)
      obtain ⟨r,hre⟩:=nm (BL vars (Bm k dj))
      rw [<-hre] at hcall hnext
      have HCALL:=Aa hcall
      have HN:=Aa hnext
      clear hcall hnext hre hkj hnj hlj hr hcs hcl hl3 hdj hjd
      by_cases hr0:r=0
      ·subst hr0
       go_wp2_with fail
       refine (HCALL.o).mono ?_
       rintro e w1 ⟨rfl,hb1⟩
       have hB':Ov w w1:=hBa.trans (hb1.mono hBa.size)
       clear q0 q1 q2 hB hb1 HCALL hba hBa
       go_wp2_with fail
       exact ⟨⟨j+1,by omega,by go_num,by rw [HP.o,HN.o];rfl,hB'⟩,by simp [intOf];omega⟩
      ·have hd:R=r:=by rw [HP.o,HN.o,if_neg hr0]
       subst hd
       clear HP HN HR
       go_wp2_with fail
       refine (HCALL.o).mono ?_
       rintro e w1 ⟨rfl,hb1⟩
       have hB':Ov w w1:=hBa.trans (hb1.mono hBa.size)
       clear q0 q1 q2 hB hb1 HCALL hba hBa
       go_wp2_with fail
       go_ret
       exact ⟨rfl,hB'⟩
     ·have hd:R=0:=by
       rw [HP.o,List.drop_eq_nil_of_le (by rw [HZ.o];omega)]
       rfl
      subst hd
      clear HP HR
      go_wp2_with fail
      go_ret
      exact ⟨rfl,hB⟩
  ·rw [if_neg hE]
   exact J2 vars kd n ds.length cap ao w v0 v1 hlen hkd hn hE
theorem check_any (k:Nat) (cs:List Value) (d) (w:World) (vars:Int) (v0:0<=vars) (v1:vars<=9223372036854775807) (h:RX w k cs d) :
  Calls Tryz.prog 102 #[.agg cs.toArray,U zd vars] w fun e w'=>e=zk (U zd (AZ vars k d))/\Ov w w':=by
 have K1:=Aa fun W hB=>LD k cs d W 15 (h.over hB) (by omega) (by omega)
 have K2:=Aa fun W hB=>Lx vars v0 v1 k cs d W (h.over hB)
 obtain ⟨ao,cap,rfl⟩:=h.form
 obtain ⟨kd,hkd⟩:=nm (AH d)
 obtain ⟨n,hn⟩:=nm (Ba d)
 obtain ⟨dl,hdl⟩:=nm ((AF d).length)
 rw [<-hkd,<-hn,<-hdl] at K1 K2 ⊢
 clear hkd hn hdl
 obtain ⟨p,hp⟩:=nm (BP k d 15)
 have hspec:AZ vars k d=if 15 < p then 2 else BL vars (Bm k d):=by rw [hp];rfl
 rw [<-hp] at K1
 have hple:=EN k d 15 (by omega)
 rw [<-hp] at hple
 obtain ⟨z,hz⟩:=nm (15 - p)
 rw [<-hz] at K1
 clear hp
 obtain ⟨e0,e1,e2⟩:=rc3 (CK w [U zd kd,U zd n,O ao dl cap] 94)
 have hbel:Ov w (w.alloc (ze #[U zd kd,U zd n,O ao dl cap] 94)):=bA w _
 by_cases hq:15 < p
 ·rw [hspec,if_pos hq]
  have hneg:z < 0:=by omega
  clear hspec K2 hq hz hple
  show Calls Tryz.prog 102 #[zh #[U zd kd,U zd n,O ao dl cap],U zd vars] w _
  go_enter Tryz.func102,Tryz.ntmps102
  go_wp2_with fail
  refine (K1.o _ hbel).mono ?_
  rintro e w1 ⟨rfl,hb1⟩
  have hB1:Ov w w1:=hbel.trans (hb1.mono hbel.size)
  clear hb1 K1
  go_wp2_with fail
  go_ret
  exact ⟨rfl,hB1⟩
 ·rw [hspec,if_neg hq]
  have hneg:¬ z < 0:=by omega
  obtain ⟨R,hR⟩:=nm (BL vars (Bm k d))
  rw [<-hR] at K2 ⊢
  clear hspec hq hR hz hple
  show Calls Tryz.prog 102 #[zh #[U zd kd,U zd n,O ao dl cap],U zd vars] w _
  go_enter Tryz.func102,Tryz.ntmps102
  go_wp2_with fail
  refine (K1.o _ hbel).mono ?_
  rintro e w1 ⟨rfl,hb1⟩
  have hB1:Ov w w1:=hbel.trans (hb1.mono hbel.size)
  obtain ⟨g0,g1,g2⟩:=co3 hb1 e0 e1 e2
  clear hb1 K1 e0 e1 e2
  go_wp2_with fail
  refine (K2.o _ hB1).mono ?_
  rintro e w2 ⟨rfl,hb2⟩
  have hB2:Ov w w2:=hB1.trans (hb2.mono hB1.size)
  clear hb2 K2
  go_wp2_with fail
  go_ret
  exact ⟨rfl,hB2⟩
theorem J6 (at' why:Int) (w:World):Calls Tryz.prog 215 #[U zd at',zg true,U zd why] w fun e w'=>e=zk (zm #[])/\w'=w:=by
 go_enter Tryz.func215,Tryz.ntmps215
 go_wp2_with fail
 go_end0
 exact ⟨rfl,rfl⟩
theorem BJ (why:Int) (w:World):Calls Tryz.prog 172 #[zg true,U zd why] w fun e w'=>e=zk (zm #[])/\w'=w:=by
 have K:=Aa fun W=>J6 0 why W
 go_enter Tryz.func172,Tryz.ntmps172
 go_wp2_with fail
 refine (K.o _).mono ?_
 rintro e w1 ⟨rfl,rfl⟩
 go_wp2_with fail
 go_end0
 exact ⟨rfl,rfl⟩
theorem Mk (w:World):Calls Tryz.prog 171 #[U zd 0] w fun e w'=>e=zk (zm #[])/\w'=w:=by
 have K:=Aa fun W=>BJ 0 W
 go_enter Tryz.func171,Tryz.ntmps171
 go_wp2_with fail
 refine (K.o _).mono ?_
 rintro e w1 ⟨rfl,rfl⟩
 go_wp2_with fail
 go_end0
 exact ⟨rfl,rfl⟩
theorem Bn (x m:Int) (w:World):Calls Tryz.prog 173 #[U zd x,U zd m] w fun e w'=>e=zk (zg (decide (0<=x/\x < m)))/\w'=w:=by
 by_cases h1:0<=x
 ·by_cases h2:x < m
  ·go_enter Tryz.func173,Tryz.ntmps173
   go_wp2
   go_ret
   exact ⟨by simp;omega,rfl⟩
  ·go_enter Tryz.func173,Tryz.ntmps173
   go_wp2
   go_ret
   exact ⟨by simp;omega,rfl⟩
 ·go_enter Tryz.func173,Tryz.ntmps173
  go_wp2
  go_ret
  exact ⟨by simp;omega,rfl⟩
theorem Ac {w0 w1 w2:World} (h:Ov w0 w1) (h2:Ov w1 w2):Ov w0 w2:=h.trans (h2.mono h.size)
end Go.Proofs.YtfffpjkcfnekaaaGreat.Ex
namespace Go.Proofs.YtfffpjkcfnekaaaGreat
open Go.RowKit
open Go.Value renaming slice -> O, int -> U, bool -> zg, agg -> zh, pointer -> zj, tuple -> zm
open Go.IntKind renaming i64 -> zd
open Go.Obj renaming cells -> ze
open Go.Ending renaming returned -> zk
def Reach (gs:List (Nat × Nat)) (w k:Nat):Prop:=∀ S:Nat->Prop,S w->(∀ g∈gs,S g.1->S g.2)->S k
theorem IE (gs:List (Nat × Nat)) (w:Nat):Reach gs w w:=fun _ h _=>h
theorem IC {gs:List (Nat × Nat)} {w:Nat} {g:Nat × Nat} (hg:g∈gs) (h:Reach gs w g.1):Reach gs w g.2:=fun S h0 hS=>hS g hg (h S h0 hS)
def C2 (gs:List (Nat × Nat)) (w:Nat) (l:List Bool):Prop:=l[w]? = some true/\∀ k:Nat,l[k]? = some true->Reach gs w k
def Dy (gs:List (Nat × Nat)) (l:List Bool):Prop:=∀ g∈gs,l[g.1]? = some true->l[g.2]? = some true
theorem Gk {gs:List (Nat × Nat)} {w:Nat} {l:List Bool} {g:Nat × Nat} (h:C2 gs w l) (hg:g∈gs) (hk:l[g.1]? = some true):C2 gs w (l.set g.2 true):=by
 refine ⟨?_,fun k hk2=>?_⟩
 ·rw [List.getElem?_set]
  split
  ·split
   ·rfl
   ·rename_i e h1
    subst e
    have h0:=h.1
    rw [List.getElem?_eq_none (by omega)] at h0
    cases h0
  ·exact h.1
 ·rw [List.getElem?_set] at hk2
  split at hk2
  ·rename_i e
   subst e
   exact IC hg (h.2 _ hk)
  ·exact h.2 k hk2
theorem Gr {gs:List (Nat × Nat)} {w:Nat} {l:List Bool} (h:C2 gs w l) (hc:Dy gs l) (k:Nat):l[k]? = some true ↔ Reach gs w k:=
 ⟨fun e=>h.2 k e,fun hr=>hr (fun k=>l[k]? = some true) h.1 hc⟩
theorem Kd {gs:List (Nat × Nat)} {w:Nat} {l m:List Bool} (h:C2 gs w l) (hc:Dy gs l) (h2:C2 gs w m) (hc2:Dy gs m) (hl:l.length=m.length):l=m:=by
 apply List.ext_getElem?
 intro k
 have e:=(Gr h hc k).trans (Gr h2 hc2 k).symm
 by_cases hk:k < l.length
 ·have hk2:k < m.length:=by omega
  rw [List.getElem?_eq_getElem hk,List.getElem?_eq_getElem hk2] at e ⊢
  simp only [Option.some.injEq] at e ⊢
  exact Bool.eq_iff_iff.2 e
 ·rw [List.getElem?_eq_none (by omega),List.getElem?_eq_none (by omega)]
def Db (l:List Bool) (g:Nat × Nat):List Bool:=if l[g.1]? = some true then l.set g.2 true else l
def F8 (gs:List (Nat × Nat)) (l:List Bool):List Bool:=gs.foldl Db l
theorem GJ (l:List Bool) (g:Nat × Nat):(Db l g).length=l.length:=by
 unfold Db;split <;> simp
theorem Hr (gs:List (Nat × Nat)) (l:List Bool):(F8 gs l).length=l.length:=by
 unfold F8
 induction gs generalizing l with
 | nil=>rfl
 | cons g gs ih=>rw [List.foldl_cons,ih,GJ]
theorem Hm (l:List Bool) (g:Nat × Nat):Db l g=l\/l.count true < (Db l g).count true:=by
 unfold Db
 split
 ·by_cases h:g.2 < l.length
  ·by_cases hb:l[g.2]=true
   ·left
    rw [<-hb]
    exact List.set_getElem_self h
   ·right
    have hb':l[g.2]=false:=by simpa using hb
    rw [List.count_set h]
    rw [hb']
    simp
  ·left
   exact List.set_eq_of_length_le (by omega)
 ·exact Or.inl rfl
theorem IK (gs:List (Nat × Nat)) (l:List Bool):(F8 gs l=l/\∀ g∈gs,Db l g=l)\/l.count true < (F8 gs l).count true:=by
 unfold F8
 induction gs generalizing l with
 | nil=>exact Or.inl ⟨rfl,by simp⟩
 | cons g gs ih=>
  rw [List.foldl_cons]
  rcases Hm l g with h | h
  ·rw [h]
   rcases ih l with ⟨h1,h2⟩ | h1
   ·left
    refine ⟨h1,fun g' hg'=>?_⟩
    rcases List.mem_cons.1 hg' with rfl | hg'
    ·exact h
    ·exact h2 g' hg'
   ·exact Or.inr h1
  ·right
   rcases ih (Db l g) with ⟨h1,_⟩ | h1
   ·rw [h1];exact h
   ·omega
theorem Fi {gs:List (Nat × Nat)} {l:List Bool} (hb:∀ g∈gs,g.2 < l.length) (h:∀ g∈gs,Db l g=l):Dy gs l:=fun g hg hk=>by
 have:=h g hg
 unfold Db at this
 rw [if_pos hk] at this
 rw [<-this,List.getElem?_set_self (hb g hg)]
theorem IG {gs hs:List (Nat × Nat)} {w:Nat} {l:List Bool} (h:C2 gs w l) (hm:∀ g∈hs,g∈gs):C2 gs w (F8 hs l):=by
 unfold F8
 induction hs generalizing l with
 | nil=>exact h
 | cons g hs ih=>
  rw [List.foldl_cons]
  refine ih ?_ fun g' hg'=>hm g' (List.mem_cons_of_mem _ hg')
  unfold Db
  split
  ·rename_i hk
   exact Gk h (hm g (by simp)) hk
  ·exact h
def B3 (gs:List (Nat × Nat)):Nat->List Bool->List Bool
 | 0,l=>l
 | n+1,l=>F8 gs (B3 gs n l)
theorem Da (gs:List (Nat × Nat)) (n:Nat) (l:List Bool):(B3 gs n l).length=l.length:=by
 induction n with
 | zero=>rfl
 | succ n ih=>rw [B3,Hr,ih]
theorem GM {gs:List (Nat × Nat)} {w n:Nat} {l:List Bool} (h:C2 gs w l):C2 gs w (B3 gs n l):=by
 induction n with
 | zero=>exact h
 | succ n ih=>exact IG ih fun _ h=>h
theorem GN (gs:List (Nat × Nat)) (n:Nat) (l:List Bool) (hb:∀ g∈gs,g.2 < l.length):Dy gs (B3 gs n l)\/l.count true+n<=(B3 gs n l).count true:=by
 induction n with
 | zero=>right;simp [B3]
 | succ n ih=>
  rw [B3]
  have hb':∀ g∈gs,g.2 < (B3 gs n l).length:=by rw [Da];exact hb
  rcases IK gs (B3 gs n l) with ⟨h1,h2⟩ | h1
  ·left
   rw [h1]
   exact Fi hb' h2
  ·rcases ih with ih | ih
   ·left
    have hst:∀ g∈gs,Db (B3 gs n l) g=B3 gs n l:=fun g hg=>by
     unfold Db
     split
     ·rename_i hk
      have:=ih g hg hk
      obtain ⟨hl,he⟩:=List.getElem?_eq_some_iff.1 this
      rw [<-he]
      exact List.set_getElem_self hl
     ·rfl
    have:F8 gs (B3 gs n l)=B3 gs n l:=by
     generalize B3 gs n l=m at hst
     unfold F8
     clear h1 ih hb hb'
     induction gs with
     | nil=>rfl
     | cons g gs ih2=>
      rw [List.foldl_cons,hst g (by simp)]
      exact ih2 fun g' hg'=>hst g' (List.mem_cons_of_mem _ hg')
    rw [this]
    exact ih
   ·right;omega
theorem F7 {gs:List (Nat × Nat)} {w:Nat} {l:List Bool} (h:C2 gs w l) (hb:∀ g∈gs,g.2 < l.length):Dy gs (B3 gs l.length l):=by
 rcases GN gs l.length l hb with h1 | h1
 ·exact h1
 ·have h2:=List.count_le_length (a:=true) (l:=B3 gs l.length l)
  rw [Da] at h2
  have h3:0 < l.count true:=List.count_pos_iff.2 (List.mem_of_getElem? h.1)
  omega
def start (n w:Nat):List Bool:=(List.replicate n false).set w true
theorem DG (gs:List (Nat × Nat)) {n w:Nat} (h:w < n):C2 gs w (start n w):=by
 unfold start
 refine ⟨by rw [List.getElem?_set_self (by simpa using h)],fun k hk=>?_⟩
 rw [List.getElem?_set] at hk
 split at hk
 ·rename_i e;subst e;exact IE _ _
 ·rw [List.getElem?_replicate] at hk
  split at hk <;> cases hk
def acts (gs:List (Nat × Nat)) (n w:Nat):List Bool:=B3 gs n (start n w)
theorem Cq (n w:Nat):(start n w).length=n:=by simp [start]
theorem BM (gs:List (Nat × Nat)) (n w:Nat):(acts gs n w).length=n:=by rw [acts,Da,Cq]
theorem Jq (gs:List (Nat × Nat)) {n w:Nat} (h:w < n):C2 gs w (acts gs n w):=GM (DG gs h)
theorem It {gs:List (Nat × Nat)} {n w:Nat} (h:w < n) (hb:∀ g∈gs,g.2 < n):Dy gs (acts gs n w):=by
 have:=F7 (gs:=gs) (DG gs h) (by rw [Cq];exact hb)
 rw [Cq] at this
 exact this
theorem L7 {gs:List (Nat × Nat)} {n w:Nat} (h:w < n) (hb:∀ g∈gs,g.2 < n) {l:List Bool} (hl:l.length=n) (h1:C2 gs w l) (h2:Dy gs l):l=acts gs n w:=
 Kd h1 h2 (Jq gs h) (It h hb) (by rw [hl,BM])
theorem Aa {p:Prop} (h:p):Hx p:=h
theorem Ap {W w1:World} (hb:Ov W w1):(∀ b o,b < W.heap.size->w1.cell? ⟨b,o,none⟩=W.cell? ⟨b,o,none⟩)/\(∀ b o,b < W.heap.size->w1.frozen? ⟨b,o,none⟩=W.frozen? ⟨b,o,none⟩):=
 ⟨fun b o h=>hb.cell (p:=⟨b,o,none⟩) h,fun b o h=>hb.frozen (p:=⟨b,o,none⟩) h⟩
def BH (m x:Int):Bool:=decide (0<=x/\x < m)
theorem Gt (m x:Int) (s:Value) (w:World) :
  Calls Tryz.prog 168 #[zh #[U zd m,s],U zd x] w fun e w'=>e=zk (zg (BH m x))/\Ov w w':=by
 have hbel:Ov w (w.alloc (ze #[U zd m,s] 24)):=bA w _
 by_cases h1:(0:Int)<=x
 ·by_cases h2:x < m
  ·go_enter Tryz.func168,Tryz.ntmps168
   go_wp2
   go_ret
   exact ⟨by simp [BH];omega,hbel⟩
  ·go_enter Tryz.func168,Tryz.ntmps168
   go_wp2
   go_ret
   exact ⟨by simp [BH];omega,hbel⟩
 ·go_enter Tryz.func168,Tryz.ntmps168
  go_wp2
  go_ret
  exact ⟨by simp [BH];omega,hbel⟩
def AG (w:World) (v:Value) (gs:List (Int × Int)):Prop:=
 ∃ ao cap,v=O ao gs.length cap/\(gs≠[]->∃ b off,ao=some ⟨b,off,none⟩/\∀ i (h:i < gs.length),w.cell? ⟨b,off+i*2,none⟩=some (U zd gs[i].1)/\w.cell? ⟨b,off+i*2+1,none⟩=some (U zd gs[i].2))
theorem Af {w w':World} {v:Value} {gs:List (Int × Int)} (h:AG w v gs) (hb:Ov w w'):AG w' v gs:=by
 obtain ⟨ao,cap,rfl,hc⟩:=h
 refine ⟨ao,cap,rfl,fun hne=>?_⟩
 obtain ⟨b,off,rfl,hcl⟩:=hc hne
 refine ⟨b,off,rfl,fun i hi=>?_⟩
 obtain ⟨h1,h2⟩:=hcl i hi
 have hlt:=bL h1
 exact ⟨by rw [(Ap hb).1 _ _ hlt];exact h1,by rw [(Ap hb).1 _ _ hlt];exact h2⟩
def De (p:Int × Int->Bool) (gs:List (Int × Int)):Int:=match gs.findIdx? p with | some i=>i | none=>-1
theorem LJ {p:Int × Int->Bool} {gs:List (Int × Int)} {k:Nat} (hk:k < gs.length) (h:(gs.take k).all (fun g=>!p g)=true) (hp:p gs[k]=true):De p gs=k:=by
 have:gs.findIdx? p=some k:=by
  rw [List.findIdx?_eq_some_iff_getElem]
  refine ⟨hk,hp,fun j hj=>?_⟩
  have:=List.all_eq_true.1 h gs[j] (by rw [List.mem_take_iff_getElem];exact ⟨j,by omega,rfl⟩)
  simpa using this
 simp [De,this]
theorem I1 {p:Int × Int->Bool} {gs:List (Int × Int)} (h:gs.all (fun g=>!p g)=true):De p gs=-1:=by
 have:gs.findIdx? p=none:=by
  rw [List.findIdx?_eq_none_iff]
  intro x hx
  have:=List.all_eq_true.1 h x hx
  simpa using this
 simp [De,this]
theorem D9 (F:FuncId) (cv:Value) (p:Int × Int->Bool) (v:Value) (gs) (w:World) (hv:AG w v gs) (hn:gs.length<=20)
  (hF:Hx (∀ (i:Nat) (h:i < gs.length) (w1:World),Ov w w1->Calls Tryz.prog F #[zh #[U zd gs[i].1,U zd gs[i].2],cv] w1 fun e w2=>e=zk (zg (p gs[i]))/\Ov w1 w2))
  (hC:∀ (args:Array Value) (w:World),(callFunc F args).run Tryz.prog w=.ok (.enter F args) w) :
  Calls Tryz.prog 193 #[v,.func (.func F) #[] #[cv]] w fun e w'=>e=zk (U zd (De p gs))/\Ov w w':=by
 obtain ⟨ao,cap,rfl,hcc⟩:=hv
 go_enter Tryz.func193,Tryz.ntmps193
 go_wp2_with fail
 go_loopw [8] (fun i wr=>∃ k:Nat,k<=gs.length/\i=U zd k/\(gs.take k).all (fun g=>!p g)=true/\Ov w wr) (fun i _=>gs.length - (intOf i).toNat)
 case atStart=>exact ⟨0,Nat.zero_le _,rfl,rfl,Below.refl _ w⟩
 case round=>
  obtain ⟨k,hk,rfl,hall,hbel⟩:=hrel
  by_cases hkl:k < gs.length
  ·obtain ⟨b,off,rfl,hcl⟩:=hcc (by rintro rfl;simp at hkl)
   obtain ⟨q0,q1⟩:=hcl k hkl
   have hlt:=bL q0
   rw [<-(Ap hbel).1 _ _ hlt] at q0 q1
   have hcall:=hF.o k hkl
   have hat:=fun (hp:p gs[k]=true)=>LJ hkl hall hp
   have htk:p gs[k]=false->(gs.take (k+1)).all (fun g=>!p g)=true:=fun hp=>by
    rw [List.take_succ_eq_append_getElem hkl,List.all_append,hall]
    simp [hp]
   obtain ⟨r,hr⟩:=nm (p gs[k])
   obtain ⟨g0,hg0⟩:=nm (gs[k].1)
   obtain ⟨g1,hg1⟩:=nm (gs[k].2)
   rw [<-hr] at hcall hat htk
   rw [<-hg0] at q0 hcall
   rw [<-hg1] at q1 hcall
   have HC:=Aa hcall
   have HA:=Aa hat
   have HT:=Aa htk
   clear hr hg0 hg1 hcall hat htk hcl hcc hF
   cases r with
   | true=>
    go_wp2_with fail
    refine (HC.o _ hbel).mono ?_
    rintro e w2 ⟨rfl,hb2⟩
    have hbel2:Ov w w2:=hbel.trans (hb2.mono hbel.size)
    go_wp2_with fail
    go_ret
    exact ⟨by rw [HA.o (by first | rfl | trivial)];rfl,hbel2⟩
   | false=>
    go_wp2_with fail
    refine (HC.o _ hbel).mono ?_
    rintro e w2 ⟨rfl,hb2⟩
    have hbel2:Ov w w2:=hbel.trans (hb2.mono hbel.size)
    go_wp2_with fail
    exact ⟨⟨k+1,by omega,by go_num,HT.o (by first | rfl | trivial),hbel2⟩,by simp [intOf];omega⟩
  ·have hke:k=gs.length:=by omega
   rw [hke,List.take_length] at hall
   have hx:=I1 hall
   clear hall hcc hF
   go_wp2_with fail
   go_ret
   exact ⟨by rw [hx];rfl,hbel⟩
def F3 (m:Int) (g:Int × Int):Bool:=!BH m g.1 || !BH m g.2
def AQ (m:Int) (gs:List (Int × Int)):Int:=if 1<=m/\m<=6 then (if gs.length<=20 then (if gs.any (F3 m)=true then 5 else 0) else 2) else 3
theorem Ok (args:Array Value) (w:World):(callFunc 167 args).run Tryz.prog w=.ok (.enter 167 args) w:=by simp [go_sem]
theorem Oj (args:Array Value) (w:World):(callFunc 192 args).run Tryz.prog w=.ok (.enter 192 args) w:=by simp [go_sem]
theorem Jd (m:Int) (s:Value) (b:Nat) (g:Int × Int) (w:World) (h0:w.cell? ⟨b,0,none⟩=some (U zd m)) (h1:w.cell? ⟨b,1,none⟩=some s) :
  Calls Tryz.prog 167 #[zh #[U zd g.1,U zd g.2],zj (some ⟨b,0,none⟩)] w fun e w'=>e=zk (zg (F3 m g))/\Ov w w':=by
 obtain ⟨g0,g1⟩:=g
 have hlt:=bL h0
 have hne:b≠w.heap.size:=by have:b < w.heap.size:=hlt;omega
 simp only
 have H1:=fun w=>Gt m g0 s w
 have H2:=fun w=>Gt m g1 s w
 obtain ⟨r1,hr1⟩:=nm (BH m g0)
 obtain ⟨r2,hr2⟩:=nm (BH m g1)
 have hbad:F3 m (g0,g1)=(!r1 || !r2):=by rw [hr1,hr2];rfl
 rw [<-hr1] at H1
 rw [<-hr2] at H2
 rw [hbad]
 have K1:=Aa H1
 have K2:=Aa H2
 clear H1 H2 hr1 hr2 hbad
 have hal:Ov w (w.alloc (ze #[U zd g0,U zd g1] 169)):=bA w _
 cases r1 with
 | true=>
  go_enter Tryz.func167,Tryz.ntmps167
  go_wp2_with fail
  refine (K1.o _).mono ?_
  rintro e w1 ⟨rfl,hb1⟩
  obtain ⟨hc,hf⟩:=Ap hb1
  have hlt2:b < (w.alloc (ze #[U zd g0,U zd g1] 169)).heap.size:=by simp;exact Nat.lt_succ_of_lt hlt
  have c0:w1.cell? ⟨b,0,none⟩=some (U zd m):=by rw [hc _ _ hlt2,(Ap hal).1 _ _ hlt];exact h0
  have c1:w1.cell? ⟨b,1,none⟩=some s:=by rw [hc _ _ hlt2,(Ap hal).1 _ _ hlt];exact h1
  have e1:w1.cell? ⟨w.heap.size,1,none⟩=some (U zd g1):=by rw [hc _ _ (by simp)];simp [go_sem]
  have hbel:Ov w w1:=hal.trans (hb1.mono (by simp))
  clear hc hf hb1
  go_wp2_with fail
  refine (K2.o _).mono ?_
  rintro e w2 ⟨rfl,hb2⟩
  have hbel2:Ov w w2:=hbel.trans (hb2.mono hbel.size)
  go_wp2_with fail
  go_ret
  exact ⟨by simp,hbel2⟩
 | false=>
  go_enter Tryz.func167,Tryz.ntmps167
  go_wp2_with fail
  refine (K1.o _).mono ?_
  rintro e w1 ⟨rfl,hb1⟩
  have hbel:Ov w w1:=hal.trans (hb1.mono (by simp))
  go_wp2_with fail
  go_ret
  exact ⟨by simp,hbel⟩
theorem Mu (p:Int × Int->Bool) (gs):decide (0<=De p gs)=gs.any p:=by
 unfold De
 cases h:gs.findIdx? p with
 | none=>
  have:gs.any p=false:=by rw [List.any_eq_false];intro x hx;have:=(List.findIdx?_eq_none_iff.1 h) x hx;simpa using this
  rw [this];rfl
 | some i=>
  obtain ⟨hi,hp,_⟩:=List.findIdx?_eq_some_iff_getElem.1 h
  have:gs.any p=true:=List.any_eq_true.2 ⟨_,List.getElem_mem hi,hp⟩
  rw [this];simp
theorem EY (m:Int) (s:Value) (b:Nat) (v:Value) (gs) (w:World) (hv:AG w v gs) (hn:gs.length<=20)
  (h0:w.cell? ⟨b,0,none⟩=some (U zd m)) (h1:w.cell? ⟨b,1,none⟩=some s) :
  Calls Tryz.prog 166 #[v,.func (.func 167) #[] #[zj (some ⟨b,0,none⟩)]] w fun e w'=>e=zk (zg (gs.any (F3 m)))/\Ov w w':=by
 have hI:=D9 167 (zj (some ⟨b,0,none⟩)) (F3 m) v gs w hv hn (Aa fun i hi w1 hb=>by
  have hlt:=bL h0
  exact Jd m s b gs[i] w1 (by rw [(Ap hb).1 _ _ hlt];exact h0) (by rw [(Ap hb).1 _ _ hlt];exact h1)) Ok
 have hx:=Mu (F3 m) gs
 obtain ⟨r,hr⟩:=nm (De (F3 m) gs)
 rw [<-hr] at hI hx
 rw [<-hx]
 have HI:=Aa hI
 clear hI hx hr hv
 obtain ⟨u,hu⟩:=nm v
 go_enter Tryz.func166,Tryz.ntmps166
 go_wp2_with fail
 refine (HI.o).mono ?_
 rintro e w1 ⟨rfl,hb1⟩
 go_wp2_with fail
 go_ret
 exact ⟨by simp,hb1⟩
theorem check_any (m:Int) (v:Value) (gs) (w:World) (hv:AG w v gs) :
  Calls Tryz.prog 109 #[zh #[U zd m,v]] w fun e w'=>e=zk (U zd (AQ m gs))/\Ov w w':=by
 have hbel:Ov w (w.alloc (ze #[U zd m,v] 24)):=bA w _
 by_cases h1:m < 1
 ·have hE:AQ m gs=3:=by unfold AQ;rw [if_neg (by omega)]
  have HE:=Aa hE
  clear hE
  go_enter Tryz.func109,Tryz.ntmps109
  go_wp2_with fail
  go_ret
  exact ⟨by rw [HE.o];rfl,hbel⟩
 by_cases h6:6 < m
 ·have hE:AQ m gs=3:=by unfold AQ;rw [if_neg (by omega)]
  have HE:=Aa hE
  clear hE
  go_enter Tryz.func109,Tryz.ntmps109
  go_wp2_with fail
  go_ret
  exact ⟨by rw [HE.o];rfl,hbel⟩
 have hvo:=Af hv hbel
 obtain ⟨ao,cap,hve,-⟩:=hv
 by_cases hn:gs.length<=20
 ·have hE:AQ m gs=if gs.any (F3 m)=true then 5 else 0:=by unfold AQ;rw [if_pos (by omega),if_pos hn]
  have hC:=EY m v w.heap.size v gs (w.alloc (ze #[U zd m,v] 24)) hvo hn (by simp [go_sem]) (by simp [go_sem])
  obtain ⟨r,hr⟩:=nm (gs.any (F3 m))
  rw [<-hr] at hE hC
  subst hve
  have HE:=Aa hE
  have HC:=Aa hC
  clear hE hC hr hvo
  cases r with
  | true=>
   go_enter Tryz.func109,Tryz.ntmps109
   go_wp2_with fail
   refine (HC.o).mono ?_
   rintro e w1 ⟨rfl,hb1⟩
   have hbel1:Ov w w1:=hbel.trans (hb1.mono (by simp))
   go_wp2_with fail
   go_ret
   exact ⟨by rw [HE.o];rfl,hbel1⟩
  | false=>
   go_enter Tryz.func109,Tryz.ntmps109
   go_wp2_with fail
   refine (HC.o).mono ?_
   rintro e w1 ⟨rfl,hb1⟩
   have hbel1:Ov w w1:=hbel.trans (hb1.mono (by simp))
   go_wp2_with fail
   go_ret
   exact ⟨by rw [HE.o];rfl,hbel1⟩
 ·have hE:AQ m gs=2:=by unfold AQ;rw [if_pos (by omega),if_neg hn]
  have HE:=Aa hE
  subst hve
  clear hE hvo
  go_enter Tryz.func109,Tryz.ntmps109
  go_wp2_with fail
  go_ret
  exact ⟨by rw [HE.o];rfl,hbel⟩
def toI (g:Nat × Nat):Int × Int:=((g.1:Int),(g.2:Int))
def Cj (w:World) (kb:Nat) (l:List Bool):Prop:=∀ i (h:i < l.length),w.cell? ⟨kb,i,none⟩=some (zg l[i])/\w.frozen? ⟨kb,i,none⟩=false
theorem FG {w w':World} {kb:Nat} {l:List Bool} (h:Cj w kb l) (hb:Ov w w'):Cj w' kb l:=fun i hi=>by
 obtain ⟨h1,h2⟩:=h i hi
 have hlt:=bL h1
 exact ⟨by rw [(Ap hb).1 _ _ hlt];exact h1,by rw [(Ap hb).2 _ _ hlt];exact h2⟩
theorem Kc {w:World} {kb:Nat} {l:List Bool} (h:Cj w kb l) {j:Nat} (hj:j < l.length) (c:Bool):Cj (w.setCell ⟨kb,j,none⟩ (zg c)) kb (l.set j c):=fun i hi=>by
 have hi':i < l.length:=by simpa using hi
 obtain ⟨h1,h2⟩:=h i hi'
 refine ⟨?_,?_⟩
 ·by_cases e:j=i
  ·subst e
   rw [World.cell?_setCell_same _ _ _ h1]
   simp
  ·rw [World.cell?_setCell_other _ _ _ _ (by intro h;exact e (by injection h)),List.getElem_set_ne e]
   exact h1
 ·rw [World.frozen?_setCell]
  exact h2
def DA (l:List Bool) (g:Int × Int):Bool:=(l[g.1.toNat]?.getD false) && !(l[g.2.toNat]?.getD false)
theorem Kb (kp kb:Nat) (l:List Bool) (g:Nat × Nat) (w:World) (hl:l.length<=6) (hkp:w.cell? ⟨kp,0,none⟩=some (O (some ⟨kb,0,none⟩) l.length l.length)) (hk:Cj w kb l)
  (h0:g.1 < l.length) (h1:g.2 < l.length) :
  Calls Tryz.prog 192 #[zh #[U zd (toI g).1,U zd (toI g).2],zj (some ⟨kp,0,none⟩)] w fun e w'=>e=zk (zg (DA l (toI g)))/\Ov w w':=by
 obtain ⟨g0,g1⟩:=g
 simp only [toI] at h0 h1 ⊢
 have hle:DA l ((g0:Int),(g1:Int))=(l[g0] && !l[g1]):=by simp [DA,h0,h1]
 rw [hle]
 obtain ⟨c0,-⟩:=hk g0 h0
 obtain ⟨c1,-⟩:=hk g1 h1
 obtain ⟨b0,e0⟩:=nm (l[g0])
 obtain ⟨b1,e1⟩:=nm (l[g1])
 rw [<-e0] at c0
 rw [<-e1] at c1
 rw [<-e0,<-e1]
 have lt1:=bL hkp
 have lt2:=bL c0
 have hbel:Ov w (w.alloc (ze #[U zd g0,U zd g1] 169)):=bA w _
 clear e0 e1 hle hk
 cases b0 with
 | true=>
  go_enter Tryz.func192,Tryz.ntmps192
  go_wp2_with fail
  go_ret
  exact ⟨by simp,hbel⟩
 | false=>
  go_enter Tryz.func192,Tryz.ntmps192
  go_wp2_with fail
  go_ret
  exact ⟨by simp,hbel⟩
theorem Tryz.info4:(Tryz.prog.info? 4).map (fun i=>(i.zero,i.size,i.bytes))=some (some (zg false),1,1):=by kernel_rfl
theorem Dp (n:Nat) (hn:n<=6) (w:World):(Instr.makeSlice 48 (U zd n) (U zd n)).run Tryz.prog w=.ok (O (some ⟨w.heap.size,0,none⟩) n n) (w.alloc (.cells (List.replicate n (Value.bool false)).toArray 4)):=by
 cases hi:Tryz.prog.info? 4 with
 | none=>have:=Tryz.info4;rw [hi] at this;cases this
 | some i=>
  have h4:=Tryz.info4
  rw [hi] at h4
  simp only [Option.map_some,Option.some.injEq,Prod.mk.injEq] at h4
  obtain ⟨hz,h1,h2⟩:=h4
  have:=run_make (P:=Tryz.prog) w 48 4 i (zg false) Tryz.underlying48 hi hz zd zd (n:Int) (n:Int) (by omega) (by omega) (by rw [h2];omega) (by omega)
  rw [this,h1]
  simp only [Int.toNat_natCast,Nat.mul_one]
  have e:madeCells (Value.bool false).cells n=(List.replicate n (Value.bool false)).toArray:=by
   apply Array.ext
   ·simp [madeCells]
   ·intro j h1 h2
    simp [madeCells,Value.cells,Nat.mod_one]
  rw [e]
def DV (w:World) (n:Nat) (v:Value) (l:List Bool) (W:World):Prop:=
 W.cell? ⟨w.heap.size,0,none⟩=some (U zd n)/\W.cell? ⟨w.heap.size,1,none⟩=some v/\W.cell? ⟨w.heap.size+1+1,0,none⟩=some (O (some ⟨w.heap.size+1,0,none⟩) n n)/\Cj W (w.heap.size+1) l/\Ov w W
theorem DV.over {w W W':World} {n:Nat} {v:Value} {l:List Bool} (h:DV w n v l W) (hb:Ov W W'):DV w n v l W':=by
 obtain ⟨h0,h1,h2,h3,h4⟩:=h
 obtain ⟨hc,hf⟩:=Ap hb
 refine ⟨?_,?_,?_,FG h3 hb,h4.trans (hb.mono h4.size)⟩
 ·rw [hc _ _ (bL h0)];exact h0
 ·rw [hc _ _ (bL h1)];exact h1
 ·rw [hc _ _ (bL h2)];exact h2
theorem F5 {w W:World} {n:Nat} {v:Value} {l:List Bool} {gn:List (Nat × Nat)} (hn:n<=6) (h:DV w n v l W) (hl:l.length=n) (hv:AG w v (gn.map toI)) (hlen:gn.length<=20) (hb:∀ g∈gn,g.1 < n/\g.2 < n) :
  Calls Tryz.prog 193 #[v,.func (.func 192) #[] #[zj (some ⟨w.heap.size+1+1,0,none⟩)]] W fun e w'=>e=zk (U zd (De (DA l) (gn.map toI)))/\DV w n v l w':=by
 refine (D9 192 (zj (some ⟨w.heap.size+1+1,0,none⟩)) (DA l) v (gn.map toI) W (Af hv h.2.2.2.2) (by simpa using hlen) (Aa fun i hi w1 hb1=>?_) Oj).mono ?_
 ·have hi':i < gn.length:=by simpa using hi
  have hs:=h.over hb1
  have hg:=hb gn[i] (List.getElem_mem hi')
  have:=Kb (w.heap.size+1+1) (w.heap.size+1) l gn[i] w1 (by omega) (by rw [hl];exact hs.2.2.1) hs.2.2.2.1 (by omega) (by omega)
  simpa using this
 ·rintro e w' ⟨rfl,hb1⟩
  exact ⟨rfl,h.over hb1⟩
def isF:Option Value->Bool
 | some (zg false)=>true
 | _=>false
def G6 (kb n:Nat) (W:World):Nat:=(List.range n).countP fun i=>isF (W.cell? ⟨kb,i,none⟩)
theorem Gx {W:World} {kb:Nat} {l:List Bool} (h:Cj W kb l):G6 kb l.length W=l.count false:=by
 have:l=(List.range l.length).map fun i=>l[i]?.getD false:=by
  apply List.ext_getElem
  ·simp
  ·intro i h1 h2
   simp [h1]
 unfold G6
 conv=>rhs;rw [this]
 rw [List.count_eq_countP,List.countP_map]
 apply List.countP_congr
 intro i hi
 have hi':i < l.length:=by simpa using hi
 rw [(h i hi').1]
 simp only [Function.comp,hi',List.getElem?_eq_getElem,Option.getD_some]
 cases l[i] <;> simp [isF]
theorem Fh {l:List Bool} {j:Nat} (hj:j < l.length) (h:l[j]=false):(l.set j true).count false < l.count false:=by
 rw [List.count_set hj]
 have hm:0 < l.count false:=List.count_pos_iff.2 (List.mem_iff_getElem.2 ⟨j,hj,h⟩)
 simp [h]
 omega
theorem Kj (l:List Bool) (gn:List (Nat × Nat)) (n:Nat) (hl:l.length=n) (hb:∀ g∈gn,g.1 < n/\g.2 < n) :
  (De (DA l) (gn.map toI)=-1/\Dy gn l)\/∃ (k:Nat) (h:k < gn.length),De (DA l) (gn.map toI)=k/\l[gn[k].1]? = some true/\l[gn[k].2]? = some false:=by
 have hd:∀ g∈gn,DA l (toI g)=true ↔ l[g.1]? = some true/\l[g.2]? = some false:=fun g hg=>by
  obtain ⟨h0,h1⟩:=hb g hg
  have e0:l[g.1]? = some l[g.1]:=List.getElem?_eq_getElem (by omega)
  have e1:l[g.2]? = some l[g.2]:=List.getElem?_eq_getElem (by omega)
  simp only [DA,toI,Int.toNat_natCast,e0,e1,Option.getD_some,Option.some.injEq]
  cases l[g.1] <;> cases l[g.2] <;> simp
 unfold De
 cases hf:(gn.map toI).findIdx? (DA l) with
 | none=>
  left
  refine ⟨rfl,fun g hg hk=>?_⟩
  have h1:=(List.findIdx?_eq_none_iff.1 hf) (toI g) (List.mem_map_of_mem hg)
  have h2:¬ (l[g.1]? = some true/\l[g.2]? = some false):=fun h=>by rw [(hd g hg).2 h] at h1;cases h1
  have hg2:g.2 < l.length:=by have:=hb g hg;omega
  have e1:l[g.2]? = some l[g.2]:=List.getElem?_eq_getElem hg2
  rw [e1] at h2 ⊢
  cases hx:l[g.2] with
  | true=>rfl
  | false=>exact absurd ⟨hk,by rw [hx]⟩ h2
 | some k=>
  right
  obtain ⟨hi,hp,_⟩:=List.findIdx?_eq_some_iff_getElem.1 hf
  have hi':k < gn.length:=by simpa using hi
  have hp':DA l (toI gn[k])=true:=by simpa using hp
  exact ⟨k,hi',rfl,(hd _ (List.getElem_mem hi')).1 hp'⟩
theorem Iu (n who:Nat) (hn:n<=6) (hw:who < n) (v:Value) (gn:List (Nat × Nat)) (w:World) (hv:AG w v (gn.map toI)) (hlen:gn.length<=20) (hb:∀ g∈gn,g.1 < n/\g.2 < n) :
  Calls Tryz.prog 127 #[zh #[U zd n,v],U zd who] w fun e w'=>∃ kb,w.heap.size<=kb/\kb < w'.heap.size/\e=zk (O (some ⟨kb,0,none⟩) n n)/\Cj w' kb (acts gn n who)/\Ov w w':=by
 have hmk:=fun w=>Dp n hn w
 have hst:DV w n v (start n who) (((w.alloc (Obj.cells #[Value.int IntKind.i64 n,v] 24)).alloc (Obj.cells ((Array.replicate n (Value.bool false)).setIfInBounds who (Value.bool true)) 4)).alloc (Obj.cells #[Value.slice (some { block:=w.heap.size+1,off:=0 }) n n] 48)):=by
  refine ⟨by simp [go_sem],by simp [go_sem],by simp [go_sem],fun i hi=>?_,?_⟩
  ·have hi':i < n:=by simpa [start] using hi
   refine ⟨?_,by simp [go_sem]⟩
   simp [go_sem,start,List.getElem_set,hi']
   by_cases e:who=i
   ·simp [e]
   ·simp [e,hi']
  ·exact ((bA w _).alloc (by simp) _).alloc (by simp;omega) _
 have HI:=Aa (F5 hn hst (Cq n who) hv hlen hb)
 clear hst
 go_enter Tryz.func127,Tryz.ntmps127
 go_wp2_with fail
 refine (HI.o).mono ?_
 rintro e w1 ⟨rfl,hst⟩
 clear HI hmk
 go_wp2_with fail
 go_loopw [7] (fun i wr=>∃ l:List Bool,l.length=n/\C2 gn who l/\i=U zd (De (DA l) (gn.map toI))/\DV w n v l wr) (fun _ wr=>G6 (w.heap.size+1) n wr)
 case atStart=>exact ⟨_,Cq n who,DG gn hw,rfl,hst⟩
 case round=>
  obtain ⟨l,hl,hsd,rfl,hst2⟩:=hrel
  clear hst
  rcases Kj l gn n hl hb with ⟨hi,hcl⟩ | ⟨k,hk,hi,hkt,hkf⟩
  ·have he:l=acts gn n who:=L7 hw (fun g hg=>(hb g hg).2) hl hsd hcl
   rw [hi]
   obtain ⟨s0,s1,s2,s3,s4⟩:=hst2
   have hz:=bL s2
   have hz':w.heap.size+1 < wr.heap.size:=by have:w.heap.size+1+1 < wr.heap.size:=hz;omega
   rw [he] at s3
   clear hcl hsd he hi
   go_wp2_with fail
   go_ret
   exact ⟨w.heap.size+1,by omega,hz',rfl,s3,s4⟩
  ·obtain ⟨hg1,hg2⟩:=hb _ (List.getElem_mem hk)
   have hs1:=hst2
   obtain ⟨s0,s1,s2,s3,s4⟩:=hst2
   obtain ⟨ao,cap,hve,hcc⟩:=hv
   rw [List.length_map] at hve
   subst hve
   obtain ⟨b,off,rfl,hcl⟩:=hcc (by intro h;rw [List.map_eq_nil_iff] at h;rw [h] at hk;simp at hk)
   obtain ⟨q0,q1⟩:=hcl k (by simpa using hk)
   have hlt:=bL q0
   rw [<-(Ap s4).1 _ _ hlt] at q0 q1
   simp only [List.getElem_map,toI] at q0 q1
   obtain ⟨d1,d2⟩:=s3 gn[k].2 (by omega)
   have hfal:l[gn[k].2]=false:=by have:=hkf;rw [List.getElem?_eq_getElem (by omega)] at this;exact Option.some.inj this
   rw [hfal] at d1
   obtain ⟨gw,hgw⟩:=nm (gn[k].1)
   obtain ⟨gf,hgf⟩:=nm (gn[k].2)
   simp only [<-hgw,<-hgf] at q0 q1 d1 d2 hg1 hg2 hkt hkf hfal
   rw [hi]
   have hset:=Kc (w:=wr.drew) s3 (j:=gf) (by omega) true
   have hsn:C2 gn who (l.set gf true):=by rw [hgf];exact Gk hsd (List.getElem_mem hk) (by rw [<-hgw];exact hkt)
   have hln:(l.set gf true).length=n:=by simpa using hl
   have hlm:G6 (w.heap.size+1) n wr=l.count false:=by rw [<-hl];exact Gx s3
   have hct:=Fh (l:=l) (j:=gf) (by omega) hfal
   have hst3:DV w n (O (some ⟨b,off,none⟩) gn.length cap) (l.set gf true) (wr.drew.setCell ⟨w.heap.size+1,gf,none⟩ (zg true)):=by
    refine ⟨?_,?_,?_,hset,(below_drewN s4 1).setCell (by simp) _⟩
    ·rw [World.cell?_setCell_other _ _ _ _ (by simp)];exact s0
    ·rw [World.cell?_setCell_other _ _ _ _ (by simp)];exact s1
    ·rw [World.cell?_setCell_other _ _ _ _ (by simp)];exact s2
   have hv':AG w (O (some ⟨b,off,none⟩) gn.length cap) (gn.map toI):=⟨_,_,by rw [List.length_map],hcc⟩
   have HI:=Aa (F5 hn hst3 hln hv' hlen hb)
   obtain ⟨t0,t1,t2,-,-⟩:=hst3
   have HS:=Aa hsn
   clear hcl hcc hset hsn hsd hs1 hv' s3 hkt hkf hfal hgw hgf hb q0
   go_wp2_with fail
   go_region
   go_wp2_with fail
   refine (HI.o).mono ?_
   rintro e w2 ⟨rfl,hst4⟩
   clear HI
   go_wp2_with fail
   refine ⟨⟨l.set gf true,hln,HS.o,rfl,hst4⟩,?_⟩
   have h1:=Gx hst4.2.2.2.1
   rw [hln] at h1
   omega
def AB (gs:List (Int × Int)):List (Nat × Nat):=gs.map fun g=>(g.1.toNat,g.2.toNat)
theorem DQ {m:Int} {gs:List (Int × Int)} (h:AQ m gs=0):∃ n:Nat,m=n/\1<=n/\n<=6/\(AB gs).map toI=gs/\(AB gs).length<=20/\∀ g∈AB gs,g.1 < n/\g.2 < n:=by
 unfold AQ at h
 split at h
 ·split at h
  ·split at h
   ·cases h
   ·rename_i hm hl hb
    have hb':∀ g∈gs,BH m g.1=true/\BH m g.2=true:=fun g hg=>by
     have h1:¬ F3 m g=true:=fun hh=>hb (List.any_eq_true.2 ⟨g,hg,hh⟩)
     simp [F3] at h1
     exact h1
    refine ⟨m.toNat,by omega,by omega,by omega,?_,by simpa [AB] using hl,fun g hg=>?_⟩
    ·unfold AB
     rw [List.map_map]
     conv=>rhs;rw [<-List.map_id gs]
     apply List.map_congr_left
     intro g hg
     obtain ⟨h1,h2⟩:=hb' g hg
     simp [BH] at h1 h2
     simp only [Function.comp,toI,id]
     ext <;> simp <;> omega
    ·obtain ⟨g',hg',rfl⟩:=List.mem_map.1 hg
     obtain ⟨h1,h2⟩:=hb' g' hg'
     simp [BH] at h1 h2
     simp only
     omega
  ·cases h
 ·cases h
theorem Tryz.info35:(Tryz.prog.info? 48).map (fun i=>(i.zero,i.size,i.bytes))=some (some (O none 0 0),1,24):=by kernel_rfl
theorem NW (n:Nat) (hn:n<=6) (w:World):(Instr.makeSlice 137 (U zd n) (U zd n)).run Tryz.prog w=.ok (O (some ⟨w.heap.size,0,none⟩) n n) (w.alloc (.cells (List.replicate n (Value.slice none 0 0)).toArray 48)):=by
 cases hi:Tryz.prog.info? 48 with
 | none=>have:=Tryz.info35;rw [hi] at this;cases this
 | some i=>
  have h4:=Tryz.info35
  rw [hi] at h4
  simp only [Option.map_some,Option.some.injEq,Prod.mk.injEq] at h4
  obtain ⟨hz,h1,h2⟩:=h4
  have:=run_make (P:=Tryz.prog) w 137 48 i (O none 0 0) Tryz.underlying137 hi hz zd zd (n:Int) (n:Int) (by omega) (by omega) (by rw [h2];omega) (by omega)
  rw [this,h1]
  simp only [Int.toNat_natCast,Nat.mul_one]
  have e:madeCells (Value.slice none 0 0).cells n=(List.replicate n (Value.slice none 0 0)).toArray:=by
   apply Array.ext
   ·simp [madeCells]
   ·intro j h1 h2
    simp [madeCells,Value.cells,Nat.mod_one]
  rw [e]
def CC (W:World) (ob n:Nat) (gn:List (Nat × Nat)) (k:Nat):Prop:=∀ i,i < k->∃ kb,kb≠ob/\W.cell? ⟨ob,i,none⟩=some (O (some ⟨kb,0,none⟩) n n)/\Cj W kb (acts gn n i)
theorem DZ {W W':World} {ob n k:Nat} {gn:List (Nat × Nat)} (h:CC W ob n gn k) (hb:Ov W W'):CC W' ob n gn k:=fun i hi=>by
 obtain ⟨kb,h1,h2,h3⟩:=h i hi
 exact ⟨kb,h1,by rw [(Ap hb).1 _ _ (bL h2)];exact h2,FG h3 hb⟩
theorem Fb {w:World} {kb:Nat} {l:List Bool} (h:Cj w kb l) {p:Addr} (hp:p.block≠kb) (u:Value):Cj (w.setCell p u) kb l:=fun i hi=>by
 obtain ⟨h1,h2⟩:=h i hi
 refine ⟨?_,?_⟩
 ·rw [World.cell?_setCell_other _ _ _ _ (by intro h;exact hp (by rw [h]))]
  exact h1
 ·rw [World.frozen?_setCell]
  exact h2
theorem Lt {W:World} {ob n k kb:Nat} {gn:List (Nat × Nat)} (h:CC W ob n gn k) {u:Value} (hu:W.cell? ⟨ob,k,none⟩=some u) (hkb:kb≠ob) (hk:Cj W kb (acts gn n k)) :
  CC (W.setCell ⟨ob,k,none⟩ (O (some ⟨kb,0,none⟩) n n)) ob n gn (k+1):=fun i hi=>by
 by_cases e:i=k
 ·subst e
  exact ⟨kb,hkb,World.cell?_setCell_same _ _ _ hu,Fb hk (fun h=>hkb h.symm) _⟩
 ·obtain ⟨kc,h1,h2,h3⟩:=h i (by omega)
  refine ⟨kc,h1,?_,Fb h3 (fun h=>h1 h.symm) _⟩
  rw [World.cell?_setCell_other _ _ _ _ (by intro h;injection h with _ h;exact e h.symm)]
  exact h2
def Iw (W:World) (ob n:Nat):Prop:=∀ i,i < n->(∃ u,W.cell? ⟨ob,i,none⟩=some u)/\W.frozen? ⟨ob,i,none⟩=false
theorem Iz {W W':World} {ob n:Nat} (h:Iw W ob n) (hb:Ov W W'):Iw W' ob n:=fun i hi=>by
 obtain ⟨⟨u,h1⟩,h2⟩:=h i hi
 have hlt:=bL h1
 exact ⟨⟨u,by rw [(Ap hb).1 _ _ hlt];exact h1⟩,by rw [(Ap hb).2 _ _ hlt];exact h2⟩
theorem JV {W:World} {ob n k:Nat} (h:Iw W ob n) (hk:k < n) (v:Value):Iw (W.setCell ⟨ob,k,none⟩ v) ob n:=fun i hi=>by
 obtain ⟨⟨u,h1⟩,h2⟩:=h i hi
 refine ⟨?_,by rw [World.frozen?_setCell];exact h2⟩
 by_cases e:k=i
 ·subst e
  exact ⟨v,World.cell?_setCell_same _ _ _ h1⟩
 ·exact ⟨u,by rw [World.cell?_setCell_other _ _ _ _ (by intro h;injection h with _ h;exact e h)];exact h1⟩
def GC (w:World) (n:Nat) (v:Value) (gn:List (Nat × Nat)) (ob k:Nat) (W:World):Prop:=
 W.cell? ⟨w.heap.size,0,none⟩=some (U zd n)/\W.cell? ⟨w.heap.size,1,none⟩=some v/\Iw W ob n/\CC W ob n gn k/\Ov w W/\w.heap.size < ob/\ob < W.heap.size
theorem GC.over {w W W':World} {n ob k:Nat} {v:Value} {gn:List (Nat × Nat)} (h:GC w n v gn ob k W) (hb:Ov W W'):GC w n v gn ob k W':=by
 obtain ⟨h0,h1,h2,h3,h4,h5,h6⟩:=h
 obtain ⟨hc,hf⟩:=Ap hb
 refine ⟨?_,?_,Iz h2 hb,DZ h3 hb,h4.trans (hb.mono h4.size),h5,Nat.lt_of_lt_of_le h6 hb.size⟩
 ·rw [hc _ _ (bL h0)];exact h0
 ·rw [hc _ _ (bL h1)];exact h1
theorem LN (n:Nat) (h1:1<=n) (hn:n<=6) (v:Value) (gn:List (Nat × Nat)) (w:World) (hv:AG w v (gn.map toI)) (hlen:gn.length<=20) (hb:∀ g∈gn,g.1 < n/\g.2 < n) (hE:AQ n (gn.map toI)=0) :
  Calls Tryz.prog 69 #[zh #[U zd n,v]] w fun e w'=>∃ ob,e=zk (zm #[O (some ⟨ob,0,none⟩) n n,U zd 0])/\CC w' ob n gn n/\Ov w w':=by
 have hmk:=fun w=>NW n hn w
 have hbel:Ov w (w.alloc (ze #[U zd n,v] 24)):=bA w _
 have hC:=check_any n v (gn.map toI) (w.alloc (ze #[U zd n,v] 24)) (Af hv hbel)
 rw [hE] at hC
 have HC:=Aa hC
 have HA:=Aa fun (who:Nat) (hw:who < n) (W:World) (hW:Ov w W)=>Iu n who hn hw v gn W (Af hv hW) hlen hb
 clear hC hE hv
 go_enter Tryz.func69,Tryz.ntmps69
 go_wp2_with fail
 refine (HC.o).mono ?_
 rintro e w1 ⟨rfl,hb1⟩
 obtain ⟨hc,hf⟩:=Ap hb1
 have c0:w1.cell? ⟨w.heap.size,0,none⟩=some (U zd n):=by rw [hc _ _ (by simp)];simp [go_sem]
 have c1:w1.cell? ⟨w.heap.size,1,none⟩=some v:=by rw [hc _ _ (by simp)];simp [go_sem]
 have hbel1:Ov w w1:=hbel.trans (hb1.mono (by simp))
 have hz:w.heap.size < w1.heap.size:=bL c0
 have hst:GC w n v gn w1.heap.size 0 (w1.alloc (.cells (List.replicate n (Value.slice none 0 0)).toArray 48)):=by
  have hal:Ov w1 (w1.alloc (.cells (List.replicate n (Value.slice none 0 0)).toArray 48)):=bA w1 _
  refine ⟨?_,?_,fun i hi=>⟨⟨O none 0 0,by simp [go_sem,hi]⟩,by simp [go_sem]⟩,fun i hi=>absurd hi (Nat.not_lt_zero _),hbel1.trans (hal.mono (by omega)),hz,by simp⟩
  ·rw [(Ap hal).1 _ _ hz];exact c0
  ·rw [(Ap hal).1 _ _ hz];exact c1
 clear HC hc hf hb1 hbel
 go_wp2_with fail
 go_loopw [17] (fun i wr=>∃ k:Nat,k<=n/\i=U zd k/\GC w n v gn w1.heap.size k wr) (fun i _=>n - (intOf i).toNat)
 case atStart=>exact ⟨0,Nat.zero_le _,rfl,by simpa using hst⟩
 case round=>
  clear hst hmk c0 c1
  obtain ⟨k,hk,rfl,hs1⟩:=hrel
  by_cases hkn:k < n
  ·have HS:=Aa hs1
   obtain ⟨s0,s1,-,-,s4,-,s6⟩:=hs1
   go_wp2_with fail
   refine (HA.o k hkn _ s4).mono ?_
   rintro e w2 ⟨kb,hkb,hkb2,rfl,hkn2,hb2⟩
   have hs2:=HS.o.over hb2
   clear s0 s1 s4
   obtain ⟨⟨u,d1⟩,d2⟩:=hs2.2.2.1 k hkn
   have hne:kb≠w1.heap.size:=by omega
   have hs3:GC w n v gn w1.heap.size (k+1) (w2.setCell ⟨w1.heap.size,k,none⟩ (O (some ⟨kb,0,none⟩) n n)):=by
    obtain ⟨r0,r1,r2,r3,r4,r5,r6⟩:=hs2
    refine ⟨?_,?_,JV r2 hkn _,Lt r3 d1 hne hkn2,r4.setCell (by simp;omega) _,r5,by simpa using r6⟩
    ·rw [World.cell?_setCell_other _ _ _ _ (by simp)];exact r0
    ·rw [World.cell?_setCell_other _ _ _ _ (by simp)];exact r1
   clear hs2 HS hkn2
   go_wp2_with fail
   exact ⟨⟨k+1,by omega,by go_num,hs3⟩,by simp [intOf];omega⟩
  ·have hke:k=n:=by omega
   subst hke
   obtain ⟨-,-,-,s3,s4,-,-⟩:=hs1
   go_wp2_with fail
   go_ret2
   exact ⟨w1.heap.size,rfl,s3,s4⟩
def AP (w:World) (v:Value) (l:List Bool):Prop:=
 ∃ ao cap,v=O ao l.length cap/\(l≠[]->∃ b off,ao=some ⟨b,off,none⟩/\∀ i (h:i < l.length),w.cell? ⟨b,off+i,none⟩=some (zg l[i]))
theorem Ax {w w':World} {v:Value} {l:List Bool} (h:AP w v l) (hb:Ov w w'):AP w' v l:=by
 obtain ⟨ao,cap,rfl,hc⟩:=h
 refine ⟨ao,cap,rfl,fun hne=>?_⟩
 obtain ⟨b,off,rfl,hcl⟩:=hc hne
 refine ⟨b,off,rfl,fun i hi=>?_⟩
 have h1:=hcl i hi
 rw [(Ap hb).1 _ _ (bL h1)]
 exact h1
theorem D7 {w:World} {v:Value} {l:List Bool} (h:AP w v l) (n:Nat):AP (w.drewN n) v l:=h
theorem FK {w:World} {v:Value} {l:List Bool} (h:AP w v l) {i:Nat} (hi:i < l.length):∃ b off cap,v=O (some ⟨b,off,none⟩) l.length cap/\w.cell? ⟨b,off+i,none⟩=some (zg l[i]):=by
 obtain ⟨ao,cap,rfl,hc⟩:=h
 obtain ⟨b,off,rfl,hcl⟩:=hc (by rintro rfl;simp at hi)
 exact ⟨b,off,cap,rfl,hcl i hi⟩
theorem GH {a b:List Bool} {k:Nat} (hka:k < a.length) (hkb:k < b.length) (hne:a[k]≠b[k]):a≠b:=by
 rintro rfl
 exact hne rfl
theorem BE (va vb:Value) (a b:List Bool) (w:World) (ha:AP w va a) (hb:AP w vb b) (hla:a.length<=9223372036854775807) :
  Calls Tryz.prog 43 #[va,vb] w fun e w'=>e=zk (zg (decide (a=b)))/\∃ n,w'=w.drewN n:=by
 have HA:=Aa ha
 have HB:=Aa hb
 obtain ⟨ao,ca,rfl,-⟩:=ha
 obtain ⟨bo,cb,rfl,-⟩:=hb
 by_cases hl:a.length=b.length
 ·have hl2:((a.length:Int) != b.length)=false:=by simp [hl]
  have HL:=Aa hl
  clear hl
  go_enter Tryz.func43,Tryz.ntmps43
  go_wp2_with fail
  go_loopw [5] (fun i wr=>∃ k n:Nat,k<=a.length/\i=U zd k/\a.take k=b.take k/\wr=w.drewN n) (fun i _=>a.length - (intOf i).toNat)
  case atStart=>exact ⟨0,0,Nat.zero_le _,rfl,rfl,rfl⟩
  case round=>
   obtain ⟨k,n,hk,rfl,heq,rfl⟩:=hrel
   by_cases hkl:k < a.length
   ·have hkb:k < b.length:=by have:=HL.o;omega
    obtain ⟨b1,o1,c1,e1,q1⟩:=FK HA.o hkl
    obtain ⟨b2,o2,c2,e2,q2⟩:=FK HB.o hkb
    injection e1 with e1a e1b e1c
    injection e2 with e2a e2b e2c
    subst e1a e1c e2a e2c
    have htk:a[k]=b[k]->a.take (k+1)=b.take (k+1):=fun h=>by
     rw [List.take_succ_eq_append_getElem hkl,List.take_succ_eq_append_getElem hkb,heq,h]
    have hne:a[k]≠b[k]->decide (a=b)=false:=fun h=>decide_eq_false (GH hkl hkb h)
    obtain ⟨x,hx⟩:=nm (a[k])
    obtain ⟨y,hy⟩:=nm (b[k])
    rw [<-hx] at q1
    rw [<-hy] at q2
    rw [<-hx,<-hy] at htk hne
    have HT:=Aa htk
    have HN:=Aa hne
    clear htk hne heq hx hy e1b e2b
    cases x <;> cases y
    all_goals go_wp2_with fail
    all_goals go_region
    all_goals go_wp2_with fail
    all_goals first
     | exact ⟨⟨k+1,n+1,by omega,by go_num,HT.o (by first | rfl | trivial),by first | rfl | trivial⟩,by simp [intOf];omega⟩
     | (go_ret;exact ⟨by rw [HN.o (by decide)];rfl,n+1,rfl⟩)
   ·have hke:k=a.length:=by omega
    have hab:a=b:=by
     have h2:k=b.length:=by have:=HL.o;omega
     rw [hke,List.take_length] at heq
     rw [heq,<-hke,h2,List.take_length]
    have hd:decide (a=b)=true:=decide_eq_true hab
    have HD:=Aa hd
    clear hd hab heq
    go_wp2_with fail
    go_ret
    exact ⟨by rw [HD.o];rfl,n,rfl⟩
 ·have hl2:((a.length:Int) != b.length)=true:=by simp;omega
  have hd:decide (a=b)=false:=decide_eq_false (fun h=>hl (by rw [h]))
  rw [hd]
  clear hd
  go_enter Tryz.func43,Tryz.ntmps43
  go_wp2_with fail
  go_ret
  exact ⟨rfl,0,rfl⟩
structure Lev where
 r:List Bool
 w:List Bool
def A7 (W:World) (v:Value) (l:Lev):Prop:=∃ vr vw,v=zh #[vr,vw]/\AP W vr l.r/\AP W vw l.w
theorem Aw {W W':World} {v:Value} {l:Lev} (h:A7 W v l) (hb:Ov W W'):A7 W' v l:=by
 obtain ⟨vr,vw,rfl,h1,h2⟩:=h
 exact ⟨vr,vw,rfl,Ax h1 hb,Ax h2 hb⟩
def Eo (l m:Lev):Bool:=decide (l.r=m.r) && decide (l.w=m.w)
def Lev.small (l:Lev):Prop:=l.r.length<=9223372036854775807/\l.w.length<=9223372036854775807
theorem C9 (vl vm:Value) (l m) (w:World) (hl:A7 w vl l) (hm:A7 w vm m) (hs:l.small) :
  Calls Tryz.prog 42 #[vl,vm] w fun e w'=>e=zk (zg (Eo l m))/\Ov w w':=by
 obtain ⟨r1,w1,rfl,hr1,hw1⟩:=hl
 obtain ⟨r2,w2,rfl,hr2,hw2⟩:=hm
 have hbel:Ov w ((w.alloc (ze #[r1,w1] 50)).alloc (ze #[r2,w2] 50)):=(bA w _).alloc (by simp) _
 have hS:=BE r1 r2 l.r m.r _ (Ax hr1 hbel) (Ax hr2 hbel) hs.1
 have hT:=fun n=>BE w1 w2 l.w m.w (((w.alloc (ze #[r1,w1] 50)).alloc (ze #[r2,w2] 50)).drewN n) (D7 (Ax hw1 hbel) n) (D7 (Ax hw2 hbel) n) hs.2
 have hx:Eo l m=(decide (l.r=m.r) && decide (l.w=m.w)):=rfl
 obtain ⟨x,hxe⟩:=nm (decide (l.r=m.r))
 obtain ⟨y,hye⟩:=nm (decide (l.w=m.w))
 rw [<-hxe] at hS hx
 rw [<-hye] at hT hx
 rw [hx]
 have KS:=Aa hS
 have KT:=Aa hT
 clear hS hT hxe hye hx hr1 hr2 hw1 hw2
 cases x with
 | false=>
  go_enter Tryz.func42,Tryz.ntmps42
  go_wp2_with fail
  refine (KS.o).mono ?_
  rintro e w3 ⟨rfl,n,rfl⟩
  go_wp2_with fail
  go_ret
  exact ⟨by simp,below_drewN hbel n⟩
 | true=>
  go_enter Tryz.func42,Tryz.ntmps42
  go_wp2_with fail
  refine (KS.o).mono ?_
  rintro e w3 ⟨rfl,n,rfl⟩
  go_wp2_with fail
  refine (KT.o n).mono ?_
  rintro e w4 ⟨rfl,k,rfl⟩
  go_wp2_with fail
  go_ret
  exact ⟨by simp,below_drewN hbel (n+k)⟩
def Cl (m:Int) (l:Lev):Int:=if (l.r.length:Int)=m/\(l.w.length:Int)=m then 0 else 1
def NU (l m:Lev) (i:Nat):Bool:=!((m.r[i]?.getD false && !(l.r[i]?.getD false)) || (l.w[i]?.getD false && !(m.w[i]?.getD false)))
def Ay (l m:Lev) (n:Nat):Bool:=(List.range n).all (NU l m)
theorem AK {l m:Lev} {n:Nat}:Ay l m n=true ↔ ∀ i,i < n->(m.r[i]?.getD false=true->l.r[i]?.getD false=true)/\(l.w[i]?.getD false=true->m.w[i]?.getD false=true):=by
 unfold Ay
 rw [List.all_eq_true]
 constructor
 ·intro h i hi
  have:=h i (List.mem_range.2 hi)
  unfold NU at this
  revert this
  cases m.r[i]?.getD false <;> cases l.r[i]?.getD false <;> cases l.w[i]?.getD false <;> cases m.w[i]?.getD false <;> simp
 ·intro h i hi
  have:=h i (List.mem_range.1 hi)
  unfold NU
  revert this
  cases m.r[i]?.getD false <;> cases l.r[i]?.getD false <;> cases l.w[i]?.getD false <;> cases m.w[i]?.getD false <;> simp
theorem Cn {w:World} {v:Value} {l:List Bool} {n:Nat} (h:AP w v l) (hl:l.length=n) (h1:1<=n) :
  ∃ b off cap,v=O (some ⟨b,off,none⟩) n cap/\∀ i,i < n->w.cell? ⟨b,off+i,none⟩=some (zg (l[i]?.getD false)):=by
 obtain ⟨ao,cap,rfl,hc⟩:=h
 obtain ⟨b,off,rfl,hcl⟩:=hc (by rintro rfl;simp at hl;omega)
 refine ⟨b,off,cap,by rw [hl],fun i hi=>?_⟩
 have hi':i < l.length:=by omega
 rw [hcl i hi']
 simp [hi']
def Lev.len (l:Lev) (n:Nat):Prop:=l.r.length=n/\l.w.length=n
def AL (w:World) (v:Value) (l:List Int):Prop:=
 ∃ ao cap,v=O ao l.length cap/\(l≠[]->∃ b off,ao=some ⟨b,off,none⟩/\∀ i (h:i < l.length),w.cell? ⟨b,off+i,none⟩=some (U zd l[i]))
theorem BF {w w':World} {v:Value} {l:List Int} (h:AL w v l) (hb:Ov w w'):AL w' v l:=by
 obtain ⟨ao,cap,rfl,hc⟩:=h
 refine ⟨ao,cap,rfl,fun hne=>?_⟩
 obtain ⟨b,off,rfl,hcl⟩:=hc hne
 refine ⟨b,off,rfl,fun i hi=>?_⟩
 have h1:=hcl i hi
 rw [(Ap hb).1 _ _ (bL h1)]
 exact h1
structure Pol where
 owner:Int
 names:List Int
def AI (w:World) (v:Value) (ps:List Pol):Prop:=
 ∃ ao cap,v=O ao ps.length cap/\(ps≠[]->∃ b off,ao=some ⟨b,off,none⟩/\∀ i (h:i < ps.length),w.cell? ⟨b,off+i*2,none⟩=some (U zd ps[i].owner)/\∃ nv,w.cell? ⟨b,off+i*2+1,none⟩=some nv/\AL w nv ps[i].names)
theorem Ah {w w':World} {v:Value} {ps:List Pol} (h:AI w v ps) (hb:Ov w w'):AI w' v ps:=by
 obtain ⟨ao,cap,rfl,hc⟩:=h
 refine ⟨ao,cap,rfl,fun hne=>?_⟩
 obtain ⟨b,off,rfl,hcl⟩:=hc hne
 refine ⟨b,off,rfl,fun i hi=>?_⟩
 obtain ⟨h1,nv,h2,h3⟩:=hcl i hi
 exact ⟨by rw [(Ap hb).1 _ _ (bL h1)];exact h1,nv,by rw [(Ap hb).1 _ _ (bL h2)];exact h2,BF h3 hb⟩
def DD (gn:List (Nat × Nat)) (n who:Nat) (x:Int):Bool:=(acts gn n who)[x.toNat]?.getD false
def Pk (gn:List (Nat × Nat)) (n who:Nat) (p:Pol):Bool:=DD gn n who p.owner || p.names.any (DD gn n who)
def ES (gn:List (Nat × Nat)) (n who:Nat) (ps:List Pol):Bool:=ps.all (Pk gn n who)
def Er (n:Nat) (p:Pol):Prop:=(0<=p.owner/\p.owner < n)/\p.names.length<=6/\∀ x∈p.names,0<=x/\x < (n:Int)
theorem N0 {w w0 w1:World} {b0 o0 b1 o1 b2 o2:Nat} {v0 v1 v2:Value} (h:w0.cell? ⟨b0,o0,none⟩=some v0/\w0.cell? ⟨b1,o1,none⟩=some v1/\w0.cell? ⟨b2,o2,none⟩=some v2/\Ov w w0)
  (hb:Ov w0 w1):w1.cell? ⟨b0,o0,none⟩=some v0/\w1.cell? ⟨b1,o1,none⟩=some v1/\w1.cell? ⟨b2,o2,none⟩=some v2/\Ov w w1:=by
 obtain ⟨h0,h1,h2,hB⟩:=h
 obtain ⟨hc,hf⟩:=Ap hb
 refine ⟨?_,?_,?_,hB.trans (hb.mono hB.size)⟩
 ·rw [hc _ _ (bL h0)];exact h0
 ·rw [hc _ _ (bL h1)];exact h1
 ·rw [hc _ _ (bL h2)];exact h2
def DI:List Int->Bool
 | x::y::l=>decide (x < y) && DI (y::l)
 | _=>true
def CV (m:Int) (p:Pol):Int:=
 if BH m p.owner=true then (if p.names.length<=6 then (if p.names.all (BH m)=true then (if DI p.names=true then 0 else 4) else 5) else 2) else 5
def Cg (m:Int):List Pol->Int
 | []=>0
 | p::ps=>if CV m p=0 then Cg m ps else CV m p
def Ci (m:Int) (ps:List Pol):Int:=if ps.length<=4 then Cg m ps else 2
theorem Ge {m:Int} {ps:List Pol} {k:Nat} (hk:k < ps.length):Cg m (ps.drop k)=if CV m ps[k]=0 then Cg m (ps.drop (k+1)) else CV m ps[k]:=by
 rw [List.drop_eq_getElem_cons hk]
 rfl
theorem Gm (l:List Int):DI l=true ↔ ∀ i (h:i+1 < l.length),l[i] < l[i+1]:=by
 induction l with
 | nil=>simp [DI]
 | cons x l ih=>
  cases l with
  | nil=>simp [DI]
  | cons y l=>
   simp only [DI,Bool.and_eq_true,decide_eq_true_eq,ih]
   constructor
   ·rintro ⟨h1,h2⟩ i hi
    cases i with
    | zero=>exact h1
    | succ i=>exact h2 i (by simpa using hi)
   ·intro h
    exact ⟨h 0 (by simp),fun i hi=>h (i+1) (by simpa using hi)⟩
def H8 (p:Int->Bool) (l:List Int):Int:=match l.findIdx? p with | some i=>i | none=>-1
theorem Mv {p:Int->Bool} {l:List Int} {k:Nat} (hk:k < l.length) (h:(l.take k).all (fun g=>!p g)=true) (hp:p l[k]=true):H8 p l=k:=by
 have:l.findIdx? p=some k:=by
  rw [List.findIdx?_eq_some_iff_getElem]
  refine ⟨hk,hp,fun j hj=>?_⟩
  have:=List.all_eq_true.1 h l[j] (by rw [List.mem_take_iff_getElem];exact ⟨j,by omega,rfl⟩)
  simpa using this
 simp [H8,this]
theorem Kk {p:Int->Bool} {l:List Int} (h:l.all (fun g=>!p g)=true):H8 p l=-1:=by
 have:l.findIdx? p=none:=by
  rw [List.findIdx?_eq_none_iff]
  intro x hx
  have:=List.all_eq_true.1 h x hx
  simpa using this
 simp [H8,this]
theorem LK (p:Int->Bool) (l):decide (0<=H8 p l)=l.any p:=by
 unfold H8
 cases h:l.findIdx? p with
 | none=>
  have:l.any p=false:=by rw [List.any_eq_false];intro x hx;have:=(List.findIdx?_eq_none_iff.1 h) x hx;simpa using this
  rw [this];rfl
 | some i=>
  obtain ⟨hi,hp,_⟩:=List.findIdx?_eq_some_iff_getElem.1 h
  have:l.any p=true:=List.any_eq_true.2 ⟨_,List.getElem_mem hi,hp⟩
  rw [this];simp
theorem GV (F:FuncId) (cv:Value) (p:Int->Bool) (v:Value) (l) (w:World) (hv:AL w v l) (hn:l.length<=6)
  (hF:Hx (∀ (i:Nat) (h:i < l.length) (w1:World),Ov w w1->Calls Tryz.prog F #[U zd l[i],cv] w1 fun e w2=>e=zk (zg (p l[i]))/\Ov w1 w2))
  (hC:∀ (args:Array Value) (w:World),(callFunc F args).run Tryz.prog w=.ok (.enter F args) w) :
  Calls Tryz.prog 190 #[v,.func (.func F) #[] #[cv]] w fun e w'=>e=zk (U zd (H8 p l))/\Ov w w':=by
 obtain ⟨ao,cap,rfl,hcc⟩:=hv
 go_enter Tryz.func190,Tryz.ntmps190
 go_wp2_with fail
 go_loopw [8] (fun i wr=>∃ k:Nat,k<=l.length/\i=U zd k/\(l.take k).all (fun g=>!p g)=true/\Ov w wr) (fun i _=>l.length - (intOf i).toNat)
 case atStart=>exact ⟨0,Nat.zero_le _,rfl,rfl,Below.refl _ w⟩
 case round=>
  obtain ⟨k,hk,rfl,hall,hbel⟩:=hrel
  by_cases hkl:k < l.length
  ·obtain ⟨b,off,rfl,hcl⟩:=hcc (by rintro rfl;simp at hkl)
   have q0:=hcl k hkl
   have hlt:=bL q0
   rw [<-(Ap hbel).1 _ _ hlt] at q0
   have hcall:=hF.o k hkl
   have hat:=fun (hp:p l[k]=true)=>Mv hkl hall hp
   have htk:p l[k]=false->(l.take (k+1)).all (fun g=>!p g)=true:=fun hp=>by
    rw [List.take_succ_eq_append_getElem hkl,List.all_append,hall]
    simp [hp]
   obtain ⟨r,hr⟩:=nm (p l[k])
   obtain ⟨g0,hg0⟩:=nm (l[k])
   rw [<-hr] at hcall hat htk
   rw [<-hg0] at q0 hcall
   have HC:=Aa hcall
   have HA:=Aa hat
   have HT:=Aa htk
   clear hr hg0 hcall hat htk hcl hcc hF
   cases r with
   | true=>
    go_wp2_with fail
    refine (HC.o _ hbel).mono ?_
    rintro e w2 ⟨rfl,hb2⟩
    have hbel2:Ov w w2:=hbel.trans (hb2.mono hbel.size)
    go_wp2_with fail
    go_ret
    exact ⟨by rw [HA.o (by first | rfl | trivial)];rfl,hbel2⟩
   | false=>
    go_wp2_with fail
    refine (HC.o _ hbel).mono ?_
    rintro e w2 ⟨rfl,hb2⟩
    have hbel2:Ov w w2:=hbel.trans (hb2.mono hbel.size)
    go_wp2_with fail
    exact ⟨⟨k+1,by omega,by go_num,HT.o (by first | rfl | trivial),hbel2⟩,by simp [intOf];omega⟩
  ·have hke:k=l.length:=by omega
   rw [hke,List.take_length] at hall
   have hx:=Kk hall
   clear hall hcc hF
   go_wp2_with fail
   go_ret
   exact ⟨by rw [hx];rfl,hbel⟩
theorem DC (F:FuncId) (cv:Value) (p:Int->Bool) (v:Value) (l) (w:World) (hv:AL w v l) (hn:l.length<=6)
  (hF:Hx (∀ (i:Nat) (h:i < l.length) (w1:World),Ov w w1->Calls Tryz.prog F #[U zd l[i],cv] w1 fun e w2=>e=zk (zg (p l[i]))/\Ov w1 w2))
  (hC:∀ (args:Array Value) (w:World),(callFunc F args).run Tryz.prog w=.ok (.enter F args) w) :
  Calls Tryz.prog 124 #[v,.func (.func F) #[] #[cv]] w fun e w'=>e=zk (zg (l.any p))/\Ov w w':=by
 have hI:=GV F cv p v l w hv hn hF hC
 have hx:=LK p l
 obtain ⟨r,hr⟩:=nm (H8 p l)
 rw [<-hr] at hI hx
 rw [<-hx]
 have HI:=Aa hI
 clear hI hx hr hv hC hF
 obtain ⟨u,hu⟩:=nm v
 go_enter Tryz.func124,Tryz.ntmps124
 go_wp2_with fail
 refine (HI.o).mono ?_
 rintro e w1 ⟨rfl,hb1⟩
 go_wp2_with fail
 go_ret
 exact ⟨by simp,hb1⟩
theorem Od (args:Array Value) (w:World):(callFunc 213 args).run Tryz.prog w=.ok (.enter 213 args) w:=by simp [go_sem]
theorem Oe (args:Array Value) (w:World):(callFunc 128 args).run Tryz.prog w=.ok (.enter 128 args) w:=by simp [go_sem]
theorem FJ (m x:Int) (b:Nat) (w:World) (h0:w.cell? ⟨b,0,none⟩=some (U zd m)) :
  Calls Tryz.prog 213 #[U zd x,zj (some ⟨b,0,none⟩)] w fun e w'=>e=zk (zg (!BH m x))/\Ov w w':=by
 by_cases h1:x < 0
 ·have hx:BH m x=false:=by simp [BH];omega
  rw [hx]
  clear hx
  go_enter Tryz.func213,Tryz.ntmps213
  go_wp2_with fail
  go_ret
  exact ⟨by simp,Below.refl _ w⟩
 ·by_cases h2:m<=x
  ·have hx:BH m x=false:=by simp [BH];omega
   rw [hx]
   clear hx
   go_enter Tryz.func213,Tryz.ntmps213
   go_wp2_with fail
   go_ret
   exact ⟨by simp,Below.refl _ w⟩
  ·have hx:BH m x=true:=by simp [BH];omega
   rw [hx]
   clear hx
   go_enter Tryz.func213,Tryz.ntmps213
   go_wp2_with fail
   go_ret
   exact ⟨by simp,Below.refl _ w⟩
theorem Lu (v:Value) (l) (w:World) (hv:AL w v l) (hn:l.length<=6) :
  Calls Tryz.prog 214 #[v] w fun e w'=>e=zk (zg (DI l))/\Ov w w':=by
 obtain ⟨ao,cap,rfl,hcc⟩:=hv
 have HCC:=Aa hcc
 clear hcc
 go_enter Tryz.func214,Tryz.ntmps214
 go_wp2_with fail
 go_loopw [3] (fun i wr=>∃ k n:Nat,k<=6/\i=U zd ((k:Int)+1)/\(∀ j (h:j+1 < l.length),j < k->l[j] < l[j+1])/\wr=w.drewN n) (fun i _=>10 - (intOf i).toNat)
 case atStart=>exact ⟨0,0,Nat.zero_le _,rfl,fun j _ h=>absurd h (Nat.not_lt_zero _),rfl⟩
 case round=>
  obtain ⟨k,n,hk,rfl,hall,rfl⟩:=hrel
  by_cases hkl:k+1 < l.length
  ·obtain ⟨b,off,rfl,hcl⟩:=HCC.o (by rintro rfl;simp at hkl)
   have q0:=hcl k (by omega)
   have q1:=hcl (k+1) hkl
   have hnext:l[k] < l[k+1]->∀ j (h:j+1 < l.length),j < k+1->l[j] < l[j+1]:=fun h j hj hjk=>by
    by_cases e:j=k
    ·subst e;exact h
    ·exact hall j hj (by omega)
   have hstop:¬ l[k] < l[k+1]->DI l=false:=fun h=>by
    rw [Bool.eq_false_iff]
    intro hh
    exact h ((Gm l).1 hh k hkl)
   obtain ⟨x,hx⟩:=nm (l[k])
   obtain ⟨y,hy⟩:=nm (l[k+1])
   rw [<-hx] at q0
   rw [<-hy] at q1
   rw [<-hx,<-hy] at hnext hstop
   have HN:=Aa hnext
   have HS:=Aa hstop
   have k1:((k:Int)+1) < (l.length:Int):=by omega
   have a1:(0:Int)<=(k:Int)+1:=by omega
   have a2:(0:Int)<=(k:Int):=by omega
   have a3:(k:Int) < (l.length:Int):=by omega
   have q1':w.cell? ⟨b,off+(k+1),none⟩=some (U zd y):=q1
   clear hnext hstop hx hy hcl hall HCC q1
   by_cases hxy:y<=x
   ·go_wp2_with fail
    go_region
    go_wp2_with fail
    go_ret
    exact ⟨by rw [HS.o (by omega)];rfl,below_drewN (Below.refl _ w) (n+1)⟩
   ·go_wp2_with fail
    go_region
    go_wp2_with fail
    exact ⟨⟨k+1,n+1,by omega,by go_num,HN.o (by omega),by first | rfl | trivial⟩,by simp [intOf];omega⟩
  ·have hr:DI l=true:=(Gm l).2 fun j hj=>hall j hj (by omega)
   have HR:=Aa hr
   have k1:¬ ((k:Int)+1) < (l.length:Int):=by omega
   clear hr hall HCC
   go_wp2_with fail
   go_ret
   exact ⟨by rw [HR.o];rfl,below_drewN (Below.refl _ w) n⟩
theorem Fj (m:Int) (s:Value) (p:Pol) (nv:Value) (w:World) (hp:AL w nv p.names) :
  Calls Tryz.prog 169 #[zh #[U zd m,s],zh #[U zd p.owner,nv]] w fun e w'=>e=zk (U zd (CV m p))/\Ov w w':=by
 obtain ⟨ow,names⟩:=p
 have hE:CV m ⟨ow,names⟩=if BH m ow=true then (if names.length<=6 then (if (names.any fun x=>!BH m x)=true then 5 else (if DI names=true then 0 else 4)) else 2) else 5:=by
  unfold CV
  have:names.all (BH m)=!(names.any fun x=>!BH m x):=by rw [List.any_eq_not_all_not];simp
  simp only [this]
  cases (names.any fun x=>!BH m x) <;> simp
 simp only at hp ⊢
 have hbel:Ov w ((w.alloc (ze #[U zd m,s] 24)).alloc (ze #[U zd ow,nv] 87)):=(bA w _).alloc (by simp) _
 have HP:=Aa fun (W:World) (hb:Ov w W)=>BF hp hb
 have hN:=fun (W:World) (h:W.cell? ⟨w.heap.size,0,none⟩=some (U zd m))=>FJ m ow w.heap.size W h
 have hK:=fun (W:World) (hn:names.length<=6) (hB:Ov w W) (h:W.cell? ⟨w.heap.size,0,none⟩=some (U zd m))=>DC 213 (zj (some ⟨w.heap.size,0,none⟩)) (fun x=>!BH m x) nv names W (BF hp hB) hn (Aa fun i hi w1 hb=>FJ m names[i] w.heap.size w1 (by rw [(Ap hb).1 _ _ (bL h)];exact h)) Od
 have hR:=fun (W:World) (hn:names.length<=6) (hB:Ov w W)=>Lu nv names W (BF hp hB) hn
 obtain ⟨r1,hr1⟩:=nm (BH m ow)
 obtain ⟨r2,hr2⟩:=nm (names.any fun x=>!BH m x)
 obtain ⟨r3,hr3⟩:=nm (DI names)
 rw [<-hr1,<-hr2,<-hr3] at hE
 rw [<-hr1] at hN
 rw [<-hr2] at hK
 rw [<-hr3] at hR
 have KN:=Aa hN
 have KK:=Aa hK
 have KR:=Aa hR
 have HE:=Aa hE
 obtain ⟨ao,cap,rfl,-⟩:=hp
 clear hN hK hR hE hr1 hr2 hr3
 cases r1 with
 | false=>
  go_enter Tryz.func169,Tryz.ntmps169
  go_wp2_with fail
  refine (KN.o _ (by simp [go_sem])).mono ?_
  rintro e w1 ⟨rfl,hb1⟩
  have hbel1:Ov w w1:=hbel.trans (hb1.mono (by simp;omega))
  go_wp2_with fail
  go_ret
  exact ⟨by rw [HE.o];rfl,hbel1⟩
 | true=>
  go_enter Tryz.func169,Tryz.ntmps169
  go_wp2_with fail
  refine (KN.o _ (by simp [go_sem])).mono ?_
  rintro e w1 ⟨rfl,hb1⟩
  obtain ⟨hc,hf⟩:=Ap hb1
  have c0:w1.cell? ⟨w.heap.size,0,none⟩=some (U zd m):=by rw [hc _ _ (by simp;omega)];simp [go_sem]
  have c1:w1.cell? ⟨w.heap.size+1,1,none⟩=some (O ao names.length cap):=by rw [hc _ _ (by simp)];simp [go_sem]
  have hbel1:Ov w w1:=hbel.trans (hb1.mono (by simp;omega))
  clear hc hf hb1 hbel KN
  by_cases hn:names.length<=6
  ·go_wp2_with fail
   refine (KK.o _ hn hbel1 c0).mono ?_
   rintro e w2 ⟨rfl,hb2⟩
   have hbel2:Ov w w2:=hbel1.trans (hb2.mono hbel1.size)
   have d1:w2.cell? ⟨w.heap.size+1,1,none⟩=some (O ao names.length cap):=by rw [(Ap hb2).1 _ _ (bL c1)];exact c1
   clear c0 c1 KK
   cases r2 with
   | true=>
    go_wp2_with fail
    go_ret
    exact ⟨by rw [HE.o];simp [hn],hbel2⟩
   | false=>
    go_wp2_with fail
    refine (KR.o _ hn hbel2).mono ?_
    rintro e w3 ⟨rfl,hb3⟩
    have hbel3:Ov w w3:=hbel2.trans (hb3.mono hbel2.size)
    clear d1 KR
    cases r3
    all_goals go_wp2_with fail
    all_goals go_ret
    all_goals exact ⟨by rw [HE.o];simp [hn],hbel3⟩
  ·go_wp2_with fail
   go_ret
   exact ⟨by rw [HE.o];simp [hn],hbel1⟩
theorem Gs {w:World} {v:Value} {ps:List Pol} (h:AI w v ps) {i:Nat} (hi:i < ps.length):∃ b off cap nv,v=O (some ⟨b,off,none⟩) ps.length cap/\w.cell? ⟨b,off+i*2,none⟩=some (U zd ps[i].owner)/\w.cell? ⟨b,off+i*2+1,none⟩=some nv/\AL w nv ps[i].names:=by
 obtain ⟨ao,cap,rfl,hc⟩:=h
 obtain ⟨b,off,rfl,hcl⟩:=hc (by rintro rfl;simp at hi)
 obtain ⟨h1,nv,h2,h3⟩:=hcl i hi
 exact ⟨b,off,cap,nv,rfl,h1,h2,h3⟩
theorem DB (m:Int) (s vp:Value) (ps:List Pol) (w:World) (hp:AI w vp ps) :
  Calls Tryz.prog 110 #[zh #[U zd m,s],vp] w fun e w'=>e=zk (U zd (Ci m ps))/\Ov w w':=by
 have HP:=Aa hp
 obtain ⟨ao,cap,rfl,-⟩:=hp
 have hbel:Ov w (w.alloc (ze #[U zd m,s] 24)):=bA w _
 have hE:Ci m ps=if ps.length<=4 then Cg m ps else 2:=rfl
 have KP:=Aa fun (p:Pol) (nv:Value) (W:World) (h:AL W nv p.names)=>Fj m s p nv W h
 by_cases hn:ps.length<=4
 ·rw [if_pos hn] at hE
  have HE:=Aa hE
  clear hE
  go_enter Tryz.func110,Tryz.ntmps110
  go_wp2_with fail
  go_loopw [13] (fun i wr=>∃ k:Nat,k<=ps.length/\i=U zd k/\Cg m ps=Cg m (ps.drop k)/\Ov w wr/\wr.cell? ⟨w.heap.size,0,none⟩=some (U zd m)/\wr.cell? ⟨w.heap.size,1,none⟩=some s) (fun i _=>ps.length - (intOf i).toNat)
  case atStart=>exact ⟨0,Nat.zero_le _,rfl,rfl,hbel,by simp [go_sem],by simp [go_sem]⟩
  case round=>
   obtain ⟨k,hk,rfl,hfe,hbw,c0,c1⟩:=hrel
   by_cases hkl:k < ps.length
   ·obtain ⟨b,off,cap',nv,hve,q0,q1,q2⟩:=Gs (Ah HP.o hbw) hkl
    injection hve with e1 e2 e3
    subst e1 e3
    clear e2
    have hfd:=Ge (m:=m) hkl
    rw [<-hfe] at hfd
    have ltb:=bL q0
    have ltw:=bL c0
    have hal:Ov wr (wr.alloc (ze #[U zd ps[k].owner,nv] 87)):=bA wr _
    have hcall:=KP.o ps[k] nv (wr.alloc (ze #[U zd ps[k].owner,nv] 87)) (BF q2 hal)
    obtain ⟨r,hr⟩:=nm (CV m ps[k])
    obtain ⟨ow,how⟩:=nm (ps[k].owner)
    rw [<-hr] at hfd hcall
    rw [<-how] at q0 hal hcall
    obtain ⟨nl,nc,nlen,hnv⟩:∃ a c n,nv=O a n c:=by obtain ⟨a,c,e,_⟩:=q2;exact ⟨a,c,_,e⟩
    subst hnv
    have HC:=Aa hcall
    have HF:=Aa hfd
    have hbw2:=hbw.trans (hal.mono hbw.size)
    clear hr how hcall hfd q2 hfe
    by_cases hr0:r=0
    ·subst hr0
     go_wp2_with fail
     refine (HC.o).mono ?_
     rintro e w2 ⟨rfl,hb2⟩
     have hb3:=hbw2.trans (hb2.mono hbw2.size)
     have ltw':w.heap.size < (wr.alloc (ze #[U zd ow,O nl nlen nc] 87)).heap.size:=by simp;exact Nat.lt_succ_of_lt ltw
     have d0:w2.cell? ⟨w.heap.size,0,none⟩=some (U zd m):=by rw [(Ap hb2).1 _ _ ltw',(Ap hal).1 _ _ ltw];exact c0
     have d1:w2.cell? ⟨w.heap.size,1,none⟩=some s:=by rw [(Ap hb2).1 _ _ ltw',(Ap hal).1 _ _ ltw];exact c1
     clear hbw2 hb2 hal q0 q1 c0 c1 HC
     go_wp2_with fail
     exact ⟨⟨k+1,by omega,by go_num,by rw [HF.o];simp,hb3,d0,d1⟩,by simp [intOf];omega⟩
    ·have hne:(r != 0)=true:=by simpa using hr0
     go_wp2_with fail
     refine (HC.o).mono ?_
     rintro e w2 ⟨rfl,hb2⟩
     have hb3:=hbw2.trans (hb2.mono hbw2.size)
     clear hbw2 hb2 hal q0 q1 c0 c1 HC
     go_wp2_with fail
     go_ret
     exact ⟨by rw [HE.o,HF.o];simp [hr0],hb3⟩
   ·have hke:k=ps.length:=by omega
    have hz:Cg m ps=0:=by rw [hfe,hke,List.drop_length];rfl
    have HZ:=Aa hz
    clear hz hfe c0 c1
    go_wp2_with fail
    go_ret
    exact ⟨by rw [HE.o,HZ.o];rfl,hbw⟩
 ·rw [if_neg hn] at hE
  have HE:=Aa hE
  clear hE
  go_enter Tryz.func110,Tryz.ntmps110
  go_wp2_with fail
  go_ret
  exact ⟨by rw [HE.o];rfl,hbel⟩
def Bf (l:List Bool):List Value:=l.map Value.bool
theorem BG (W:World) (o:Obj):(W.alloc o).heap[W.heap.size]? = some o:=heap_alloc_new W o
theorem CQ {W W':World} {B:Nat} {v:Value} {k:Nat} {xs:List Value} (h:W.ownsRow B 4 1 v k xs) (hb:Ov W W'):W'.ownsRow B 4 1 v k xs:=by
 obtain ⟨h1,h2⟩:=h
 refine ⟨h1,?_⟩
 rcases h2 with h2 | ⟨g,cap,cur,hv,hg,hh,r⟩
 ·exact Or.inl h2
 ·refine Or.inr ⟨g,cap,cur,hv,hg,?_,r⟩
  rw [hb.block g (Array.getElem?_eq_some_iff.1 hh).1]
  exact hh
theorem IM {W:World} {B:Nat} {v:Value} {k:Nat} {xs:List Value} (h:W.ownsRow B 4 1 v k xs) (o:Obj):(W.alloc o).ownsRow B 4 1 v k xs:=
 CQ h (bA W o)
theorem Bl {W:World} {B:Nat} {v:Value} {k:Nat} {xs:List Value} (h:W.ownsRow B 4 1 v k xs) {p:Addr} (hp:p.block < B) (u:Value):(W.setCell p u).ownsRow B 4 1 v k xs:=
 ownsRow_setCell_below h hp u
theorem Mm {W:World} {B:Nat} {v:Value} {k:Nat} {xs:List Value} (h:W.ownsRow B 4 1 v k xs) {g:Nat} (hg:v.ownBlock=some g):B<=g/\g < W.heap.size:=by
 rcases h.2 with ⟨rfl,_⟩ | ⟨g',cap,cur,rfl,hg',hh,_⟩
 ·cases hg
 ·simp [Value.ownBlock] at hg
  subst hg
  exact ⟨hg',(Array.getElem?_eq_some_iff.1 hh).1⟩
def Np (u v:Value):Prop:=u.ownBlock=none\/u.ownBlock≠v.ownBlock
section
variable {ops:Array Oper} {o:Oper} {a:Act} {W:World} {K:Act->World->Prop} {Q:Exit->Act->World->Prop} {E:Prop}
end
theorem C7 {W:World} {B:Nat} {v:Value} {l:List Bool} (h:W.ownsRow B 4 1 v l.length (Bf l)):AP W v l:=by
 have hc:=fun g=>h.cells (g:=g)
 rcases h.2 with ⟨rfl,h0⟩ | ⟨g,cap,cur,rfl,_⟩
 ·exact ⟨none,0,by rw [h0],fun hne=>absurd (List.eq_nil_of_length_eq_zero h0) hne⟩
 ·refine ⟨_,cap,rfl,fun _=>⟨g,0,rfl,fun i hi=>?_⟩⟩
  have k0:(Bf l)[i]? = some (zg l[i]):=by simp [Bf,hi]
  have h1:=hc g rfl _ _ k0
  have hadd:(⟨g,0,none⟩:Addr).add i=⟨g,i,none⟩:=by unfold Addr.add;split <;> simp_all
  rw [hadd] at h1
  simpa using h1
theorem Gn {W:World} {B B':Nat} {v:Value} {k:Nat} {xs:List Value} (h:W.ownsRow B 4 1 v k xs) (hb:B'<=B):W.ownsRow B' 4 1 v k xs:=by
 obtain ⟨h1,h2⟩:=h
 refine ⟨h1,?_⟩
 rcases h2 with h2 | ⟨g,cap,cur,hv,hg,hh,r⟩
 ·exact Or.inl h2
 ·exact Or.inr ⟨g,cap,cur,hv,Nat.le_trans hb hg,hh,r⟩
def Ec (a b:List Bool) (i:Nat):Bool:=a[i]?.getD false && b[i]?.getD false
def F9 (a b:List Bool) (i:Nat):Bool:=a[i]?.getD false || b[i]?.getD false
def B8 (f:Nat->Bool) (n:Nat):List Bool:=(List.range n).map f
theorem IA (f:Nat->Bool) (n:Nat):B8 f (n+1)=B8 f n++[f n]:=by simp [B8,List.range_succ]
theorem A2 (f:Nat->Bool) (n:Nat):(B8 f n).length=n:=by simp [B8]
def Bp (l m:Lev) (n:Nat):Lev:=⟨B8 (Ec l.r m.r) n,B8 (F9 l.w m.w) n⟩
structure Lab where
 r:List Pol
 w:List Pol
def LF (n:Nat) (b:Lab):Prop:=(b.r.length<=4/\∀ p∈b.r,Er n p)/\(b.w.length<=4/\∀ p∈b.w,Er n p)
def Az (gn:List (Nat × Nat)) (n:Nat) (b:Lab):Lev:=⟨B8 (fun i=>ES gn n i b.r) n,B8 (fun i=>ES gn n i b.w) n⟩
def IU (m:Int) (b:Lab):Int:=if Ci m b.r=0 then Ci m b.w else Ci m b.r
theorem Ii {m:Int} {ps:List Pol} (h:Cg m ps=0):∀ p∈ps,CV m p=0:=by
 induction ps with
 | nil=>simp
 | cons p ps ih=>
  rw [Cg] at h
  split at h
  ·rename_i h0
   intro q hq
   rcases List.mem_cons.1 hq with rfl | hq
   ·exact h0
   ·exact ih h q hq
  ·rename_i h0
   exact absurd h h0
theorem JX {n:Nat} {p:Pol} (h:CV n p=0):Er n p:=by
 unfold CV at h
 split at h
 ·split at h
  ·split at h
   ·rename_i h1 h2 h3
    simp [BH] at h1
    refine ⟨h1,h2,fun x hx=>?_⟩
    have:=List.all_eq_true.1 h3 x hx
    simp [BH] at this
    exact this
   ·cases h
  ·cases h
 ·cases h
theorem Fx {n:Nat} {ps:List Pol} (h:Ci n ps=0):ps.length<=4/\∀ p∈ps,Er n p:=by
 unfold Ci at h
 split at h
 ·rename_i h1
  exact ⟨h1,fun p hp=>JX (Ii h p hp)⟩
 ·cases h
theorem Gq {n:Nat} {b:Lab} (h:IU n b=0):LF n b:=by
 unfold IU at h
 split at h
 ·rename_i h1
  exact ⟨Fx h1,Fx h⟩
 ·rename_i h1
  exact absurd h h1
def AE:Lev:=⟨[],[]⟩
def Bh (w w':World) (v:Value) (L:Lev):Prop:=∃ vr vw,v=zh #[vr,vw]/\w'.ownsRow w.heap.size 4 1 vr L.r.length (Bf L.r)/\w'.ownsRow w.heap.size 4 1 vw L.w.length (Bf L.w)/\Np vr vw
def Bq (m:Int) (gs:List (Int × Int)) (b:Lab):Int:=if AQ m gs=0 then IU m b else AQ m gs
def Br (m:Int) (gs:List (Int × Int)) (l:Lev):Int:=if AQ m gs=0 then Cl m l else AQ m gs
def Ei (m:Int) (gs:List (Int × Int)) (l k:Lev):Int:=if Br m gs l=0 then Br m gs k else Br m gs l
def M0:Prop:=∀ (m:Int) (v:Value) (gs:List (Int × Int)) (pr pw:Value) (bl:Lab) (w:World),AG w v gs->AI w pr bl.r->AI w pw bl.w ->
 Calls Tryz.prog 48 #[zh #[U zd m,v],zh #[pr,pw]] w fun e w'=>e=zk (U zd (Bq m gs bl))/\Ov w w'
def MV:Prop:=∀ (m:Int) (v:Value) (gs:List (Int × Int)) (pr pw:Value) (bl:Lab) (w:World),AG w v gs->AI w pr bl.r->AI w pw bl.w ->
 Calls Tryz.prog 23 #[zh #[U zd m,v],zh #[pr,pw]] w fun e w'=>∃ vl,e=zk (zm #[vl,U zd (Bq m gs bl)])/\Bh w w' vl (if Bq m gs bl=0 then Az (AB gs) m.toNat bl else AE)/\Ov w w'
def MS:Prop:=∀ (m:Int) (v:Value) (gs:List (Int × Int)) (vl:Value) (l:Lev) (w:World),AG w v gs->A7 w vl l ->
 Calls Tryz.prog 49 #[zh #[U zd m,v],vl] w fun e w'=>e=zk (U zd (Br m gs l))/\Ov w w'
def MX:Prop:=∀ (m:Int) (v:Value) (gs:List (Int × Int)) (vl vk:Value) (l k:Lev) (w:World),AG w v gs->A7 w vl l->A7 w vk k ->
 Calls Tryz.prog 16 #[zh #[U zd m,v],vl,vk] w fun e w'=>e=zk (zm #[zg (decide (Ei m gs l k=0) && Ay l k m.toNat),U zd (Ei m gs l k)])/\Ov w w'
def OA:Prop:=∀ (m:Int) (v:Value) (gs:List (Int × Int)) (vl vk:Value) (l k:Lev) (w:World),AG w v gs->A7 w vl l->A7 w vk k ->
 Calls Tryz.prog 46 #[zh #[U zd m,v],vl,vk] w fun e w'=>∃ vj,e=zk (zm #[vj,U zd (Ei m gs l k)])/\Bh w w' vj (if Ei m gs l k=0 then Bp l k m.toNat else AE)/\Ov w w'
end Go.Proofs.YtfffpjkcfnekaaaGreat
