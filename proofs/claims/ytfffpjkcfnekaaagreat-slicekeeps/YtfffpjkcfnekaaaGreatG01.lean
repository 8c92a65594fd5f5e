/- Regions that draw, in few words. -/
import Derived.Deep.RegionHeld3
import Derived.RowKit
import Derived.OpenShut
import Derived.Deep.Draws
import Derived.Lib.Builder
import Derived.Test.YtfffpjkcfnekaaaGreatRows
import Derived.ProofKit
import Derived.Deep.Strs
import Derived.Lib.SmallJoins
import Derived.WalkKit
import Derived.WalkSpells
import Derived.WalkLawsBesides
import Derived.WalkSmall
import Derived.Deep.AppendLies
import Derived.OwnWalk
set_option linter.unusedVariables false
set_option maxHeartbeats 8000000
set_option maxRecDepth 100000
namespace Go.Proofs.YtfffpjkcfnekaaaGreat
open Go.RowKit
open Go.Value renaming slice -> O, int -> zd, bool -> ze, agg -> zg, pointer -> zi, tuple -> zj
open Go.IntKind renaming i64 -> U
open Go.Obj renaming cells -> zf
open Go.Ending renaming returned -> zh
abbrev Ov (w w':World):Prop:=Below w.heap.size w w'
abbrev CE (w:World) (b i:Nat) (v:Value):Prop:=w.cell? ⟨b,i,none⟩=some v
theorem nm {α:Type} (x:α):∃ q,q=x:=⟨x,rfl⟩
theorem aqt:(∀ (l:List Oper) (i:Nat) (h:i < l.toArray.size),l.toArray[i]'h=l[i]'(by simpa using h))/\(∀ (a:Oper) (l:List Oper) (i:Nat) (h:i+1 < (a::l).length),(a::l)[i+1]'h=l[i]'(by simpa using h))/\(∀ (a:Oper) (l:List Oper) (h:0 < (a::l).length),(a::l)[0]'h=a)/\(∀ (a:Act) (d:Tmp) (v:Value),a.put (some d) v={ a with tmps:=a.tmps.setIfInBounds d v })/\(∀ (a:Act) (v:Value),a.put none v=a)/\(∀ (l:List Value) (i:Nat) (x:Value),l.toArray.setIfInBounds i x=(l.set i x).toArray)/\(∀ (l:List Value) (a x:Value),(a::l).set 0 x=x::l)/\(∀ (l:List Value) (a x:Value) (i:Nat),(a::l).set (i+1) x=a::l.set i x):=
 ⟨fun _ _ _=>by simp,fun _ _ _ _=>rfl,fun _ _ _=>rfl,fun _ _ _=>rfl,fun _ _=>rfl,fun _ _ _=>by simp,fun _ _ _=>rfl,fun _ _ _ _=>rfl⟩
theorem kT {P:Program} {ops:Array Oper} {Q:Exit->Act->World->Prop} {md:Region.Mode} {S:World->Prop} {oi:Oper} {v:Value} {fuel:Nat} {listed:Array Bool} {a:Act} {w:World} {Z:Prop} (i:Nat) (h:Z)
  (hi:ops[i]? = some oi:=by rfl) (hy:YieldsIf P ops S oi v a:=by (refine Or.inl ⟨by rfl,?_⟩;intro w' hSw;(try dsimp only at hSw);go_simp;try with_reducible rfl)) (hS:S w:=by assumption)
  (hs:Region.noSelect ops=true:=by kernel_rfl) (hf:Region.free md ops listed i=true:=by kernel_rfl) (hr:(Region.ready md ops listed).contains i=true:=by kernel_rfl)
  (hQ:∀ c a w,Q (.panic c) (a.put oi.dst v) w->Q (.panic c) a w:=by exact fun _ _ _ h=>h)
  (hz:Z->wpAnyH P md ops Q S fuel (listed.setIfInBounds i true) (a.put oi.dst v) w:=by (intro hz;(try simp only [aqt]);exact hz)):wpAnyH P md ops Q S (fuel+1) listed a w:=
 wpAnyH_take hi hs hf hr hQ hy hS (hz h)
theorem kU {P:Program} {ops:Array Oper} {Q:Exit->Act->World->Prop} {md:Region.Mode} {S:World->Prop} {oi:Oper} {fuel:Nat} {listed:Array Bool} {a:Act} {w:World} {Z:Prop} (i:Nat) (h:Z)
  (hi:ops[i]? = some oi:=by rfl) (hy:YieldsIf P ops S oi undef a:=by exact Or.inr ⟨by kernel_rfl,rfl⟩) (hS:S w:=by assumption)
  (hs:Region.noSelect ops=true:=by kernel_rfl) (hf:Region.free md ops listed i=true:=by kernel_rfl) (hr:(Region.ready md ops listed).contains i=true:=by kernel_rfl)
  (hQ:∀ c a w,Q (.panic c) (a.put oi.dst undef) w->Q (.panic c) a w:=by exact fun _ _ _ h=>h)
  (hz:Z->wpAnyH P md ops Q S fuel (listed.setIfInBounds i true) (a.put oi.dst undef) w:=by (intro hz;(try simp only [aqt]);exact hz)):wpAnyH P md ops Q S (fuel+1) listed a w:=
 wpAnyH_take hi hs hf hr hQ hy hS (hz h)
abbrev JH (P:Program) (md:Region.Mode) (ops:Array Oper) (Q:Exit->Act->World->Prop) (S:World->Prop) (fuel:Nat) (listed:Array Bool) (a:Act) (w:World) (i:Nat) (o:Oper):Prop:=
 ∀ K':Act->World->Prop,Shut (∀ a w,S w->(S w->wpAnyH P md ops Q S fuel (listed.setIfInBounds i true) a w)->K' a w)->if Region.wanted o (yielded ops a.tmps)=true then Oper.wp P o a w K' Q else K' (a.put o.dst undef) w
theorem rdA {P:Program} {ops:Array Oper} {Q:Exit->Act->World->Prop} {md:Region.Mode} {S:World->Prop} {fuel:Nat} {listed:Array Bool} {a:Act} {w:World} (i:Nat) {o:Oper} (ho:ops[i]? = some o) (h:JH P md ops Q S fuel listed a w i o)
  (hr:Region.ready md ops listed=[i]:=by kernel_rfl):wpAnyH P md ops Q S (fuel+1) listed a w:=
 wpAnyH_ready hr (by simp) (AllReadyH.cons ho h AllReadyH.nil)
theorem rdB {P:Program} {ops:Array Oper} {Q:Exit->Act->World->Prop} {md:Region.Mode} {S:World->Prop} {fuel:Nat} {listed:Array Bool} {a:Act} {w:World} (i j:Nat) {o p:Oper} (ho:ops[i]? = some o) (h:JH P md ops Q S fuel listed a w i o) (hp:ops[j]? = some p) (h2:JH P md ops Q S fuel listed a w j p)
  (hr:Region.ready md ops listed=[i,j]:=by kernel_rfl):wpAnyH P md ops Q S (fuel+1) listed a w:=
 wpAnyH_ready hr (by simp) (AllReadyH.cons ho h (AllReadyH.cons hp h2 AllReadyH.nil))
theorem xK {S:World->Prop} {V:Act->World->Prop} {K':Act->World->Prop} {a:Act} {w:World} {Z:Prop} (hK:Shut (∀ a w,S w->(S w->V a w)->K' a w)) (hS:S w) (h:S w->Z) (hz:Z->V a w:=by (intro hz;(try simp only [aqt]);exact hz)):K' a w:=
 hK.out a w hS (fun hs=>hz (h hs))
theorem gS {P:Program} {ops:Array Oper} {Q:Exit->Act->World->Prop} (S:World->Prop) {id:Nat} {a:Act} {w:World} (hS:S w.drew)
  (h:S w.drew->wpAnyH P .any ops Q S ops.size (Array.replicate ops.size false) a w.drew) (hm:P.follows .mixedOrders=true:=by kernel_rfl):(Code.region id ops true).wp P Q a w:=
 wp_region_held_drew hm hS h
theorem gE {P:Program} {ops:Array Oper} {Q:Exit->Act->World->Prop} {md:Region.Mode} {S:World->Prop} {fuel:Nat} {listed:Array Bool} {a:Act} {w:World} (h:Q .normal a w) (hr:Region.ready md ops listed=[]:=by kernel_rfl):wpAnyH P md ops Q S fuel listed a w:=
 wpAnyH_done hr h fuel
theorem Az (w:World) (l:List Value) (T:Nat):∀ (j:Nat) (u:Value),l[j]? = some u->(w.alloc (.cells l.toArray T)).cell? ⟨w.heap.size,j,none⟩=some u:=fun j u hu=>by
 rw [Lib.cell_of_heap (show (w.heap.push (.cells l.toArray T))[w.heap.size]? = some (.cells l.toArray T) by simp)]
 simpa using hu
theorem LZ {w:World} {a:Addr} {u:Value} (h:w.cell? a=some u) (o:Obj):(w.alloc o).cell? a=some u:=by
 rw [World.cell?_alloc_some _ _ _ (by rw [h];rfl)];exact h
theorem alS (w:World) (o:Obj):(w.alloc o).heap.size=w.heap.size+1:=by simp
theorem Cn (w:World) (l:List Value) (T:Nat) (o1:Obj):∀ (j:Nat) (u:Value),l[j]? = some u->((w.alloc (.cells l.toArray T)).alloc o1).cell? ⟨w.heap.size,j,none⟩=some u:=fun j u hu=>by
 have h:=Az w l T j u hu
 exact (LZ h _)
theorem CJ (w:World) (o0:Obj) (l:List Value) (T:Nat):∀ (j:Nat) (u:Value),l[j]? = some u->((w.alloc o0).alloc (.cells l.toArray T)).cell? ⟨w.heap.size+1,j,none⟩=some u:=fun j u hu=>by
 have h:=Az (w.alloc o0) l T j u hu
 rw [alS] at h
 exact h
theorem rc2 {P:Nat->Value->Prop} {a0 a1:Value} {l:List Value} (h:∀ (j:Nat) (u:Value),(a0::a1::l)[j]? = some u->P j u):P 0 a0/\P 1 a1:=⟨h 0 _ rfl,h 1 _ rfl⟩
theorem rc3 {P:Nat->Value->Prop} {a0 a1 a2:Value} {l:List Value} (h:∀ (j:Nat) (u:Value),(a0::a1::a2::l)[j]? = some u->P j u):P 0 a0/\P 1 a1/\P 2 a2:=⟨h 0 _ rfl,h 1 _ rfl,h 2 _ rfl⟩
theorem rc4 {P:Nat->Value->Prop} {a0 a1 a2 a3:Value} {l:List Value} (h:∀ (j:Nat) (u:Value),(a0::a1::a2::a3::l)[j]? = some u->P j u):P 0 a0/\P 1 a1/\P 2 a2/\P 3 a3:=⟨h 0 _ rfl,h 1 _ rfl,h 2 _ rfl,h 3 _ rfl⟩
theorem rc5 {P:Nat->Value->Prop} {a0 a1 a2 a3 a4:Value} {l:List Value} (h:∀ (j:Nat) (u:Value),(a0::a1::a2::a3::a4::l)[j]? = some u->P j u):P 0 a0/\P 1 a1/\P 2 a2/\P 3 a3/\P 4 a4:=⟨h 0 _ rfl,h 1 _ rfl,h 2 _ rfl,h 3 _ rfl,h 4 _ rfl⟩
theorem rc6 {P:Nat->Value->Prop} {a0 a1 a2 a3 a4 a5:Value} {l:List Value} (h:∀ (j:Nat) (u:Value),(a0::a1::a2::a3::a4::a5::l)[j]? = some u->P j u):P 0 a0/\P 1 a1/\P 2 a2/\P 3 a3/\P 4 a4/\P 5 a5:=⟨h 0 _ rfl,h 1 _ rfl,h 2 _ rfl,h 3 _ rfl,h 4 _ rfl,h 5 _ rfl⟩
theorem rc8 {P:Nat->Value->Prop} {a0 a1 a2 a3 a4 a5 a6 a7:Value} {l:List Value} (h:∀ (j:Nat) (u:Value),(a0::a1::a2::a3::a4::a5::a6::a7::l)[j]? = some u->P j u):P 0 a0/\P 1 a1/\P 2 a2/\P 3 a3/\P 4 a4/\P 5 a5/\P 6 a6/\P 7 a7:=⟨h 0 _ rfl,h 1 _ rfl,h 2 _ rfl,h 3 _ rfl,h 4 _ rfl,h 5 _ rfl,h 6 _ rfl,h 7 _ rfl⟩
theorem rc9 {P:Nat->Value->Prop} {a0 a1 a2 a3 a4 a5 a6 a7 a8:Value} {l:List Value} (h:∀ (j:Nat) (u:Value),(a0::a1::a2::a3::a4::a5::a6::a7::a8::l)[j]? = some u->P j u):P 0 a0/\P 1 a1/\P 2 a2/\P 3 a3/\P 4 a4/\P 5 a5/\P 6 a6/\P 7 a7/\P 8 a8:=⟨h 0 _ rfl,h 1 _ rfl,h 2 _ rfl,h 3 _ rfl,h 4 _ rfl,h 5 _ rfl,h 6 _ rfl,h 7 _ rfl,h 8 _ rfl⟩
theorem ovS {V W:World} (h:Below V.heap.size V W):∀ a:Addr,(V.cell? a).isSome=true->W.cell? a=V.cell? a:=fun a ha=>by
 obtain ⟨u,hu⟩:=Option.isSome_iff_exists.1 ha
 exact h.cell (World.block_lt_of_cell? V _ hu)
theorem kO {P:Program} {ops:Array Oper} {Q:Exit->Act->World->Prop} {md:Region.Mode} {S:World->Prop} {oi:Oper} {v:Value} {fuel:Nat} {listed:Array Bool} {a:Act} {w:World} {Z:Prop} (i:Nat) (h:Z)
  (hi:ops[i]? = some oi:=by rfl) (hy:YieldsIf P ops S oi v a:=by (refine Or.inl ⟨by rfl,?_⟩;intro w' hSw;have hSw:=ovS hSw;go_simp;try with_reducible rfl)) (hS:S w:=by assumption)
  (hs:Region.noSelect ops=true:=by kernel_rfl) (hf:Region.free md ops listed i=true:=by kernel_rfl) (hr:(Region.ready md ops listed).contains i=true:=by kernel_rfl)
  (hQ:∀ c a w,Q (.panic c) (a.put oi.dst v) w->Q (.panic c) a w:=by exact fun _ _ _ h=>h)
  (hz:Z->wpAnyH P md ops Q S fuel (listed.setIfInBounds i true) (a.put oi.dst v) w:=by (intro hz;(try simp only [aqt]);exact hz)):wpAnyH P md ops Q S (fuel+1) listed a w:=
 wpAnyH_take hi hs hf hr hQ hy hS (hz h)
def Hx (p:Prop):Prop:=p
theorem Hx.o {p:Prop} (h:Hx p):p:=h
theorem nO {q a1 a2 a3 a4 a5 a6 Z:Prop} (N1:Hx (a1->q)) (N2:Hx (a2->q)) (N3:Hx (a3->q)) (N4:Hx (a4->q)) (N5:Hx (a5->q)) (N6:Hx (a6->q)) (hz:Z)
  (h:Z->a1\/a2\/a3\/a4\/a5\/a6:=by (intro hz;first | exact Or.inl (by (try simp at hz);(try simp);omega) | exact Or.inr (Or.inl (by (try simp at hz);(try simp);omega)) | exact Or.inr (Or.inr (Or.inl (by (try simp at hz);(try simp);omega))) | exact Or.inr (Or.inr (Or.inr (Or.inl (by (try simp at hz);(try simp);omega)))) | exact Or.inr (Or.inr (Or.inr (Or.inr (Or.inl (by (try simp at hz);(try simp);omega))))) | exact Or.inr (Or.inr (Or.inr (Or.inr (Or.inr (by (try simp at hz);(try simp);omega))))))):Hx q:=
 (h hz).elim N1.o fun h=>h.elim N2.o fun h=>h.elim N3.o fun h=>h.elim N4.o fun h=>h.elim N5.o N6.o
theorem ce1 {w w':World} (hb:Below w.heap.size w w') {a:Addr} {u:Value} (h:w.cell? a=some u):w'.cell? a=some u:=by
 rw [hb.cell (World.block_lt_of_cell? w _ h)];exact h
theorem co2 {w w':World} (hb:Below w.heap.size w w') {a0 a1:Addr} {u0 u1:Value} (h0:w.cell? a0=some u0) (h1:w.cell? a1=some u1):w'.cell? a0=some u0/\w'.cell? a1=some u1:=⟨ce1 hb h0,ce1 hb h1⟩
theorem co3 {w w':World} (hb:Below w.heap.size w w') {a0 a1 a2:Addr} {u0 u1 u2:Value} (h0:w.cell? a0=some u0) (h1:w.cell? a1=some u1) (h2:w.cell? a2=some u2):w'.cell? a0=some u0/\w'.cell? a1=some u1/\w'.cell? a2=some u2:=⟨ce1 hb h0,ce1 hb h1,ce1 hb h2⟩
theorem co4 {w w':World} (hb:Below w.heap.size w w') {a0 a1 a2 a3:Addr} {u0 u1 u2 u3:Value} (h0:w.cell? a0=some u0) (h1:w.cell? a1=some u1) (h2:w.cell? a2=some u2) (h3:w.cell? a3=some u3):w'.cell? a0=some u0/\w'.cell? a1=some u1/\w'.cell? a2=some u2/\w'.cell? a3=some u3:=⟨ce1 hb h0,ce1 hb h1,ce1 hb h2,ce1 hb h3⟩
theorem co5 {w w':World} (hb:Below w.heap.size w w') {a0 a1 a2 a3 a4:Addr} {u0 u1 u2 u3 u4:Value} (h0:w.cell? a0=some u0) (h1:w.cell? a1=some u1) (h2:w.cell? a2=some u2) (h3:w.cell? a3=some u3) (h4:w.cell? a4=some u4):w'.cell? a0=some u0/\w'.cell? a1=some u1/\w'.cell? a2=some u2/\w'.cell? a3=some u3/\w'.cell? a4=some u4:=⟨ce1 hb h0,ce1 hb h1,ce1 hb h2,ce1 hb h3,ce1 hb h4⟩
theorem co6 {w w':World} (hb:Below w.heap.size w w') {a0 a1 a2 a3 a4 a5:Addr} {u0 u1 u2 u3 u4 u5:Value} (h0:w.cell? a0=some u0) (h1:w.cell? a1=some u1) (h2:w.cell? a2=some u2) (h3:w.cell? a3=some u3) (h4:w.cell? a4=some u4) (h5:w.cell? a5=some u5):w'.cell? a0=some u0/\w'.cell? a1=some u1/\w'.cell? a2=some u2/\w'.cell? a3=some u3/\w'.cell? a4=some u4/\w'.cell? a5=some u5:=⟨ce1 hb h0,ce1 hb h1,ce1 hb h2,ce1 hb h3,ce1 hb h4,ce1 hb h5⟩
theorem co7 {w w':World} (hb:Below w.heap.size w w') {a0 a1 a2 a3 a4 a5 a6:Addr} {u0 u1 u2 u3 u4 u5 u6:Value} (h0:w.cell? a0=some u0) (h1:w.cell? a1=some u1) (h2:w.cell? a2=some u2) (h3:w.cell? a3=some u3) (h4:w.cell? a4=some u4) (h5:w.cell? a5=some u5) (h6:w.cell? a6=some u6):w'.cell? a0=some u0/\w'.cell? a1=some u1/\w'.cell? a2=some u2/\w'.cell? a3=some u3/\w'.cell? a4=some u4/\w'.cell? a5=some u5/\w'.cell? a6=some u6:=⟨ce1 hb h0,ce1 hb h1,ce1 hb h2,ce1 hb h3,ce1 hb h4,ce1 hb h5,ce1 hb h6⟩
theorem co8 {w w':World} (hb:Below w.heap.size w w') {a0 a1 a2 a3 a4 a5 a6 a7:Addr} {u0 u1 u2 u3 u4 u5 u6 u7:Value} (h0:w.cell? a0=some u0) (h1:w.cell? a1=some u1) (h2:w.cell? a2=some u2) (h3:w.cell? a3=some u3) (h4:w.cell? a4=some u4) (h5:w.cell? a5=some u5) (h6:w.cell? a6=some u6) (h7:w.cell? a7=some u7):w'.cell? a0=some u0/\w'.cell? a1=some u1/\w'.cell? a2=some u2/\w'.cell? a3=some u3/\w'.cell? a4=some u4/\w'.cell? a5=some u5/\w'.cell? a6=some u6/\w'.cell? a7=some u7:=⟨ce1 hb h0,ce1 hb h1,ce1 hb h2,ce1 hb h3,ce1 hb h4,ce1 hb h5,ce1 hb h6,ce1 hb h7⟩
theorem co9 {w w':World} (hb:Below w.heap.size w w') {a0 a1 a2 a3 a4 a5 a6 a7 a8:Addr} {u0 u1 u2 u3 u4 u5 u6 u7 u8:Value} (h0:w.cell? a0=some u0) (h1:w.cell? a1=some u1) (h2:w.cell? a2=some u2) (h3:w.cell? a3=some u3) (h4:w.cell? a4=some u4) (h5:w.cell? a5=some u5) (h6:w.cell? a6=some u6) (h7:w.cell? a7=some u7) (h8:w.cell? a8=some u8):w'.cell? a0=some u0/\w'.cell? a1=some u1/\w'.cell? a2=some u2/\w'.cell? a3=some u3/\w'.cell? a4=some u4/\w'.cell? a5=some u5/\w'.cell? a6=some u6/\w'.cell? a7=some u7/\w'.cell? a8=some u8:=⟨ce1 hb h0,ce1 hb h1,ce1 hb h2,ce1 hb h3,ce1 hb h4,ce1 hb h5,ce1 hb h6,ce1 hb h7,ce1 hb h8⟩
theorem A4 {w w':World} (hb:Below w.heap.size w w') {a0 a1 a2 a3 a4 a5 a6 a7 a8 a9:Addr} {u0 u1 u2 u3 u4 u5 u6 u7 u8 u9:Value} (h0:w.cell? a0=some u0) (h1:w.cell? a1=some u1) (h2:w.cell? a2=some u2) (h3:w.cell? a3=some u3) (h4:w.cell? a4=some u4) (h5:w.cell? a5=some u5) (h6:w.cell? a6=some u6) (h7:w.cell? a7=some u7) (h8:w.cell? a8=some u8) (h9:w.cell? a9=some u9):w'.cell? a0=some u0/\w'.cell? a1=some u1/\w'.cell? a2=some u2/\w'.cell? a3=some u3/\w'.cell? a4=some u4/\w'.cell? a5=some u5/\w'.cell? a6=some u6/\w'.cell? a7=some u7/\w'.cell? a8=some u8/\w'.cell? a9=some u9:=⟨ce1 hb h0,ce1 hb h1,ce1 hb h2,ce1 hb h3,ce1 hb h4,ce1 hb h5,ce1 hb h6,ce1 hb h7,ce1 hb h8,ce1 hb h9⟩
theorem cn3 {w:World} {n:Nat} {a0 a1 a2:Addr} {u0 u1 u2:Value} (h0:w.cell? a0=some u0) (h1:w.cell? a1=some u1) (h2:w.cell? a2=some u2):(w.drewN n).cell? a0=some u0/\(w.drewN n).cell? a1=some u1/\(w.drewN n).cell? a2=some u2:=⟨h0,h1,h2⟩
theorem Bb {w:World} {n:Nat} {a0 a1 a2 a3 a4 a5 a6 a7 a8 a9:Addr} {u0 u1 u2 u3 u4 u5 u6 u7 u8 u9:Value} (h0:w.cell? a0=some u0) (h1:w.cell? a1=some u1) (h2:w.cell? a2=some u2) (h3:w.cell? a3=some u3) (h4:w.cell? a4=some u4) (h5:w.cell? a5=some u5) (h6:w.cell? a6=some u6) (h7:w.cell? a7=some u7) (h8:w.cell? a8=some u8) (h9:w.cell? a9=some u9):(w.drewN n).cell? a0=some u0/\(w.drewN n).cell? a1=some u1/\(w.drewN n).cell? a2=some u2/\(w.drewN n).cell? a3=some u3/\(w.drewN n).cell? a4=some u4/\(w.drewN n).cell? a5=some u5/\(w.drewN n).cell? a6=some u6/\(w.drewN n).cell? a7=some u7/\(w.drewN n).cell? a8=some u8/\(w.drewN n).cell? a9=some u9:=⟨h0,h1,h2,h3,h4,h5,h6,h7,h8,h9⟩
theorem bA (w:World) (o:Obj):Below w.heap.size w (w.alloc o):=(Below.refl _ w).alloc (Nat.le_refl _) o
theorem bD (w:World):Below w.heap.size w w.drew:=(Below.refl _ w).drew
theorem bL {w:World} {a:Addr} {u:Value} (h:w.cell? a=some u):a.block < w.heap.size:=World.block_lt_of_cell? w _ h
theorem orT {A B C E:Prop} (h:(A/\E)\/(B/\C)) (hb:¬ B:=by (intro h;cases h)):E:=h.elim (fun h=>h.2) (fun h=>absurd h.1 hb)
end Go.Proofs.YtfffpjkcfnekaaaGreat
namespace Go.Proofs.YtfffpjkcfnekaaaGreat.Ex
open Go.RowKit Go.ChangeShapes Go.WideShapes
open Go.Value renaming slice -> O, int -> zd, bool -> ze, agg -> zg, pointer -> zi, tuple -> zj
open Go.IntKind renaming i64 -> U
open Go.Obj renaming cells -> zf
open Go.Ending renaming returned -> zh
theorem Tryz.cellsX:Tryz.prog.cellsOf 94=3:=by kernel_rfl
theorem Tryz.cellsXs:Tryz.prog.cellsOf 92=1:=by kernel_rfl
theorem Tryz.cellsI:Tryz.prog.cellsOf 3=1:=by kernel_rfl
abbrev D:=DataW Empty
def xD (k n:Int) (args:List D):D:=.agg [.lit (.int U k),.lit (.int U n),.slice args []]
def XS (size:Nat) (R:List Value->D->Prop) (w:World) (v:Value) (ds:List D):Prop:=
 ds.length<=maxLen/\∃ ao cap,v=O ao ds.length cap/\(ds≠[]->∃ b off,ao=some ⟨b,off,none⟩ /\
  ∀ (i:Nat) (d:D),ds[i]? = some d->∃ cs:List Value,cs.length=size/\(∀ (j:Nat) (u:Value),cs[j]? = some u->w.cell? ⟨b,off+i*size+j,none⟩=some u)/\R cs d)
def Bd (n:Int):Prop:=-9223372036854775808<=n/\n<=9223372036854775807
theorem Lh {n:Int} (h:(Lit.int U n).wf=true):Bd n:=by
 have h2:(decide (IntKind.i64.min<=n) && decide (n<=IntKind.i64.max))=true:=h
 rw [Bool.and_eq_true,decide_eq_true_iff,decide_eq_true_iff] at h2
 exact h2
def RX (w:World):Nat->List Value->D->Prop
 | 0,_,_=>False
 | k+1,cs,d=>∃ (kd n:Int) (v:Value) (ds:List D),cs=[zd U kd,zd U n,v]/\d=xD kd n ds/\Bd kd/\Bd n/\XS 3 (RX w k) w v ds
theorem XS.mono {size:Nat} {R R':List Value->D->Prop} {w w':World} {v:Value} {ds:List D} (h:XS size R w v ds)
  (hw:∀ a u,w.cell? a=some u->w'.cell? a=some u) (hR:∀ cs d,d∈ds->R cs d->R' cs d):XS size R' w' v ds:=by
 obtain ⟨hm,ao,cap,hv,hc⟩:=h
 refine ⟨hm,ao,cap,hv,fun hne=>?_⟩
 obtain ⟨b,off,hao,hel⟩:=hc hne
 refine ⟨b,off,hao,fun i d hd=>?_⟩
 obtain ⟨cs,hl,hcs,hr⟩:=hel i d hd
 exact ⟨cs,hl,fun j u hu=>hw _ _ (hcs j u hu),hR cs d (List.mem_of_getElem? hd) hr⟩
theorem RX.mono {w w':World} (hw:∀ a u,w.cell? a=some u->w'.cell? a=some u) :
  ∀ (k m:Nat) (cs:List Value) (d:D),k<=m->RX w k cs d->RX w' m cs d:=by
 intro k
 induction k with
 | zero=>intro m cs d _ h;exact h.elim
 | succ k ih=>
  intro m cs d hkm h
  obtain ⟨m',rfl⟩:∃ m',m=m' + 1:=⟨m - 1,by omega⟩
  obtain ⟨kd,n,v,ds,hcs,hd,h1,h2,hr⟩:=h
  exact ⟨kd,n,v,ds,hcs,hd,h1,h2,hr.mono hw (fun cs d _ hh=>ih m' cs d (by omega) hh)⟩
theorem DS {H:Type} {enc:TypeId × Value->H} {W:World}:∀ (fuel:Nat) (cs:List Value) (x:DataW H × List MemPlace),DataW.trod enc Tryz.prog W 0 (fun _=>true) true fuel 94 cs=some x->∃ d,RX W fuel cs d:=by
 intro fuel
 induction fuel using Nat.strongRecOn with
 | ind fuel ih=>
  intro cs x h
  obtain ⟨xs,n,rfl,hx,hl,hxl,hf⟩:=DataW.trod_struct Tryz.underlying94 h
  rw [Tryz.cellsX] at hl
  match cs,hl,xs,hxl with
  | [c0,c1,c2],_,[y0,y1,y2],_=>
   have h0:=hf 0 _ rfl
   have h1:=hf 1 _ rfl
   have h2:=hf 2 _ rfl
   simp [Tryz.cellsI,Tryz.cellsXs] at h0 h1 h2
   obtain ⟨a,e0,r0⟩:=DataW.trod_int Tryz.underlying3 h0
   obtain ⟨b,e1,r1⟩:=DataW.trod_int Tryz.underlying3 h1
   simp at e0 e1
   subst e0
   subst e1
   have wa:Bd a:=Lh r0.2
   have wb:Bd b:=Lh r1.2
   rcases DataW.trod_slice Tryz.underlying92 h2 with ⟨hcs,-⟩ | ⟨ad,len,cap,elems,rest,m,rfl,hcs,-,-,hlc,hcm,hel,hat,-,-⟩
   ·simp at hcs
    subst hcs
    exact ⟨xD a b [],a,b,_,[],rfl,rfl,wa,wb,by simp,none,0,rfl,fun h=>absurd rfl h⟩
   ·simp at hcs
    subst hcs
    rw [Tryz.cellsX] at hat
    have hget:∀ i,i < len->∃ d:D,∃ cs:List Value,cs.length=3/\(∀ (j:Nat) (u:Value),cs[j]? = some u->W.cell? (ad.add (i*3+j))=some u)/\RX W (m+1) cs d:=fun i hi=>by
     have hi2:=hat i hi
     rw [List.getElem?_eq_getElem (by omega),Option.bind_eq_some_iff] at hi2
     obtain ⟨cs,hc,ht⟩:=hi2
     obtain ⟨-,hlen,hcell⟩:=World.cells?_some hc
     obtain ⟨d,hd⟩:=ih m (by omega) cs _ ht
     refine ⟨d,cs,hlen,fun j u hu=>?_,RX.mono (fun _ _ h=>h) m (m+1) cs d (by omega) hd⟩
     have hj:j < 3:=by have:=(List.getElem?_eq_some_iff.1 hu).1;omega
     have hk:=hcell j hj
     rw [hu] at hk
     rw [Addr.add_add] at hk
     exact hk
    obtain ⟨f,hf⟩:=Deep.choose_lt hget
    refine ⟨xD a b ((List.range len).map f),a,b,_,(List.range len).map f,rfl,rfl,wa,wb,by simp;omega,some ad,cap,by simp,fun hne=>?_⟩
    have h0:0 < len:=by
     rcases Nat.eq_zero_or_pos len with h | h
     ·subst h;simp at hne
     ·exact h
    have hp:∃ b off,ad=⟨b,off,none⟩:=by
     obtain ⟨cs,hl,hc,-⟩:=hf 0 h0
     obtain ⟨u,hu⟩:∃ u,cs[0]? = some u:=⟨cs[0]'(by omega),List.getElem?_eq_getElem (by omega)⟩
     have hk:=hc 0 u hu
     have hsp:ad.spot=none:=by simpa [Addr.add] using World.cell?_spot hk
     obtain ⟨b,off,sp⟩:=ad
     simp only at hsp
     subst hsp
     exact ⟨b,off,rfl⟩
    obtain ⟨bb,off,rfl⟩:=hp
    refine ⟨bb,off,rfl,fun i d hd=>?_⟩
    have hi:i < len:=by
     have:=(List.getElem?_eq_some_iff.1 hd).1
     simpa using this
    have hd':d=f i:=by
     rw [List.getElem?_map,List.getElem?_range hi] at hd
     simpa using hd.symm
    subst hd'
    obtain ⟨cs,hl,hc,hr⟩:=hf i hi
    exact ⟨cs,hl,fun j u hu=>by have:=hc j u hu;rw [Addr.add_lit] at this;simpa [Nat.add_assoc] using this,hr⟩
end Go.Proofs.YtfffpjkcfnekaaaGreat.Ex
namespace Go.Proofs.YtfffpjkcfnekaaaGreat.Ex
open Go.RowKit
open Go.Value renaming slice -> O, int -> zd, bool -> ze, agg -> zg, pointer -> zi, tuple -> zj
open Go.IntKind renaming i64 -> U
open Go.Obj renaming cells -> zf
open Go.Ending renaming returned -> zh
theorem Aa {p:Prop} (h:p):Hx p:=h
def Co (n:Int):Bool:=decide (-2147483648<=n/\n<=2147483647)
def wrap32 (z:Int):Int:=(z+2147483648) % 4294967296 - 2147483648
theorem C6 (z:Int):-2147483648<=wrap32 z/\wrap32 z<=2147483647:=by unfold wrap32;omega
theorem AM {W w1:World} (hb:Ov W w1):(∀ b o,b < W.heap.size->w1.cell? ⟨b,o,none⟩=W.cell? ⟨b,o,none⟩)/\(∀ b o,b < W.heap.size->w1.frozen? ⟨b,o,none⟩=W.frozen? ⟨b,o,none⟩):=
 ⟨fun b o h=>hb.cell (p:=⟨b,o,none⟩) h,fun b o h=>hb.frozen (p:=⟨b,o,none⟩) h⟩
theorem Ab {w w':World} (hb:Ov w w') (a:Addr) (u:Value) (h:w.cell? a=some u):w'.cell? a=some u:=by
 rw [hb.cell (bL h)]
 exact h
theorem RX.over {w w':World} {k:Nat} {cs:List Value} {d:D} (h:RX w k cs d) (hb:Ov w w'):RX w' k cs d:=RX.mono (Ab hb) k k cs d (Nat.le_refl _) h
def Ax:D->List D
 | .agg [_,_,.slice l _]=>l
 | _=>[]
def Au:D->Int
 | .agg (.lit (.int _ n)::_)=>n
 | _=>0
def AG:D->Int
 | .agg (_::.lit (.int _ n)::_)=>n
 | _=>0
@[simp] theorem Gl (k n:Int) (l:List D):Ax (xD k n l)=l:=rfl
@[simp] theorem Eu (k n:Int) (l:List D):Au (xD k n l)=k:=rfl
@[simp] theorem G9 (k n:Int) (l:List D):AG (xD k n l)=n:=rfl
theorem RX.form {w:World} {k:Nat} {cs:List Value} {d:D} (h:RX w k cs d):∃ ao cap,cs=[zd U (Au d),zd U (AG d),O ao (Ax d).length cap]:=by
 cases k with
 | zero=>exact h.elim
 | succ k=>
  obtain ⟨kd,n,v,ds,rfl,rfl,-,-,-,ao,cap,rfl,-⟩:=h
  exact ⟨ao,cap,rfl⟩
def AU (f:D->Int->Int) (m:Int):List D->Int->Int
 | [],n=>n
 | a::l,n=>if n<=m then AU f m l (n+f a (m - n)) else n
def Bq:Nat->D->Int->Int
 | 0,_,_=>1
 | k+1,d,m=>AU (Bq k) m (Ax d) 1
theorem D5 (f:D->Int->Int) (hf:∀ d m,0<=m->1<=f d m/\f d m<=m+1) (m:Int):∀ (l:List D) (n:Int),1<=n->n<=m+1->1<=AU f m l n/\AU f m l n<=m+1
 | [],n,h1,h2=>⟨h1,h2⟩
 | a::l,n,h1,h2=>by
  unfold AU
  split
  ·have:=hf a (m - n) (by omega)
   exact D5 f hf m l _ (by omega) (by omega)
  ·exact ⟨h1,h2⟩
theorem DR:∀ (k:Nat) (d:D) (m:Int),0<=m->1<=Bq k d m/\Bq k d m<=m+1
 | 0,_,m,h=>by unfold Bq;omega
 | k+1,d,m,h=>D5 _ (DR k) m _ 1 (by omega) (by omega)
theorem EV (f:D->Int->Int) (m:Int) (l) (n:Int) (h:m < n):AU f m l n=n:=by
 cases l with
 | nil=>rfl
 | cons a l=>unfold AU;rw [if_neg (by omega)]
theorem EU {f:D->Int->Int} {m n:Int} {l:List D} {j:Nat} (hj:j < l.length) (h:n<=m):AU f m (l.drop j) n=AU f m (l.drop (j+1)) (n+f l[j] (m - n)):=by
 rw [List.drop_eq_getElem_cons hj]
 rw [AU,if_pos h]
def Ar (w:World) (v:Value) (l:List Int):Prop:=
 ∃ ao cap,v=O ao l.length cap/\(l≠[]->∃ b off,ao=some ⟨b,off,none⟩/\∀ i (h:i < l.length),w.cell? ⟨b,off+i,none⟩=some (zd U l[i]))
theorem Ar.over {w w':World} {v:Value} {l:List Int} (h:Ar w v l) (hb:Ov w w'):Ar w' v l:=by
 obtain ⟨ao,cap,hv,hc⟩:=h
 refine ⟨ao,cap,hv,fun hne=>?_⟩
 obtain ⟨b,off,hao,hel⟩:=hc hne
 exact ⟨b,off,hao,fun i hi=>Ab hb _ _ (hel i hi)⟩
def opX (k a b:Int):Int:=
 if k=3 then wrap32 (a+b) else if k=4 then wrap32 (a - b) else if k=5 then wrap32 (a*b) else if k=6/\a < b\/k=7/\a=b then 1 else 0
def Av (vs:List Int):Nat->D->Int
 | 0,_=>0
 | k+1,d=>if Au d=1 then AG d else if Au d=2 then vs.getD (AG d).toNat 0 else
  match Ax d with
  | [x,y]=>opX (Au d) (Av vs k x) (Av vs k y)
  | _=>0
def okX (m:Nat):Nat->D->Prop
 | 0,_=>False
 | k+1,d=>(Au d=1/\-9999999<=AG d/\AG d<=9999999)\/(Au d=2/\0<=AG d/\AG d < m)\/(3<=Au d/\Au d<=7/\∃ x y,Ax d=[x,y]/\okX m k x/\okX m k y)
def I32 (n:Int):Prop:=-2147483648<=n/\n<=2147483647
theorem LB (k a b:Int):I32 (opX k a b):=by
 unfold opX I32
 have h1:=C6 (a+b)
 have h2:=C6 (a - b)
 have h3:=C6 (a*b)
 repeat' split
 all_goals omega
theorem Dw {vs:List Int} (hv:∀ x∈vs,I32 x):∀ (k:Nat) (d:D),okX vs.length k d->I32 (Av vs k d):=by
 intro k
 induction k with
 | zero=>intro d h;exact h.elim
 | succ k ih=>
  intro d h
  rcases h with ⟨h1,h2,h3⟩ | ⟨h1,h2,h3⟩ | ⟨h1,h2,x,y,hxy,hx,hy⟩
  ·unfold Av
   rw [if_pos h1]
   unfold I32
   omega
  ·unfold Av
   rw [if_neg (by omega),if_pos h1]
   have hl:(AG d).toNat < vs.length:=by omega
   rw [List.getD_eq_getElem?_getD,List.getElem?_eq_getElem hl]
   exact hv _ (List.getElem_mem hl)
  ·unfold Av
   rw [if_neg (by omega),if_neg (by omega),hxy]
   exact LB _ _ _
theorem Ld {w w0 w1:World} {a0 a1 a2 a3 a4 a5 a6 a7:Addr} {v0 v1 v2 v3 v4 v5 v6 v7:Value}
  (h:w0.cell? a0=some v0/\w0.cell? a1=some v1/\w0.cell? a2=some v2/\w0.cell? a3=some v3/\w0.cell? a4=some v4/\w0.cell? a5=some v5/\w0.cell? a6=some v6/\w0.cell? a7=some v7/\Ov w w0) (hb:Ov w0 w1) :
  w1.cell? a0=some v0/\w1.cell? a1=some v1/\w1.cell? a2=some v2/\w1.cell? a3=some v3/\w1.cell? a4=some v4/\w1.cell? a5=some v5/\w1.cell? a6=some v6/\w1.cell? a7=some v7/\Ov w w1:=by
 obtain ⟨h0,h1,h2,h3,h4,h5,h6,h7,hB⟩:=h
 exact ⟨Ab hb _ _ h0,Ab hb _ _ h1,Ab hb _ _ h2,Ab hb _ _ h3,Ab hb _ _ h4,Ab hb _ _ h5,Ab hb _ _ h6,Ab hb _ _ h7,hB.trans (hb.mono hB.size)⟩
theorem below_drewN {W w:World} {n:Nat} (h:Below n W w) (k:Nat):Below n W (w.drewN k):=by
 induction k with
 | zero=>exact h
 | succ k ih=>exact ih.drew
theorem FV {W W':World} {B e s:Nat} {v:Value} {k:Nat} {xs:List Value} (h:W.ownsRow B e s v k xs) (hb:Ov W W'):W'.ownsRow B e s v k xs:=by
 obtain ⟨h1,h2⟩:=h
 refine ⟨h1,?_⟩
 rcases h2 with h2 | ⟨g,cap,cur,hv,hg,hh,r⟩
 ·exact Or.inl h2
 ·refine Or.inr ⟨g,cap,cur,hv,hg,?_,r⟩
  rw [hb.block g (Array.getElem?_eq_some_iff.1 hh).1]
  exact hh
theorem IW {W:World} {B B' e s:Nat} {v:Value} {k:Nat} {xs:List Value} (h:W.ownsRow B e s v k xs) (hb:B'<=B):W.ownsRow B' e s v k xs:=by
 obtain ⟨h1,h2⟩:=h
 refine ⟨h1,?_⟩
 rcases h2 with h2 | ⟨g,cap,cur,hv,hg,r⟩
 ·exact Or.inl h2
 ·exact Or.inr ⟨g,cap,cur,hv,Nat.le_trans hb hg,r⟩
theorem Dp {W:World} {B e s:Nat} {v:Value} {k:Nat} {xs:List Value} (h:W.ownsRow B e s v k xs) {g:Nat} (hg:v.ownBlock=some g):B<=g/\g < W.heap.size:=by
 rcases h.2 with ⟨rfl,_⟩ | ⟨g',cap,cur,rfl,hg',hh,_⟩
 ·cases hg
 ·simp [Value.ownBlock] at hg
  subst hg
  exact ⟨hg',(Array.getElem?_eq_some_iff.1 hh).1⟩
theorem Bk {B e s:Nat} {W W':World} {v:Value} {k:Nat} {xs:List Value} (h:W.ownsRow B e s v k xs) (hg:W.grownBy W' v.ownBlock) (hB:B<=W.heap.size):Below B W W':=
 ⟨hg.os,hg.tape,hg.output,hg.size,fun j hj=>hg.block j (Nat.lt_of_lt_of_le hj hB) (fun e=>by have:=(Dp h e.symm).1;omega)⟩
def AJ:Nat->D->List D
 | 0,_=>[]
 | k+1,d=>d::(Ax d).flatMap (AJ k)
theorem Ih {w:World} {k:Nat} {cs:List Value} {d:D} (h:RX w k cs d):0 < (AJ k d).length:=by
 cases k with
 | zero=>exact h.elim
 | succ k=>simp [AJ]
theorem Tryz.infoX:(Tryz.prog.info? 94).map (fun i=>(i.zero,i.size,i.bytes))=some (some (zg #[zd U 0,zd U 0,O none 0 0]),3,40):=by kernel_rfl
end Go.Proofs.YtfffpjkcfnekaaaGreat.Ex
