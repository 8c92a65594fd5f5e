/- Regions that draw, in few words. -/
import Derived.Deep.RegionHeld3
import Derived.RowKit
import Derived.OpenShut
import Derived.Deep.Draws
import Derived.Lib.Builder
import Derived.Test.YtfffpjkcfnekaaaGreatRows
import Derived.ProofKit
import Derived.Deep.Strs
import Derived.Lib.SmallJoins
import Derived.WalkKit
import Derived.WalkSpells
import Derived.WalkLawsBesides
import Derived.WalkSmall
import Derived.Deep.AppendLies
import Derived.OwnWalk
set_option linter.unusedVariables false
set_option maxHeartbeats 8000000
set_option maxRecDepth 100000
namespace Go.Proofs.YtfffpjkcfnekaaaGreat
open Go.RowKit
open Go.Value renaming slice -> O, int -> zd, bool -> ze, agg -> zg, pointer -> zi, tuple -> zj
open Go.IntKind renaming i64 -> U
open Go.Obj renaming cells -> zf
open Go.Ending renaming returned -> zh
abbrev Ov (w w':World):Prop:=Below w.heap.size w w'
abbrev CE (w:World) (b i:Nat) (v:Value):Prop:=w.cell? ⟨b,i,none⟩=some v
theorem nm {α:Type} (x:α):∃ q,q=x:=⟨x,rfl⟩
theorem aqt:(∀ (l:List Oper) (i:Nat) (h:i < l.toArray.size),l.toArray[i]'h=l[i]'(by simpa using h))/\(∀ (a:Oper) (l:List Oper) (i:Nat) (h:i+1 < (a::l).length),(a::l)[i+1]'h=l[i]'(by simpa using h))/\(∀ (a:Oper) (l:List Oper) (h:0 < (a::l).length),(a::l)[0]'h=a)/\(∀ (a:Act) (d:Tmp) (v:Value),a.put (some d) v={ a with tmps:=a.tmps.setIfInBounds d v })/\(∀ (a:Act) (v:Value),a.put none v=a)/\(∀ (l:List Value) (i:Nat) (x:Value),l.toArray.setIfInBounds i x=(l.set i x).toArray)/\(∀ (l:List Value) (a x:Value),(a::l).set 0 x=x::l)/\(∀ (l:List Value) (a x:Value) (i:Nat),(a::l).set (i+1) x=a::l.set i x):=
 ⟨fun _ _ _=>by simp,fun _ _ _ _=>rfl,fun _ _ _=>rfl,fun _ _ _=>rfl,fun _ _=>rfl,fun _ _ _=>by simp,fun _ _ _=>rfl,fun _ _ _ _=>rfl⟩
theorem kT {P:Program} {ops:Array Oper} {Q:Exit->Act->World->Prop} {md:Region.Mode} {S:World->Prop} {oi:Oper} {v:Value} {fuel:Nat} {listed:Array Bool} {a:Act} {w:World} {Z:Prop} (i:Nat) (h:Z)
  (hi:ops[i]? = some oi:=by rfl) (hy:YieldsIf P ops S oi v a:=by (refine Or.inl ⟨by rfl,?_⟩;intro w' hSw;(try dsimp only at hSw);go_simp;try with_reducible rfl)) (hS:S w:=by assumption)
  (hs:Region.noSelect ops=true:=by kernel_rfl) (hf:Region.free md ops listed i=true:=by kernel_rfl) (hr:(Region.ready md ops listed).contains i=true:=by kernel_rfl)
  (hQ:∀ c a w,Q (.panic c) (a.put oi.dst v) w->Q (.panic c) a w:=by exact fun _ _ _ h=>h)
  (hz:Z->wpAnyH P md ops Q S fuel (listed.setIfInBounds i true) (a.put oi.dst v) w:=by (intro hz;(try simp only [aqt]);exact hz)):wpAnyH P md ops Q S (fuel+1) listed a w:=
 wpAnyH_take hi hs hf hr hQ hy hS (hz h)
theorem kU {P:Program} {ops:Array Oper} {Q:Exit->Act->World->Prop} {md:Region.Mode} {S:World->Prop} {oi:Oper} {fuel:Nat} {listed:Array Bool} {a:Act} {w:World} {Z:Prop} (i:Nat) (h:Z)
  (hi:ops[i]? = some oi:=by rfl) (hy:YieldsIf P ops S oi undef a:=by exact Or.inr ⟨by kernel_rfl,rfl⟩) (hS:S w:=by assumption)
  (hs:Region.noSelect ops=true:=by kernel_rfl) (hf:Region.free md ops listed i=true:=by kernel_rfl) (hr:(Region.ready md ops listed).contains i=true:=by kernel_rfl)
  (hQ:∀ c a w,Q (.panic c) (a.put oi.dst undef) w->Q (.panic c) a w:=by exact fun _ _ _ h=>h)
  (hz:Z->wpAnyH P md ops Q S fuel (listed.setIfInBounds i true) (a.put oi.dst undef) w:=by (intro hz;(try simp only [aqt]);exact hz)):wpAnyH P md ops Q S (fuel+1) listed a w:=
 wpAnyH_take hi hs hf hr hQ hy hS (hz h)
abbrev Kk (P:Program) (md:Region.Mode) (ops:Array Oper) (Q:Exit->Act->World->Prop) (S:World->Prop) (fuel:Nat) (listed:Array Bool) (a:Act) (w:World) (i:Nat) (o:Oper):Prop:=
 ∀ K':Act->World->Prop,Shut (∀ a w,S w->(S w->wpAnyH P md ops Q S fuel (listed.setIfInBounds i true) a w)->K' a w)->if Region.wanted o (yielded ops a.tmps)=true then Oper.wp P o a w K' Q else K' (a.put o.dst undef) w
theorem rdA {P:Program} {ops:Array Oper} {Q:Exit->Act->World->Prop} {md:Region.Mode} {S:World->Prop} {fuel:Nat} {listed:Array Bool} {a:Act} {w:World} (i:Nat) {o:Oper} (ho:ops[i]? = some o) (h:Kk P md ops Q S fuel listed a w i o)
  (hr:Region.ready md ops listed=[i]:=by kernel_rfl):wpAnyH P md ops Q S (fuel+1) listed a w:=
 wpAnyH_ready hr (by simp) (AllReadyH.cons ho h AllReadyH.nil)
theorem rdB {P:Program} {ops:Array Oper} {Q:Exit->Act->World->Prop} {md:Region.Mode} {S:World->Prop} {fuel:Nat} {listed:Array Bool} {a:Act} {w:World} (i j:Nat) {o p:Oper} (ho:ops[i]? = some o) (h:Kk P md ops Q S fuel listed a w i o) (hp:ops[j]? = some p) (h2:Kk P md ops Q S fuel listed a w j p)
  (hr:Region.ready md ops listed=[i,j]:=by kernel_rfl):wpAnyH P md ops Q S (fuel+1) listed a w:=
 wpAnyH_ready hr (by simp) (AllReadyH.cons ho h (AllReadyH.cons hp h2 AllReadyH.nil))
theorem xK {S:World->Prop} {V:Act->World->Prop} {K':Act->World->Prop} {a:Act} {w:World} {Z:Prop} (hK:Shut (∀ a w,S w->(S w->V a w)->K' a w)) (hS:S w) (h:S w->Z) (hz:Z->V a w:=by (intro hz;(try simp only [aqt]);exact hz)):K' a w:=
 hK.out a w hS (fun hs=>hz (h hs))
theorem gS {P:Program} {ops:Array Oper} {Q:Exit->Act->World->Prop} (S:World->Prop) {id:Nat} {a:Act} {w:World} (hS:S w.drew)
  (h:S w.drew->wpAnyH P .any ops Q S ops.size (Array.replicate ops.size false) a w.drew) (hm:P.follows .mixedOrders=true:=by kernel_rfl):(Code.region id ops true).wp P Q a w:=
 wp_region_held_drew hm hS h
theorem gE {P:Program} {ops:Array Oper} {Q:Exit->Act->World->Prop} {md:Region.Mode} {S:World->Prop} {fuel:Nat} {listed:Array Bool} {a:Act} {w:World} (h:Q .normal a w) (hr:Region.ready md ops listed=[]:=by kernel_rfl):wpAnyH P md ops Q S fuel listed a w:=
 wpAnyH_done hr h fuel
theorem Ay (w:World) (l:List Value) (T:Nat):∀ (j:Nat) (u:Value),l[j]? = some u->(w.alloc (.cells l.toArray T)).cell? ⟨w.heap.size,j,none⟩=some u:=fun j u hu=>by
 rw [Lib.cell_of_heap (show (w.heap.push (.cells l.toArray T))[w.heap.size]? = some (.cells l.toArray T) by simp)]
 simpa using hu
theorem MJ {w:World} {a:Addr} {u:Value} (h:w.cell? a=some u) (o:Obj):(w.alloc o).cell? a=some u:=by
 rw [World.cell?_alloc_some _ _ _ (by rw [h];rfl)];exact h
theorem alS (w:World) (o:Obj):(w.alloc o).heap.size=w.heap.size+1:=by simp
theorem CB (w:World) (l:List Value) (T:Nat) (o1:Obj):∀ (j:Nat) (u:Value),l[j]? = some u->((w.alloc (.cells l.toArray T)).alloc o1).cell? ⟨w.heap.size,j,none⟩=some u:=fun j u hu=>by
 have h:=Ay w l T j u hu
 exact (MJ h _)
theorem CY (w:World) (o0:Obj) (l:List Value) (T:Nat):∀ (j:Nat) (u:Value),l[j]? = some u->((w.alloc o0).alloc (.cells l.toArray T)).cell? ⟨w.heap.size+1,j,none⟩=some u:=fun j u hu=>by
 have h:=Ay (w.alloc o0) l T j u hu
 rw [alS] at h
 exact h
theorem rc2 {P:Nat->Value->Prop} {a0 a1:Value} {l:List Value} (h:∀ (j:Nat) (u:Value),(a0::a1::l)[j]? = some u->P j u):P 0 a0/\P 1 a1:=⟨h 0 _ rfl,h 1 _ rfl⟩
theorem rc3 {P:Nat->Value->Prop} {a0 a1 a2:Value} {l:List Value} (h:∀ (j:Nat) (u:Value),(a0::a1::a2::l)[j]? = some u->P j u):P 0 a0/\P 1 a1/\P 2 a2:=⟨h 0 _ rfl,h 1 _ rfl,h 2 _ rfl⟩
theorem rc4 {P:Nat->Value->Prop} {a0 a1 a2 a3:Value} {l:List Value} (h:∀ (j:Nat) (u:Value),(a0::a1::a2::a3::l)[j]? = some u->P j u):P 0 a0/\P 1 a1/\P 2 a2/\P 3 a3:=⟨h 0 _ rfl,h 1 _ rfl,h 2 _ rfl,h 3 _ rfl⟩
theorem rc5 {P:Nat->Value->Prop} {a0 a1 a2 a3 a4:Value} {l:List Value} (h:∀ (j:Nat) (u:Value),(a0::a1::a2::a3::a4::l)[j]? = some u->P j u):P 0 a0/\P 1 a1/\P 2 a2/\P 3 a3/\P 4 a4:=⟨h 0 _ rfl,h 1 _ rfl,h 2 _ rfl,h 3 _ rfl,h 4 _ rfl⟩
theorem rc6 {P:Nat->Value->Prop} {a0 a1 a2 a3 a4 a5:Value} {l:List Value} (h:∀ (j:Nat) (u:Value),(a0::a1::a2::a3::a4::a5::l)[j]? = some u->P j u):P 0 a0/\P 1 a1/\P 2 a2/\P 3 a3/\P 4 a4/\P 5 a5:=⟨h 0 _ rfl,h 1 _ rfl,h 2 _ rfl,h 3 _ rfl,h 4 _ rfl,h 5 _ rfl⟩
theorem rc8 {P:Nat->Value->Prop} {a0 a1 a2 a3 a4 a5 a6 a7:Value} {l:List Value} (h:∀ (j:Nat) (u:Value),(a0::a1::a2::a3::a4::a5::a6::a7::l)[j]? = some u->P j u):P 0 a0/\P 1 a1/\P 2 a2/\P 3 a3/\P 4 a4/\P 5 a5/\P 6 a6/\P 7 a7:=⟨h 0 _ rfl,h 1 _ rfl,h 2 _ rfl,h 3 _ rfl,h 4 _ rfl,h 5 _ rfl,h 6 _ rfl,h 7 _ rfl⟩
theorem rc9 {P:Nat->Value->Prop} {a0 a1 a2 a3 a4 a5 a6 a7 a8:Value} {l:List Value} (h:∀ (j:Nat) (u:Value),(a0::a1::a2::a3::a4::a5::a6::a7::a8::l)[j]? = some u->P j u):P 0 a0/\P 1 a1/\P 2 a2/\P 3 a3/\P 4 a4/\P 5 a5/\P 6 a6/\P 7 a7/\P 8 a8:=⟨h 0 _ rfl,h 1 _ rfl,h 2 _ rfl,h 3 _ rfl,h 4 _ rfl,h 5 _ rfl,h 6 _ rfl,h 7 _ rfl,h 8 _ rfl⟩
theorem ovS {V W:World} (h:Below V.heap.size V W):∀ a:Addr,(V.cell? a).isSome=true->W.cell? a=V.cell? a:=fun a ha=>by
 obtain ⟨u,hu⟩:=Option.isSome_iff_exists.1 ha
 exact h.cell (World.block_lt_of_cell? V _ hu)
theorem kO {P:Program} {ops:Array Oper} {Q:Exit->Act->World->Prop} {md:Region.Mode} {S:World->Prop} {oi:Oper} {v:Value} {fuel:Nat} {listed:Array Bool} {a:Act} {w:World} {Z:Prop} (i:Nat) (h:Z)
  (hi:ops[i]? = some oi:=by rfl) (hy:YieldsIf P ops S oi v a:=by (refine Or.inl ⟨by rfl,?_⟩;intro w' hSw;have hSw:=ovS hSw;go_simp;try with_reducible rfl)) (hS:S w:=by assumption)
  (hs:Region.noSelect ops=true:=by kernel_rfl) (hf:Region.free md ops listed i=true:=by kernel_rfl) (hr:(Region.ready md ops listed).contains i=true:=by kernel_rfl)
  (hQ:∀ c a w,Q (.panic c) (a.put oi.dst v) w->Q (.panic c) a w:=by exact fun _ _ _ h=>h)
  (hz:Z->wpAnyH P md ops Q S fuel (listed.setIfInBounds i true) (a.put oi.dst v) w:=by (intro hz;(try simp only [aqt]);exact hz)):wpAnyH P md ops Q S (fuel+1) listed a w:=
 wpAnyH_take hi hs hf hr hQ hy hS (hz h)
def Hx (p:Prop):Prop:=p
theorem Hx.o {p:Prop} (h:Hx p):p:=h
theorem nO {q a1 a2 a3 a4 a5 a6 Z:Prop} (N1:Hx (a1->q)) (N2:Hx (a2->q)) (N3:Hx (a3->q)) (N4:Hx (a4->q)) (N5:Hx (a5->q)) (N6:Hx (a6->q)) (hz:Z)
  (h:Z->a1\/a2\/a3\/a4\/a5\/a6:=by (intro hz;first | exact Or.inl (by (try simp at hz);(try simp);omega) | exact Or.inr (Or.inl (by (try simp at hz);(try simp);omega)) | exact Or.inr (Or.inr (Or.inl (by (try simp at hz);(try simp);omega))) | exact Or.inr (Or.inr (Or.inr (Or.inl (by (try simp at hz);(try simp);omega)))) | exact Or.inr (Or.inr (Or.inr (Or.inr (Or.inl (by (try simp at hz);(try simp);omega))))) | exact Or.inr (Or.inr (Or.inr (Or.inr (Or.inr (by (try simp at hz);(try simp);omega))))))):Hx q:=
 (h hz).elim N1.o fun h=>h.elim N2.o fun h=>h.elim N3.o fun h=>h.elim N4.o fun h=>h.elim N5.o N6.o
theorem ce1 {w w':World} (hb:Below w.heap.size w w') {a:Addr} {u:Value} (h:w.cell? a=some u):w'.cell? a=some u:=by
 rw [hb.cell (World.block_lt_of_cell? w _ h)];exact h
theorem co2 {w w':World} (hb:Below w.heap.size w w') {a0 a1:Addr} {u0 u1:Value} (h0:w.cell? a0=some u0) (h1:w.cell? a1=some u1):w'.cell? a0=some u0/\w'.cell? a1=some u1:=⟨ce1 hb h0,ce1 hb h1⟩
theorem co3 {w w':World} (hb:Below w.heap.size w w') {a0 a1 a2:Addr} {u0 u1 u2:Value} (h0:w.cell? a0=some u0) (h1:w.cell? a1=some u1) (h2:w.cell? a2=some u2):w'.cell? a0=some u0/\w'.cell? a1=some u1/\w'.cell? a2=some u2:=⟨ce1 hb h0,ce1 hb h1,ce1 hb h2⟩
theorem co4 {w w':World} (hb:Below w.heap.size w w') {a0 a1 a2 a3:Addr} {u0 u1 u2 u3:Value} (h0:w.cell? a0=some u0) (h1:w.cell? a1=some u1) (h2:w.cell? a2=some u2) (h3:w.cell? a3=some u3):w'.cell? a0=some u0/\w'.cell? a1=some u1/\w'.cell? a2=some u2/\w'.cell? a3=some u3:=⟨ce1 hb h0,ce1 hb h1,ce1 hb h2,ce1 hb h3⟩
theorem co5 {w w':World} (hb:Below w.heap.size w w') {a0 a1 a2 a3 a4:Addr} {u0 u1 u2 u3 u4:Value} (h0:w.cell? a0=some u0) (h1:w.cell? a1=some u1) (h2:w.cell? a2=some u2) (h3:w.cell? a3=some u3) (h4:w.cell? a4=some u4):w'.cell? a0=some u0/\w'.cell? a1=some u1/\w'.cell? a2=some u2/\w'.cell? a3=some u3/\w'.cell? a4=some u4:=⟨ce1 hb h0,ce1 hb h1,ce1 hb h2,ce1 hb h3,ce1 hb h4⟩
theorem co6 {w w':World} (hb:Below w.heap.size w w') {a0 a1 a2 a3 a4 a5:Addr} {u0 u1 u2 u3 u4 u5:Value} (h0:w.cell? a0=some u0) (h1:w.cell? a1=some u1) (h2:w.cell? a2=some u2) (h3:w.cell? a3=some u3) (h4:w.cell? a4=some u4) (h5:w.cell? a5=some u5):w'.cell? a0=some u0/\w'.cell? a1=some u1/\w'.cell? a2=some u2/\w'.cell? a3=some u3/\w'.cell? a4=some u4/\w'.cell? a5=some u5:=⟨ce1 hb h0,ce1 hb h1,ce1 hb h2,ce1 hb h3,ce1 hb h4,ce1 hb h5⟩
theorem co7 {w w':World} (hb:Below w.heap.size w w') {a0 a1 a2 a3 a4 a5 a6:Addr} {u0 u1 u2 u3 u4 u5 u6:Value} (h0:w.cell? a0=some u0) (h1:w.cell? a1=some u1) (h2:w.cell? a2=some u2) (h3:w.cell? a3=some u3) (h4:w.cell? a4=some u4) (h5:w.cell? a5=some u5) (h6:w.cell? a6=some u6):w'.cell? a0=some u0/\w'.cell? a1=some u1/\w'.cell? a2=some u2/\w'.cell? a3=some u3/\w'.cell? a4=some u4/\w'.cell? a5=some u5/\w'.cell? a6=some u6:=⟨ce1 hb h0,ce1 hb h1,ce1 hb h2,ce1 hb h3,ce1 hb h4,ce1 hb h5,ce1 hb h6⟩
theorem co8 {w w':World} (hb:Below w.heap.size w w') {a0 a1 a2 a3 a4 a5 a6 a7:Addr} {u0 u1 u2 u3 u4 u5 u6 u7:Value} (h0:w.cell? a0=some u0) (h1:w.cell? a1=some u1) (h2:w.cell? a2=some u2) (h3:w.cell? a3=some u3) (h4:w.cell? a4=some u4) (h5:w.cell? a5=some u5) (h6:w.cell? a6=some u6) (h7:w.cell? a7=some u7):w'.cell? a0=some u0/\w'.cell? a1=some u1/\w'.cell? a2=some u2/\w'.cell? a3=some u3/\w'.cell? a4=some u4/\w'.cell? a5=some u5/\w'.cell? a6=some u6/\w'.cell? a7=some u7:=⟨ce1 hb h0,ce1 hb h1,ce1 hb h2,ce1 hb h3,ce1 hb h4,ce1 hb h5,ce1 hb h6,ce1 hb h7⟩
theorem co9 {w w':World} (hb:Below w.heap.size w w') {a0 a1 a2 a3 a4 a5 a6 a7 a8:Addr} {u0 u1 u2 u3 u4 u5 u6 u7 u8:Value} (h0:w.cell? a0=some u0) (h1:w.cell? a1=some u1) (h2:w.cell? a2=some u2) (h3:w.cell? a3=some u3) (h4:w.cell? a4=some u4) (h5:w.cell? a5=some u5) (h6:w.cell? a6=some u6) (h7:w.cell? a7=some u7) (h8:w.cell? a8=some u8):w'.cell? a0=some u0/\w'.cell? a1=some u1/\w'.cell? a2=some u2/\w'.cell? a3=some u3/\w'.cell? a4=some u4/\w'.cell? a5=some u5/\w'.cell? a6=some u6/\w'.cell? a7=some u7/\w'.cell? a8=some u8:=⟨ce1 hb h0,ce1 hb h1,ce1 hb h2,ce1 hb h3,ce1 hb h4,ce1 hb h5,ce1 hb h6,ce1 hb h7,ce1 hb h8⟩
theorem Bh {w w':World} (hb:Below w.heap.size w w') {a0 a1 a2 a3 a4 a5 a6 a7 a8 a9:Addr} {u0 u1 u2 u3 u4 u5 u6 u7 u8 u9:Value} (h0:w.cell? a0=some u0) (h1:w.cell? a1=some u1) (h2:w.cell? a2=some u2) (h3:w.cell? a3=some u3) (h4:w.cell? a4=some u4) (h5:w.cell? a5=some u5) (h6:w.cell? a6=some u6) (h7:w.cell? a7=some u7) (h8:w.cell? a8=some u8) (h9:w.cell? a9=some u9):w'.cell? a0=some u0/\w'.cell? a1=some u1/\w'.cell? a2=some u2/\w'.cell? a3=some u3/\w'.cell? a4=some u4/\w'.cell? a5=some u5/\w'.cell? a6=some u6/\w'.cell? a7=some u7/\w'.cell? a8=some u8/\w'.cell? a9=some u9:=⟨ce1 hb h0,ce1 hb h1,ce1 hb h2,ce1 hb h3,ce1 hb h4,ce1 hb h5,ce1 hb h6,ce1 hb h7,ce1 hb h8,ce1 hb h9⟩
theorem cn3 {w:World} {n:Nat} {a0 a1 a2:Addr} {u0 u1 u2:Value} (h0:w.cell? a0=some u0) (h1:w.cell? a1=some u1) (h2:w.cell? a2=some u2):(w.drewN n).cell? a0=some u0/\(w.drewN n).cell? a1=some u1/\(w.drewN n).cell? a2=some u2:=⟨h0,h1,h2⟩
theorem Bl {w:World} {n:Nat} {a0 a1 a2 a3 a4 a5 a6 a7 a8 a9:Addr} {u0 u1 u2 u3 u4 u5 u6 u7 u8 u9:Value} (h0:w.cell? a0=some u0) (h1:w.cell? a1=some u1) (h2:w.cell? a2=some u2) (h3:w.cell? a3=some u3) (h4:w.cell? a4=some u4) (h5:w.cell? a5=some u5) (h6:w.cell? a6=some u6) (h7:w.cell? a7=some u7) (h8:w.cell? a8=some u8) (h9:w.cell? a9=some u9):(w.drewN n).cell? a0=some u0/\(w.drewN n).cell? a1=some u1/\(w.drewN n).cell? a2=some u2/\(w.drewN n).cell? a3=some u3/\(w.drewN n).cell? a4=some u4/\(w.drewN n).cell? a5=some u5/\(w.drewN n).cell? a6=some u6/\(w.drewN n).cell? a7=some u7/\(w.drewN n).cell? a8=some u8/\(w.drewN n).cell? a9=some u9:=⟨h0,h1,h2,h3,h4,h5,h6,h7,h8,h9⟩
theorem bA (w:World) (o:Obj):Below w.heap.size w (w.alloc o):=(Below.refl _ w).alloc (Nat.le_refl _) o
theorem bD (w:World):Below w.heap.size w w.drew:=(Below.refl _ w).drew
theorem bL {w:World} {a:Addr} {u:Value} (h:w.cell? a=some u):a.block < w.heap.size:=World.block_lt_of_cell? w _ h
theorem orT {A B C E:Prop} (h:(A/\E)\/(B/\C)) (hb:¬ B:=by (intro h;cases h)):E:=h.elim (fun h=>h.2) (fun h=>absurd h.1 hb)
end Go.Proofs.YtfffpjkcfnekaaaGreat
namespace Go.Proofs.YtfffpjkcfnekaaaGreat.Ex
open Go.RowKit Go.ChangeShapes Go.WideShapes
open Go.Value renaming slice -> O, int -> zd, bool -> ze, agg -> zg, pointer -> zi, tuple -> zj
open Go.IntKind renaming i64 -> U
open Go.Obj renaming cells -> zf
open Go.Ending renaming returned -> zh
theorem Tryz.cellsX:Tryz.prog.cellsOf 94=3:=by kernel_rfl
theorem Tryz.cellsXs:Tryz.prog.cellsOf 92=1:=by kernel_rfl
theorem Tryz.cellsI:Tryz.prog.cellsOf 3=1:=by kernel_rfl
abbrev D:=DataW Empty
def xD (k n:Int) (args:List D):D:=.agg [.lit (.int U k),.lit (.int U n),.slice args []]
def XS (size:Nat) (R:List Value->D->Prop) (w:World) (v:Value) (ds:List D):Prop:=
 ds.length<=maxLen/\∃ ao cap,v=O ao ds.length cap/\(ds≠[]->∃ b off,ao=some ⟨b,off,none⟩ /\
  ∀ (i:Nat) (d:D),ds[i]? = some d->∃ cs:List Value,cs.length=size/\(∀ (j:Nat) (u:Value),cs[j]? = some u->w.cell? ⟨b,off+i*size+j,none⟩=some u)/\R cs d)
def Bn (n:Int):Prop:=-9223372036854775808<=n/\n<=9223372036854775807
theorem L6 {n:Int} (h:(Lit.int U n).wf=true):Bn n:=by
 have h2:(decide (IntKind.i64.min<=n) && decide (n<=IntKind.i64.max))=true:=h
 rw [Bool.and_eq_true,decide_eq_true_iff,decide_eq_true_iff] at h2
 exact h2
def RX (w:World):Nat->List Value->D->Prop
 | 0,_,_=>False
 | k+1,cs,d=>∃ (kd n:Int) (v:Value) (ds:List D),cs=[zd U kd,zd U n,v]/\d=xD kd n ds/\Bn kd/\Bn n/\XS 3 (RX w k) w v ds
theorem XS.mono {size:Nat} {R R':List Value->D->Prop} {w w':World} {v:Value} {ds:List D} (h:XS size R w v ds)
  (hw:∀ a u,w.cell? a=some u->w'.cell? a=some u) (hR:∀ cs d,d∈ds->R cs d->R' cs d):XS size R' w' v ds:=by
 obtain ⟨hm,ao,cap,hv,hc⟩:=h
 refine ⟨hm,ao,cap,hv,fun hne=>?_⟩
 obtain ⟨b,off,hao,hel⟩:=hc hne
 refine ⟨b,off,hao,fun i d hd=>?_⟩
 obtain ⟨cs,hl,hcs,hr⟩:=hel i d hd
 exact ⟨cs,hl,fun j u hu=>hw _ _ (hcs j u hu),hR cs d (List.mem_of_getElem? hd) hr⟩
theorem RX.mono {w w':World} (hw:∀ a u,w.cell? a=some u->w'.cell? a=some u) :
  ∀ (k m:Nat) (cs:List Value) (d:D),k<=m->RX w k cs d->RX w' m cs d:=by
 intro k
 induction k with
 | zero=>intro m cs d _ h;exact h.elim
 | succ k ih=>
  intro m cs d hkm h
  obtain ⟨m',rfl⟩:∃ m',m=m' + 1:=⟨m - 1,by omega⟩
  obtain ⟨kd,n,v,ds,hcs,hd,h1,h2,hr⟩:=h
  exact ⟨kd,n,v,ds,hcs,hd,h1,h2,hr.mono hw (fun cs d _ hh=>ih m' cs d (by omega) hh)⟩
theorem Ea {H:Type} {enc:TypeId × Value->H} {W:World}:∀ (fuel:Nat) (cs:List Value) (x:DataW H × List MemPlace),DataW.trod enc Tryz.prog W 0 (fun _=>true) true fuel 94 cs=some x->∃ d,RX W fuel cs d:=by
 intro fuel
 induction fuel using Nat.strongRecOn with
 | ind fuel ih=>
  intro cs x h
  obtain ⟨xs,n,rfl,hx,hl,hxl,hf⟩:=DataW.trod_struct Tryz.underlying94 h
  rw [Tryz.cellsX] at hl
  match cs,hl,xs,hxl with
  | [c0,c1,c2],_,[y0,y1,y2],_=>
   have h0:=hf 0 _ rfl
   have h1:=hf 1 _ rfl
   have h2:=hf 2 _ rfl
   simp [Tryz.cellsI,Tryz.cellsXs] at h0 h1 h2
   obtain ⟨a,e0,r0⟩:=DataW.trod_int Tryz.underlying3 h0
   obtain ⟨b,e1,r1⟩:=DataW.trod_int Tryz.underlying3 h1
   simp at e0 e1
   subst e0
   subst e1
   have wa:Bn a:=L6 r0.2
   have wb:Bn b:=L6 r1.2
   rcases DataW.trod_slice Tryz.underlying92 h2 with ⟨hcs,-⟩ | ⟨ad,len,cap,elems,rest,m,rfl,hcs,-,-,hlc,hcm,hel,hat,-,-⟩
   ·simp at hcs
    subst hcs
    exact ⟨xD a b [],a,b,_,[],rfl,rfl,wa,wb,by simp,none,0,rfl,fun h=>absurd rfl h⟩
   ·simp at hcs
    subst hcs
    rw [Tryz.cellsX] at hat
    have hget:∀ i,i < len->∃ d:D,∃ cs:List Value,cs.length=3/\(∀ (j:Nat) (u:Value),cs[j]? = some u->W.cell? (ad.add (i*3+j))=some u)/\RX W (m+1) cs d:=fun i hi=>by
     have hi2:=hat i hi
     rw [List.getElem?_eq_getElem (by omega),Option.bind_eq_some_iff] at hi2
     obtain ⟨cs,hc,ht⟩:=hi2
     obtain ⟨-,hlen,hcell⟩:=World.cells?_some hc
     obtain ⟨d,hd⟩:=ih m (by omega) cs _ ht
     refine ⟨d,cs,hlen,fun j u hu=>?_,RX.mono (fun _ _ h=>h) m (m+1) cs d (by omega) hd⟩
     have hj:j < 3:=by have:=(List.getElem?_eq_some_iff.1 hu).1;omega
     have hk:=hcell j hj
     rw [hu] at hk
     rw [Addr.add_add] at hk
     exact hk
    obtain ⟨f,hf⟩:=Deep.choose_lt hget
    refine ⟨xD a b ((List.range len).map f),a,b,_,(List.range len).map f,rfl,rfl,wa,wb,by simp;omega,some ad,cap,by simp,fun hne=>?_⟩
    have h0:0 < len:=by
     rcases Nat.eq_zero_or_pos len with h | h
     ·subst h;simp at hne
     ·exact h
    have hp:∃ b off,ad=⟨b,off,none⟩:=by
     obtain ⟨cs,hl,hc,-⟩:=hf 0 h0
     obtain ⟨u,hu⟩:∃ u,cs[0]? = some u:=⟨cs[0]'(by omega),List.getElem?_eq_getElem (by omega)⟩
     have hk:=hc 0 u hu
     have hsp:ad.spot=none:=by simpa [Addr.add] using World.cell?_spot hk
     obtain ⟨b,off,sp⟩:=ad
     simp only at hsp
     subst hsp
     exact ⟨b,off,rfl⟩
    obtain ⟨bb,off,rfl⟩:=hp
    refine ⟨bb,off,rfl,fun i d hd=>?_⟩
    have hi:i < len:=by
     have:=(List.getElem?_eq_some_iff.1 hd).1
     simpa using this
    have hd':d=f i:=by
     rw [List.getElem?_map,List.getElem?_range hi] at hd
     simpa using hd.symm
    subst hd'
    obtain ⟨cs,hl,hc,hr⟩:=hf i hi
    exact ⟨cs,hl,fun j u hu=>by have:=hc j u hu;rw [Addr.add_lit] at this;simpa [Nat.add_assoc] using this,hr⟩
end Go.Proofs.YtfffpjkcfnekaaaGreat.Ex
namespace Go.Proofs.YtfffpjkcfnekaaaGreat.Ex
open Go.RowKit
open Go.Value renaming slice -> O, int -> zd, bool -> ze, agg -> zg, pointer -> zi, tuple -> zj
open Go.IntKind renaming i64 -> U
open Go.Obj renaming cells -> zf
open Go.Ending renaming returned -> zh
theorem Aa {p:Prop} (h:p):Hx p:=h
theorem BK (x a b:Int) (w:World) :
  Calls Tryz.prog 76 #[zd U x,zd U a,zd U b] w fun e w'=>e=zh (ze (decide (a<=x/\x<=b)))/\w'=w:=by
 by_cases h1:a<=x
 ·by_cases h2:x<=b
  ·go_enter Tryz.func76,Tryz.ntmps76
   go_wp2
   go_ret
   exact ⟨by simp;omega,rfl⟩
  ·go_enter Tryz.func76,Tryz.ntmps76
   go_wp2
   go_ret
   exact ⟨by simp;omega,rfl⟩
 ·go_enter Tryz.func76,Tryz.ntmps76
  go_wp2
  go_ret
  exact ⟨by simp;omega,rfl⟩
def Cs (n:Int):Bool:=decide (-2147483648<=n/\n<=2147483647)
theorem FT (x:Int) (w:World):Calls Tryz.prog 85 #[zd U x] w fun e w'=>e=zh (ze (Cs x))/\w'=w:=by
 go_enter Tryz.func85,Tryz.ntmps85
 go_wp2_with fail
 refine (BK x (-2147483648) 2147483647 _).mono ?_
 rintro e w' ⟨rfl,rfl⟩
 go_wp2_with fail
 go_ret
 exact ⟨by simp [Cs],rfl⟩
def wrap32 (z:Int):Int:=(z+2147483648) % 4294967296 - 2147483648
theorem Dj (z:Int):-2147483648<=wrap32 z/\wrap32 z<=2147483647:=by unfold wrap32;omega
theorem AI {W w1:World} (hb:Ov W w1):(∀ b o,b < W.heap.size->w1.cell? ⟨b,o,none⟩=W.cell? ⟨b,o,none⟩)/\(∀ b o,b < W.heap.size->w1.frozen? ⟨b,o,none⟩=W.frozen? ⟨b,o,none⟩):=
 ⟨fun b o h=>hb.cell (p:=⟨b,o,none⟩) h,fun b o h=>hb.frozen (p:=⟨b,o,none⟩) h⟩
theorem Ab {w w':World} (hb:Ov w w') (a:Addr) (u:Value) (h:w.cell? a=some u):w'.cell? a=some u:=by
 rw [hb.cell (bL h)]
 exact h
theorem RX.over {w w':World} {k:Nat} {cs:List Value} {d:D} (h:RX w k cs d) (hb:Ov w w'):RX w' k cs d:=RX.mono (Ab hb) k k cs d (Nat.le_refl _) h
def Ar:D->List D
 | .agg [_,_,.slice l _]=>l
 | _=>[]
def Ap:D->Int
 | .agg (.lit (.int _ n)::_)=>n
 | _=>0
def AA:D->Int
 | .agg (_::.lit (.int _ n)::_)=>n
 | _=>0
@[simp] theorem GQ (k n:Int) (l:List D):Ar (xD k n l)=l:=rfl
@[simp] theorem EU (k n:Int) (l:List D):Ap (xD k n l)=k:=rfl
@[simp] theorem H6 (k n:Int) (l:List D):AA (xD k n l)=n:=rfl
theorem RX.form {w:World} {k:Nat} {cs:List Value} {d:D} (h:RX w k cs d):∃ ao cap,cs=[zd U (Ap d),zd U (AA d),O ao (Ar d).length cap]:=by
 cases k with
 | zero=>exact h.elim
 | succ k=>
  obtain ⟨kd,n,v,ds,rfl,rfl,-,-,-,ao,cap,rfl,-⟩:=h
  exact ⟨ao,cap,rfl⟩
def AO (f:D->Int->Int) (m:Int):List D->Int->Int
 | [],n=>n
 | a::l,n=>if n<=m then AO f m l (n+f a (m - n)) else n
def A4:Nat->D->Int->Int
 | 0,_,_=>1
 | k+1,d,m=>AO (A4 k) m (Ar d) 1
theorem Es (f:D->Int->Int) (hf:∀ d m,0<=m->1<=f d m/\f d m<=m+1) (m:Int):∀ (l:List D) (n:Int),1<=n->n<=m+1->1<=AO f m l n/\AO f m l n<=m+1
 | [],n,h1,h2=>⟨h1,h2⟩
 | a::l,n,h1,h2=>by
  unfold AO
  split
  ·have:=hf a (m - n) (by omega)
   exact Es f hf m l _ (by omega) (by omega)
  ·exact ⟨h1,h2⟩
theorem Dl:∀ (k:Nat) (d:D) (m:Int),0<=m->1<=A4 k d m/\A4 k d m<=m+1
 | 0,_,m,h=>by unfold A4;omega
 | k+1,d,m,h=>Es _ (Dl k) m _ 1 (by omega) (by omega)
theorem DF (f:D->Int->Int) (m:Int) (l) (n:Int) (h:m < n):AO f m l n=n:=by
 cases l with
 | nil=>rfl
 | cons a l=>unfold AO;rw [if_neg (by omega)]
theorem DE {f:D->Int->Int} {m n:Int} {l:List D} {j:Nat} (hj:j < l.length) (h:n<=m):AO f m (l.drop j) n=AO f m (l.drop (j+1)) (n+f l[j] (m - n)):=by
 rw [List.drop_eq_getElem_cons hj]
 rw [AO,if_pos h]
theorem IK:∀ (k:Nat) (cs:List Value) (d:D) (w:World) (m:Int),RX w k cs d->0<=m->m<=15 ->
  Calls Tryz.prog 159 #[.agg cs.toArray,zd U m] w fun e w'=>e=zh (zd U (A4 k d m))/\Ov w w':=by
 intro k
 induction k with
 | zero=>intro cs d w m h;exact h.elim
 | succ k ih=>
  intro cs d w m h m0 m1
  obtain ⟨kd,n,v,ds,rfl,rfl,hkd,hn,hlen,ao,cap,rfl,hc⟩:=h
  have HC:=Aa hc
  have IH:=Aa ih
  have HL:ds.length<=9223372036854775807:=hlen
  have hspec:A4 (k+1) (xD kd n ds) m=AO (A4 k) m ds 1:=rfl
  rw [hspec]
  have hbel:Ov w (w.alloc (zf #[zd U kd,zd U n,O ao ds.length cap] 94)):=bA w _
  clear hc ih hspec hkd hn hlen
  show Calls Tryz.prog 159 #[zg #[zd U kd,zd U n,O ao ds.length cap],zd U m] w _
  go_enter Tryz.func159,Tryz.ntmps159
  go_wp2_with fail
  go_loopw [5,6] (fun c i wr=>∃ (j:Nat) (t:Int),j<=ds.length/\i=zd U j/\c=zd U t/\1<=t/\t<=m+1/\AO (A4 k) m ds 1=AO (A4 k) m (ds.drop j) t/\wr.cell? ⟨w.heap.size,2,none⟩=some (O ao ds.length cap)/\Ov w wr) (fun _ i _=>ds.length - (intOf i).toNat)
  case atStart=>exact ⟨0,1,Nat.zero_le _,rfl,rfl,by omega,by omega,rfl,by simp [go_sem],hbel⟩
  case round=>
   clear hbel
   obtain ⟨j,t,hj,rfl,rfl,t1,t2,hp,c2,hB⟩:=hrel
   have HP:=Aa hp
   clear hp
   by_cases hjl:j < ds.length
   ·by_cases htm:t<=m
    ·obtain ⟨b,off,rfl,hcl⟩:=HC.o (by rintro rfl;simp at hjl)
     obtain ⟨cs,hl3,hcs,hr⟩:=hcl j ds[j] (List.getElem?_eq_getElem hjl)
     have hnext:=DE (f:=A4 k) hjl htm
     have hle:=Dl k ds[j] (m - t) (by omega)
     obtain ⟨ao',cap',hcse⟩:=hr.form
     obtain ⟨dj,hdj⟩:=nm (ds[j])
     rw [<-hdj] at hnext hle hr hcse
     obtain ⟨kj,hkj⟩:=nm (Ap dj)
     obtain ⟨nj,hnj⟩:=nm (AA dj)
     obtain ⟨lj,hlj⟩:=nm ((Ar dj).length)
     rw [<-hkj,<-hnj,<-hlj] at hcse
     subst hcse
     have q0:wr.cell? ⟨b,off+j*3,none⟩=_:=Ab hB _ _ (hcs 0 _ rfl)
     have q1:=Ab hB _ _ (hcs 1 _ rfl)
     have q2:=Ab hB _ _ (hcs 2 _ rfl)
     have hcall:=IH.o _ dj wr (m - t) (hr.over hB) (by omega) (by omega)
     obtain ⟨r,hre⟩:=nm (A4 k dj (m - t))
     rw [<-hre] at hcall hnext hle
     have HCALL:=Aa hcall
     have HN:=Aa hnext
     clear hcall hnext hre hkj hnj hlj hr hcs hcl hl3 hdj
     go_wp2_with fail
     refine (HCALL.o).mono ?_
     rintro e w1 ⟨rfl,hb1⟩
     have c2':=Ab hb1 _ _ c2
     have hB':Ov w w1:=hB.trans (hb1.mono hB.size)
     clear c2 q0 q1 q2 hB hb1 HCALL
     go_wp2_with fail
     exact ⟨⟨j+1,t+r,by omega,by go_num,by go_num,by omega,by omega,by rw [HP.o,HN.o],c2',hB'⟩,by simp [intOf];omega⟩
    ·have hd:=DF (A4 k) m (ds.drop j) t (by omega)
     have HD:=Aa hd
     clear hd
     go_wp2_with fail
     go_ret
     exact ⟨by rw [HP.o,HD.o];rfl,hB⟩
   ·have hd:AO (A4 k) m (ds.drop j) t=t:=by rw [List.drop_eq_nil_of_le (by omega)];rfl
    have HD:=Aa hd
    clear hd
    go_wp2_with fail
    go_ret
    exact ⟨by rw [HP.o,HD.o];rfl,hB⟩
def Aq (w:World) (v:Value) (l:List Int):Prop:=
 ∃ ao cap,v=O ao l.length cap/\(l≠[]->∃ b off,ao=some ⟨b,off,none⟩/\∀ i (h:i < l.length),w.cell? ⟨b,off+i,none⟩=some (zd U l[i]))
theorem Aq.over {w w':World} {v:Value} {l:List Int} (h:Aq w v l) (hb:Ov w w'):Aq w' v l:=by
 obtain ⟨ao,cap,hv,hc⟩:=h
 refine ⟨ao,cap,hv,fun hne=>?_⟩
 obtain ⟨b,off,hao,hel⟩:=hc hne
 exact ⟨b,off,hao,fun i hi=>Ab hb _ _ (hel i hi)⟩
def opX (k a b:Int):Int:=
 if k=3 then wrap32 (a+b) else if k=4 then wrap32 (a - b) else if k=5 then wrap32 (a*b) else if k=6/\a < b\/k=7/\a=b then 1 else 0
def Aw (vs:List Int):Nat->D->Int
 | 0,_=>0
 | k+1,d=>if Ap d=1 then AA d else if Ap d=2 then vs.getD (AA d).toNat 0 else
  match Ar d with
  | [x,y]=>opX (Ap d) (Aw vs k x) (Aw vs k y)
  | _=>0
def okX (m:Nat):Nat->D->Prop
 | 0,_=>False
 | k+1,d=>(Ap d=1/\-9999999<=AA d/\AA d<=9999999)\/(Ap d=2/\0<=AA d/\AA d < m)\/(3<=Ap d/\Ap d<=7/\∃ x y,Ar d=[x,y]/\okX m k x/\okX m k y)
def I32 (n:Int):Prop:=-2147483648<=n/\n<=2147483647
theorem Mp (k a b:Int):I32 (opX k a b):=by
 unfold opX I32
 have h1:=Dj (a+b)
 have h2:=Dj (a - b)
 have h3:=Dj (a*b)
 repeat' split
 all_goals omega
theorem DQ {vs:List Int} (hv:∀ x∈vs,I32 x):∀ (k:Nat) (d:D),okX vs.length k d->I32 (Aw vs k d):=by
 intro k
 induction k with
 | zero=>intro d h;exact h.elim
 | succ k ih=>
  intro d h
  rcases h with ⟨h1,h2,h3⟩ | ⟨h1,h2,h3⟩ | ⟨h1,h2,x,y,hxy,hx,hy⟩
  ·unfold Aw
   rw [if_pos h1]
   unfold I32
   omega
  ·unfold Aw
   rw [if_neg (by omega),if_pos h1]
   have hl:(AA d).toNat < vs.length:=by omega
   rw [List.getD_eq_getElem?_getD,List.getElem?_eq_getElem hl]
   exact hv _ (List.getElem_mem hl)
  ·unfold Aw
   rw [if_neg (by omega),if_neg (by omega),hxy]
   exact Mp _ _ _
theorem L2 {w w0 w1:World} {a0 a1 a2 a3 a4 a5 a6 a7:Addr} {v0 v1 v2 v3 v4 v5 v6 v7:Value}
  (h:w0.cell? a0=some v0/\w0.cell? a1=some v1/\w0.cell? a2=some v2/\w0.cell? a3=some v3/\w0.cell? a4=some v4/\w0.cell? a5=some v5/\w0.cell? a6=some v6/\w0.cell? a7=some v7/\Ov w w0) (hb:Ov w0 w1) :
  w1.cell? a0=some v0/\w1.cell? a1=some v1/\w1.cell? a2=some v2/\w1.cell? a3=some v3/\w1.cell? a4=some v4/\w1.cell? a5=some v5/\w1.cell? a6=some v6/\w1.cell? a7=some v7/\Ov w w1:=by
 obtain ⟨h0,h1,h2,h3,h4,h5,h6,h7,hB⟩:=h
 exact ⟨Ab hb _ _ h0,Ab hb _ _ h1,Ab hb _ _ h2,Ab hb _ _ h3,Ab hb _ _ h4,Ab hb _ _ h5,Ab hb _ _ h6,Ab hb _ _ h7,hB.trans (hb.mono hB.size)⟩
theorem below_drewN {W w:World} {n:Nat} (h:Below n W w) (k:Nat):Below n W (w.drewN k):=by
 induction k with
 | zero=>exact h
 | succ k ih=>exact ih.drew
theorem Ca {W W':World} {B e s:Nat} {v:Value} {k:Nat} {xs:List Value} (h:W.ownsRow B e s v k xs) (hb:Ov W W'):W'.ownsRow B e s v k xs:=by
 obtain ⟨h1,h2⟩:=h
 refine ⟨h1,?_⟩
 rcases h2 with h2 | ⟨g,cap,cur,hv,hg,hh,r⟩
 ·exact Or.inl h2
 ·refine Or.inr ⟨g,cap,cur,hv,hg,?_,r⟩
  rw [hb.block g (Array.getElem?_eq_some_iff.1 hh).1]
  exact hh
theorem Gl {W:World} {B B' e s:Nat} {v:Value} {k:Nat} {xs:List Value} (h:W.ownsRow B e s v k xs) (hb:B'<=B):W.ownsRow B' e s v k xs:=by
 obtain ⟨h1,h2⟩:=h
 refine ⟨h1,?_⟩
 rcases h2 with h2 | ⟨g,cap,cur,hv,hg,r⟩
 ·exact Or.inl h2
 ·exact Or.inr ⟨g,cap,cur,hv,Nat.le_trans hb hg,r⟩
theorem DI {W:World} {B e s:Nat} {v:Value} {k:Nat} {xs:List Value} (h:W.ownsRow B e s v k xs) {g:Nat} (hg:v.ownBlock=some g):B<=g/\g < W.heap.size:=by
 rcases h.2 with ⟨rfl,_⟩ | ⟨g',cap,cur,rfl,hg',hh,_⟩
 ·cases hg
 ·simp [Value.ownBlock] at hg
  subst hg
  exact ⟨hg',(Array.getElem?_eq_some_iff.1 hh).1⟩
theorem AG {B e s:Nat} {W W':World} {v:Value} {k:Nat} {xs:List Value} (h:W.ownsRow B e s v k xs) (hg:W.grownBy W' v.ownBlock) (hB:B<=W.heap.size):Below B W W':=
 ⟨hg.os,hg.tape,hg.output,hg.size,fun j hj=>hg.block j (Nat.lt_of_lt_of_le hj hB) (fun e=>by have:=(DI h e.symm).1;omega)⟩
def BM:List D->List Value->Prop
 | [],xs=>xs=[]
 | d::l,xs=>∃ (ao:Option Addr) (cap:Nat) (r:List Value),xs=zd U (Ap d)::zd U (AA d)::O ao (Ar d).length cap::r/\BM l r
theorem BM.append:∀ {l l':List D} {xs xs':List Value},BM l xs->BM l' xs'->BM (l++l') (xs++xs')
 | [],_,_,_,h,h'=>by have e:_=_:=h;subst e;exact h'
 | d::l,_,_,_,h,h'=>by
  obtain ⟨ao,cap,r,rfl,hr⟩:=h
  exact ⟨ao,cap,r++_,rfl,hr.append h'⟩
theorem BM.one:∀ {l:List D} {xs:List Value},BM l xs->∀ u∈xs,u.oneCell'=true
 | [],_,h,u,hu=>by have e:_=_:=h;subst e;cases hu
 | d::l,_,h,u,hu=>by
  obtain ⟨ao,cap,r,rfl,hr⟩:=h
  simp only [List.mem_cons] at hu
  rcases hu with rfl | rfl | rfl | hu
  ·rfl
  ·rfl
  ·rfl
  ·exact hr.one u hu
theorem BM.length:∀ {l:List D} {xs:List Value},BM l xs->xs.length=l.length*3
 | [],_,h=>by have e:_=_:=h;subst e;rfl
 | d::l,_,h=>by
  obtain ⟨ao,cap,r,rfl,hr⟩:=h
  have:=hr.length
  simp
  omega
def AB:Nat->D->List D
 | 0,_=>[]
 | k+1,d=>d::(Ar d).flatMap (AB k)
theorem Eb {w:World} {k:Nat} {cs:List Value} {d:D} (h:RX w k cs d):0 < (AB k d).length:=by
 cases k with
 | zero=>exact h.elim
 | succ k=>simp [AB]
theorem Dp {W:World} {B e:Nat} {v:Value} {n:Nat} {xs:List Value} (h:W.ownsRow B e 3 v n xs) (hn:0 < n):∃ g cap,v=O (some ⟨g,0,none⟩) n cap/\B<=g/\g < W.heap.size/\∀ j u,xs[j]? = some u->W.cell? ((⟨g,0,none⟩:Addr).add j)=some u:=by
 rcases h.2 with ⟨_,h0⟩ | ⟨g,cap,cur,hv,hb,hg,h1,h2,h3,h4⟩
 ·omega
 ·refine ⟨g,cap,hv,hb,(Array.getElem?_eq_some_iff.1 hg).1,fun j u hu=>?_⟩
  rw [Addr.add_lit,Lib.cell_of_heap hg]
  rw [<-h4,List.getElem?_take] at hu
  split at hu
  ·simpa using hu
  ·cases hu
theorem Tryz.infoX:(Tryz.prog.info? 94).map (fun i=>(i.zero,i.size,i.bytes))=some (some (zg #[zd U 0,zd U 0,O none 0 0]),3,40):=by kernel_rfl
theorem IP (w:World) (x y z:Value) (B:Nat) (hB:B<=w.heap.size):(w.alloc (zf #[x,y,z] 94)).ownsRow B 94 3 (O (some ⟨w.heap.size,0,none⟩) 1 1) 1 [x,y,z]:=
 ⟨rfl,Or.inr ⟨w.heap.size,1,#[x,y,z],rfl,hB,heap_alloc_new w _,Nat.le_refl _,by decide,rfl,rfl⟩⟩
theorem LM:∀ (k:Nat) (cs:List Value) (d:D) (w:World),RX w k cs d->(AB k d).length<=15 ->
  Calls Tryz.prog 160 #[.agg cs.toArray] w fun e w'=>∃ v xs,e=zh v/\w'.ownsRow w.heap.size 94 3 v (AB k d).length xs/\BM (AB k d) xs/\Ov w w':=by
 intro k
 induction k with
 | zero=>intro cs d w h;exact h.elim
 | succ k ih=>
  intro cs d w h hm
  obtain ⟨kd,n,v,ds,rfl,rfl,hkd,hn,hlen,ao,cap,rfl,hc⟩:=h
  obtain ⟨i0,hi,hz0,hz1,hz2⟩:=info_parts Tryz.infoX
  have HC:=Aa hc
  have IH:=Aa ih
  have HL:ds.length<=9223372036854775807:=hlen
  have hspec:AB (k+1) (xD kd n ds)=xD kd n ds::ds.flatMap (AB k):=rfl
  rw [hspec] at hm ⊢
  have hmm:∀ j,j<=ds.length->(xD kd n ds::(ds.take j).flatMap (AB k)).length<=15:=fun j hj=>by
   have h2:ds.flatMap (AB k)=(ds.take j).flatMap (AB k)++(ds.drop j).flatMap (AB k):=by rw [<-List.flatMap_append,List.take_append_drop]
   rw [h2] at hm
   simp only [List.length_cons,List.length_append] at hm ⊢
   omega
  have HM:=Aa hmm
  clear hc ih hspec hkd hn hlen hmm
  obtain ⟨w0,hw0⟩:=nm (w.alloc (zf #[zd U kd,zd U n,O ao ds.length cap] 94))
  have hbel:Ov w w0:=by rw [hw0];exact bA w _
  have hsz0:w0.heap.size=w.heap.size+1:=by rw [hw0];simp
  have hbx:w0.cell? ⟨w.heap.size,2,none⟩=some (O ao ds.length cap):=by rw [hw0];simp [go_sem]
  have hal:Ov w0 (w0.alloc (zf #[zd U kd,zd U n,O ao ds.length cap] 94)):=bA w0 _
  have hbx':=Ab hal _ _ hbx
  have hown0:=IP w0 (zd U kd) (zd U n) (O ao ds.length cap) (w.heap.size+1) (by omega)
  have hB0:Ov w (w0.alloc (zf #[zd U kd,zd U n,O ao ds.length cap] 94)):=hbel.trans (hal.mono hbel.size)
  have HS:=Aa (And.intro hown0 (And.intro hbx' hB0))
  rw [hw0] at HS
  clear hal hbx hbx' hown0 hB0 hbel hsz0 hw0
  show Calls Tryz.prog 160 #[zg #[zd U kd,zd U n,O ao ds.length cap]] w _
  go_enter Tryz.func160,Tryz.ntmps160
  go_wp2_with fail
  go_loopw [3,4] (fun out i wr=>∃ (j:Nat) (xs:List Value),j<=ds.length/\i=zd U j/\wr.ownsRow (w.heap.size+1) 94 3 out (xD kd n ds::(ds.take j).flatMap (AB k)).length xs/\BM (xD kd n ds::(ds.take j).flatMap (AB k)) xs/\wr.cell? ⟨w.heap.size,2,none⟩=some (O ao ds.length cap)/\Ov w wr) (fun _ i _=>ds.length - (intOf i).toNat)
  case atStart=>
   obtain ⟨h1,h2,h3⟩:=HS.o
   refine ⟨0,[zd U kd,zd U n,O ao ds.length cap],Nat.zero_le _,rfl,?_,⟨ao,cap,[],rfl,rfl⟩,h2,h3⟩
   simpa using h1
  case round=>
   clear HS
   obtain ⟨j,xs,hj,rfl,hown,hcl,c2,hB⟩:=hrel
   by_cases hjl:j < ds.length
   ·obtain ⟨b,off,rfl,hel⟩:=HC.o (by rintro rfl;simp at hjl)
    obtain ⟨cs,hl3,hcs,hr⟩:=hel j ds[j] (List.getElem?_eq_getElem hjl)
    have hm1:=HM.o (j+1) hjl
    have htk:(ds.take (j+1)).flatMap (AB k)=(ds.take j).flatMap (AB k)++AB k ds[j]:=by
     rw [List.take_succ_eq_append_getElem hjl,List.flatMap_append];simp
    rw [htk] at hm1
    have HTK:=Aa htk
    have hpos:=Eb hr
    obtain ⟨ao',cap',hcse⟩:=hr.form
    obtain ⟨dj,hdj⟩:=nm (ds[j])
    rw [<-hdj] at hr hcse hpos hm1 HTK
    obtain ⟨pre,hpre⟩:=nm (xD kd n ds::(ds.take j).flatMap (AB k))
    rw [<-List.cons_append,<-hpre,List.length_append] at hm1
    rw [<-hpre] at hown hcl
    obtain ⟨kj,hkj⟩:=nm (Ap dj)
    obtain ⟨nj,hnj⟩:=nm (AA dj)
    obtain ⟨lj,hlj⟩:=nm ((Ar dj).length)
    rw [<-hkj,<-hnj,<-hlj] at hcse
    subst hcse
    have q0:wr.cell? ⟨b,off+j*3,none⟩=_:=Ab hB _ _ (hcs 0 _ rfl)
    have q1:=Ab hB _ _ (hcs 1 _ rfl)
    have q2:=Ab hB _ _ (hcs 2 _ rfl)
    have hcall:=IH.o _ dj wr (hr.over hB) (by omega)
    have HCALL:=Aa hcall
    have HPRE:=Aa hpre
    have HOWN:=Aa hown
    have hppos:0 < pre.length:=by rw [hpre];simp
    obtain ⟨g,gc,hgv,hgb,hgl,hgc⟩:=Dp hown hppos
    clear hcall hkj hnj hlj hr hcs hel hl3 hdj htk hpre hown hgc
    subst hgv
    go_wp2_with fail
    refine (HCALL.o).mono ?_
    rintro e w1 ⟨v1,ys,rfl,hown1,hcl1,hb1⟩
    obtain ⟨g1,gc1,rfl,hgb1,hgl1,hgc1⟩:=Dp hown1 hpos
    have c2':=Ab hb1 _ _ c2
    have hB':Ov w w1:=hB.trans (hb1.mono hB.size)
    have hownA:=Ca HOWN.o hb1
    have hs1:w.heap.size+1<=w1.heap.size:=bL c2'
    clear c2 q0 q1 q2 hB hb1 HCALL HOWN
    go_wp2_with (at_builtin;refine wpList_append_own _ rfl _ _ 92 rfl (w.heap.size+1) 94 i0 (zg #[zd U 0,zd U 0,O none 0 0]) 3 40 Tryz.underlying92 hi hz0 hz1 hz2 rfl (by decide) _ _ _ rfl hownA ⟨g1,0,none⟩ (AB k dj).length gc1 ys rfl hcl1.length hgc1 hcl1.one (by unfold maxLen;omega) (by omega) hs1 ?_)
    intro v2 w2 hown2 hgr2 _
    have hbl2:=AG hownA hgr2 hs1
    have c3:w2.cell? ⟨w.heap.size,2,none⟩=some (O (some ⟨b,off,none⟩) ds.length cap):=by
     rw [hbl2.cell (p:=⟨w.heap.size,2,none⟩) (Nat.lt_succ_self _)]
     exact c2'
    have hB2:Ov w w2:=hB'.trans (hbl2.mono (Nat.le_succ _))
    have HF:=Aa (And.intro hown2 (hcl.append hcl1))
    clear c2' hownA hown2 hgr2 hbl2 hB' hown1 hcl1 hgc1 hcl
    go_wp2_with fail
    refine ⟨⟨j+1,xs++ys,by omega,by go_num,?_,?_,c3,hB2⟩,by simp [intOf];omega⟩
    ·rw [HTK.o,<-List.cons_append,<-HPRE.o,List.length_append]
     exact HF.o.1
    ·rw [HTK.o,<-List.cons_append,<-HPRE.o]
     exact HF.o.2
   ·have hd:(ds.take j).flatMap (AB k)=ds.flatMap (AB k):=by rw [List.take_of_length_le (by omega)]
    rw [hd] at hown hcl
    have HO:=Aa hown
    have HCL:=Aa hcl
    have hppos:0 < (xD kd n ds::ds.flatMap (AB k)).length:=by simp
    obtain ⟨g,gc,hgv,hgb,hgl,hgc⟩:=Dp hown hppos
    subst hgv
    clear hd hown hcl hgc
    go_wp2_with fail
    go_ret
    exact ⟨_,xs,rfl,Gl HO.o (by omega),HCL.o,hB⟩
def Be (vars k n:Int) (l:Nat):Int:=
 if ¬ (1<=k/\k<=7) then 7 else if k<=2/\l≠0\/2 < k/\l≠2 then 1 else if k=1/\¬ (-9999999<=n/\n<=9999999)\/2 < k/\n≠0 then 3 else if k=2/\¬ (0<=n/\n<=vars - 1) then 5 else 0
def AW (vars:Int):List D->Int
 | []=>0
 | d::l=>if Be vars (Ap d) (AA d) (Ar d).length=0 then AW vars l else Be vars (Ap d) (AA d) (Ar d).length
def Am (vars:Int) (k:Nat) (d:D):Int:=if 15 < A4 k d 15 then 2 else AW vars (AB k d)
theorem GH {vars:Int} {l:List D} {j:Nat} (hj:j < l.length):AW vars (l.drop j)=if Be vars (Ap l[j]) (AA l[j]) (Ar l[j]).length=0 then AW vars (l.drop (j+1)) else Be vars (Ap l[j]) (AA l[j]) (Ar l[j]).length:=by
 rw [List.drop_eq_getElem_cons hj]
 rfl
theorem BM.at:∀ {l:List D} {xs:List Value},BM l xs->∀ (j:Nat) (hj:j < l.length),∃ (ao:Option Addr) (cap:Nat),xs[j*3]? = some (zd U (Ap l[j]))/\xs[j*3+1]? = some (zd U (AA l[j]))/\xs[j*3+2]? = some (O ao (Ar l[j]).length cap)
 | d::l,_,h,0,hj=>by
  obtain ⟨ao,cap,r,rfl,hr⟩:=h
  exact ⟨ao,cap,rfl,rfl,rfl⟩
 | d::l,_,h,j+1,hj=>by
  obtain ⟨ao,cap,r,rfl,hr⟩:=h
  obtain ⟨ao',cap',h0,h1,h2⟩:=hr.at j (by simpa using hj)
  refine ⟨ao',cap',?_,?_,?_⟩
  ·rw [Nat.succ_mul];exact h0
  ·rw [Nat.succ_mul];exact h1
  ·rw [Nat.succ_mul];exact h2
theorem D4 (f:D->Int->Int) (g:D->List D) (hf:∀ d m,0<=m->f d m<=m->((g d).length:Int)<=f d m) (m:Int):∀ (l:List D) (n:Int),AO f m l n<=m->((l.flatMap g).length:Int)+n<=AO f m l n
 | [],n,_=>by simp [AO]
 | a::l,n,h=>by
  rw [AO] at h ⊢
  split at h
  ·rename_i hn
   rw [if_pos hn]
   have h1:=D4 f g hf m l _ h
   have h2:(((a::l).flatMap g).length:Int)=((g a).length:Int)+((l.flatMap g).length:Int):=by simp
   have h3:=hf a (m - n) (by omega) (by omega)
   omega
  ·omega
theorem Ec:∀ (k:Nat) (d:D) (m:Int),0<=m->A4 k d m<=m->((AB k d).length:Int)<=A4 k d m
 | 0,_,m,_,h=>by simp [AB,A4]
 | k+1,d,m,h0,h=>by
  have h1:=D4 (A4 k) (AB k) (Ec k) m (Ar d) 1 h
  have h2:((AB (k+1) d).length:Int)=(((Ar d).flatMap (AB k)).length:Int)+1:=by simp [AB]
  rw [h2]
  exact h1
theorem btw {x a b:Int} {r:Bool} (h:decide (a<=x/\x<=b)=r):Hx (∀ W,Calls Tryz.prog 76 #[zd U x,zd U a,zd U b] W fun e w'=>e=zh (ze r)/\w'=W):=fun W=>h ▸ BK x a b W
theorem Br (k:Nat) (cs:List Value) (d) (w:World) (vars:Int) (v0:0<=vars) (v1:vars<=9223372036854775807) (h:RX w k cs d) :
  Calls Tryz.prog 97 #[.agg cs.toArray,zd U vars] w fun e w'=>e=zh (zd U (Am vars k d))/\Ov w w':=by
 obtain ⟨ao,cap,rfl⟩:=h.form
 obtain ⟨kd,hkd⟩:=nm (Ap d)
 obtain ⟨n,hn⟩:=nm (AA d)
 obtain ⟨dl,hdl⟩:=nm ((Ar d).length)
 rw [<-hkd,<-hn,<-hdl] at h ⊢
 clear hkd hn hdl
 obtain ⟨w0,hw0⟩:=nm (w.alloc (zf #[zd U kd,zd U n,O ao dl cap] 94))
 have hbel:Ov w w0:=by rw [hw0];exact bA w _
 have b0:w0.cell? ⟨w.heap.size,0,none⟩=some (zd U kd):=by rw [hw0];simp [go_sem]
 have b1:w0.cell? ⟨w.heap.size,1,none⟩=some (zd U n):=by rw [hw0];simp [go_sem]
 have b2:w0.cell? ⟨w.heap.size,2,none⟩=some (O ao dl cap):=by rw [hw0];simp [go_sem]
 have HP:=Aa (IK k _ d w0 15 (h.over hbel) (by omega) (by omega))
 have HA:=Aa fun (W:World) (hB:Ov w W)=>LM k _ d W (h.over hB)
 have HLE:=Aa (Ec k d 15 (by omega))
 obtain ⟨pc,hpc⟩:=nm (A4 k d 15)
 have hck:Am vars k d=if 15 < pc then 2 else AW vars (AB k d):=by rw [hpc];rfl
 have hpos:=Eb h
 obtain ⟨L,hL⟩:=nm (AB k d)
 rw [<-hL] at HA HLE hpos hck
 rw [<-hpc] at HP HLE
 rw [hck]
 clear hck hpc h hL
 show Calls Tryz.prog 97 #[zg #[zd U kd,zd U n,O ao dl cap],zd U vars] w _
 by_cases hp:15 < pc
 ·rw [if_pos hp]
  have HW:=Aa hw0
  clear hw0
  go_enter Tryz.func97,Tryz.ntmps97
  go_wp2_with fail
  rw [<-HW.o]
  refine (HP.o).mono ?_
  rintro e w1 ⟨rfl,hb1⟩
  have hB1:Ov w w1:=hbel.trans (hb1.mono hbel.size)
  go_wp2_with fail
  go_ret
  exact ⟨rfl,hB1⟩
 ·rw [if_neg hp]
  have HW:=Aa hw0
  have hlen:=HLE.o (by omega)
  clear hw0 HLE
  go_enter Tryz.func97,Tryz.ntmps97
  go_wp2_with fail
  rw [<-HW.o]
  refine (HP.o).mono ?_
  rintro e w1 ⟨rfl,hb1⟩
  have hB1:Ov w w1:=hbel.trans (hb1.mono hbel.size)
  obtain ⟨d0,d1,d2⟩:=co3 hb1 b0 b1 b2
  have HAL:=Aa (HA.o w1 hB1 (by omega))
  clear b0 b1 b2 hbel hb1 HP HA HW w0
  go_wp2_with fail
  refine (HAL.o).mono ?_
  rintro e w2 ⟨lv,xs,rfl,hown,hcl,hb2⟩
  have hB2:Ov w w2:=hB1.trans (hb2.mono hB1.size)
  have hL15:L.length<=15:=by omega
  ·obtain ⟨g,gc,rfl,hgb,hgl,hgc⟩:=Dp hown hpos
   have HCL:=Aa hcl
   have HGC:=Aa hgc
   clear hown hcl hgc d0 d1 d2 hB1 hb2 HAL hlen
   go_wp2_with fail
   go_loopw [6] (fun i wr=>∃ j:Nat,j<=L.length/\i=zd U j/\AW vars L=AW vars (L.drop j)/\Ov w2 wr) (fun i _=>L.length - (intOf i).toNat)
   case atStart=>exact ⟨0,Nat.zero_le _,rfl,rfl,Below.refl _ _⟩
   case round=>
    obtain ⟨j,hj,rfl,hfe,hbl⟩:=hrel
    by_cases hjl:j < L.length
    ·rw [GH hjl] at hfe
     obtain ⟨pa,pcap,x0,x1,x2⟩:=HCL.o.at j hjl
     obtain ⟨kj,hkj⟩:=nm (Ap L[j])
     obtain ⟨nj,hnj⟩:=nm (AA L[j])
     obtain ⟨lj,hlj⟩:=nm ((Ar L[j]).length)
     rw [<-hkj,<-hnj,<-hlj] at hfe
     rw [<-hkj] at x0
     rw [<-hnj] at x1
     rw [<-hlj] at x2
     have y0:=Ab hbl _ _ (HGC.o _ _ x0)
     have y1:=Ab hbl _ _ (HGC.o _ _ x1)
     have y2:=Ab hbl _ _ (HGC.o _ _ x2)
     rw [Addr.add_lit] at y0 y1 y2
     have hfin:∀ wf,Ov wr wf->Ov w wf:=fun wf hb=>by
      have h1:=hB2.trans (hbl.mono hB2.size)
      exact h1.trans (hb.mono h1.size)
     have hnew:∀ wf,Ov wr wf->Ov w2 wf:=fun wf hb=>hbl.trans (hb.mono hbl.size)
     have HE:Hx (∀ r,Be vars kj nj lj=r->r≠0->AW vars L=r):=fun r h1 h2=>by rw [hfe,h1,if_neg h2]
     have HZ:Hx (Be vars kj nj lj=0->AW vars L=AW vars (L.drop (j+1))):=fun h1=>by rw [hfe,if_pos h1]
     have HF:=Aa hfin
     have HNW:=Aa hnew
     clear hfe x0 x1 x2 hkj hnj hlj hfin hnew hbl
     simp only [Nat.zero_add] at y0 y1 y2
     by_cases hk:1<=kj/\kj<=7
     ·have K1:=fun (q:Int) (h1:1<=q/\q<=7)=>btw (x:=q) (a:=1) (b:=7) (r:=true) (decide_eq_true h1)
      have HBX:Hx (Ov wr (wr.alloc (Obj.cells #[Value.int IntKind.i64 kj,Value.int IntKind.i64 nj,Value.slice pa lj pcap] 94))):=bA wr _
      have K1:=K1 kj hk
      rcases (by omega:kj=1\/kj=2\/kj=3\/kj=4\/kj=5\/kj=6\/kj=7) with rfl | rfl | rfl | rfl | rfl | rfl | rfl
      ·by_cases hl:lj=0
       ·subst hl
        by_cases hn:-9999999<=nj/\nj<=9999999
        ·have K2:=btw (x:=nj) (a:=-9999999) (b:=9999999) (r:=true) (decide_eq_true hn)
         have HR:=Aa (HZ.o (by simp [Be,hn]))
         clear HE HZ HF
         go_wp2_with fail
         refine (K1.o _).mono ?_
         rintro e w3 ⟨rfl,rfl⟩
         go_wp2_with fail
         refine (K2.o _).mono ?_
         rintro e w3 ⟨rfl,rfl⟩
         go_wp2_with fail
         exact ⟨⟨j+1,by omega,by go_num,HR.o,HNW.o _ HBX.o⟩,by simp [intOf];omega⟩
        ·have K2:=btw (x:=nj) (a:=-9999999) (b:=9999999) (r:=false) (decide_eq_false hn)
         have HR:=Aa (HE.o 3 (by unfold Be;rw [if_neg (by omega),if_neg (by omega),if_pos (Or.inl ⟨rfl,hn⟩)]) (by omega))
         clear HE HZ HNW
         go_wp2_with fail
         refine (K1.o _).mono ?_
         rintro e w3 ⟨rfl,rfl⟩
         go_wp2_with fail
         refine (K2.o _).mono ?_
         rintro e w3 ⟨rfl,rfl⟩
         go_wp2_with fail
         go_ret
         exact ⟨by rw [HR.o];rfl,HF.o _ HBX.o⟩
       ·have HR:=Aa (HE.o 1 (by unfold Be;rw [if_neg (by omega),if_pos (by omega)]) (by omega))
        clear HE HZ HNW
        go_wp2_with fail
        refine (K1.o _).mono ?_
        rintro e w3 ⟨rfl,rfl⟩
        go_wp2_with fail
        go_ret
        exact ⟨by rw [HR.o];rfl,HF.o _ HBX.o⟩
      ·by_cases hl:lj=0
       ·subst hl
        by_cases hn:0<=nj/\nj<=vars - 1
        ·have K2:=btw (x:=nj) (a:=0) (b:=vars - 1) (r:=true) (decide_eq_true hn)
         have HR:=Aa (HZ.o (by unfold Be;rw [if_neg (by omega),if_neg (by omega),if_neg (by omega),if_neg (by omega)]))
         clear HE HZ HF
         go_wp2_with fail
         refine (K1.o _).mono ?_
         rintro e w3 ⟨rfl,rfl⟩
         go_wp2_with fail
         refine (K2.o _).mono ?_
         rintro e w3 ⟨rfl,rfl⟩
         go_wp2_with fail
         exact ⟨⟨j+1,by omega,by go_num,HR.o,HNW.o _ HBX.o⟩,by simp [intOf];omega⟩
        ·have K2:=btw (x:=nj) (a:=0) (b:=vars - 1) (r:=false) (decide_eq_false hn)
         have HR:=Aa (HE.o 5 (by unfold Be;rw [if_neg (by omega),if_neg (by omega),if_neg (by omega),if_pos ⟨rfl,hn⟩]) (by omega))
         clear HE HZ HNW
         go_wp2_with fail
         refine (K1.o _).mono ?_
         rintro e w3 ⟨rfl,rfl⟩
         go_wp2_with fail
         refine (K2.o _).mono ?_
         rintro e w3 ⟨rfl,rfl⟩
         go_wp2_with fail
         go_ret
         exact ⟨by rw [HR.o];rfl,HF.o _ HBX.o⟩
       ·have HR:=Aa (HE.o 1 (by unfold Be;rw [if_neg (by omega),if_pos (by omega)]) (by omega))
        clear HE HZ HNW
        go_wp2_with fail
        refine (K1.o _).mono ?_
        rintro e w3 ⟨rfl,rfl⟩
        go_wp2_with fail
        go_ret
        exact ⟨by rw [HR.o];rfl,HF.o _ HBX.o⟩
      ·by_cases hl:lj=2
       ·subst hl
        by_cases hn:nj=0
        ·subst hn
         have HR:=Aa (HZ.o (by unfold Be;rw [if_neg (by omega),if_neg (by omega),if_neg (by omega),if_neg (by omega)]))
         clear HE HZ HF
         go_wp2_with fail
         refine (K1.o _).mono ?_
         rintro e w3 ⟨rfl,rfl⟩
         go_wp2_with fail
         exact ⟨⟨j+1,by omega,by go_num,HR.o,HNW.o _ HBX.o⟩,by simp [intOf];omega⟩
        ·have HR:=Aa (HE.o 3 (by unfold Be;rw [if_neg (by omega),if_neg (by omega),if_pos (by omega)]) (by omega))
         clear HE HZ HNW
         go_wp2_with fail
         refine (K1.o _).mono ?_
         rintro e w3 ⟨rfl,rfl⟩
         go_wp2_with fail
         go_ret
         exact ⟨by rw [HR.o];rfl,HF.o _ HBX.o⟩
       ·have HR:=Aa (HE.o 1 (by unfold Be;rw [if_neg (by omega),if_pos (by omega)]) (by omega))
        clear HE HZ HNW
        go_wp2_with fail
        refine (K1.o _).mono ?_
        rintro e w3 ⟨rfl,rfl⟩
        go_wp2_with fail
        go_ret
        exact ⟨by rw [HR.o];rfl,HF.o _ HBX.o⟩
      ·by_cases hl:lj=2
       ·subst hl
        by_cases hn:nj=0
        ·subst hn
         have HR:=Aa (HZ.o (by unfold Be;rw [if_neg (by omega),if_neg (by omega),if_neg (by omega),if_neg (by omega)]))
         clear HE HZ HF
         go_wp2_with fail
         refine (K1.o _).mono ?_
         rintro e w3 ⟨rfl,rfl⟩
         go_wp2_with fail
         exact ⟨⟨j+1,by omega,by go_num,HR.o,HNW.o _ HBX.o⟩,by simp [intOf];omega⟩
        ·have HR:=Aa (HE.o 3 (by unfold Be;rw [if_neg (by omega),if_neg (by omega),if_pos (by omega)]) (by omega))
         clear HE HZ HNW
         go_wp2_with fail
         refine (K1.o _).mono ?_
         rintro e w3 ⟨rfl,rfl⟩
         go_wp2_with fail
         go_ret
         exact ⟨by rw [HR.o];rfl,HF.o _ HBX.o⟩
       ·have HR:=Aa (HE.o 1 (by unfold Be;rw [if_neg (by omega),if_pos (by omega)]) (by omega))
        clear HE HZ HNW
        go_wp2_with fail
        refine (K1.o _).mono ?_
        rintro e w3 ⟨rfl,rfl⟩
        go_wp2_with fail
        go_ret
        exact ⟨by rw [HR.o];rfl,HF.o _ HBX.o⟩
      ·by_cases hl:lj=2
       ·subst hl
        by_cases hn:nj=0
        ·subst hn
         have HR:=Aa (HZ.o (by unfold Be;rw [if_neg (by omega),if_neg (by omega),if_neg (by omega),if_neg (by omega)]))
         clear HE HZ HF
         go_wp2_with fail
         refine (K1.o _).mono ?_
         rintro e w3 ⟨rfl,rfl⟩
         go_wp2_with fail
         exact ⟨⟨j+1,by omega,by go_num,HR.o,HNW.o _ HBX.o⟩,by simp [intOf];omega⟩
        ·have HR:=Aa (HE.o 3 (by unfold Be;rw [if_neg (by omega),if_neg (by omega),if_pos (by omega)]) (by omega))
         clear HE HZ HNW
         go_wp2_with fail
         refine (K1.o _).mono ?_
         rintro e w3 ⟨rfl,rfl⟩
         go_wp2_with fail
         go_ret
         exact ⟨by rw [HR.o];rfl,HF.o _ HBX.o⟩
       ·have HR:=Aa (HE.o 1 (by unfold Be;rw [if_neg (by omega),if_pos (by omega)]) (by omega))
        clear HE HZ HNW
        go_wp2_with fail
        refine (K1.o _).mono ?_
        rintro e w3 ⟨rfl,rfl⟩
        go_wp2_with fail
        go_ret
        exact ⟨by rw [HR.o];rfl,HF.o _ HBX.o⟩
      ·by_cases hl:lj=2
       ·subst hl
        by_cases hn:nj=0
        ·subst hn
         have HR:=Aa (HZ.o (by unfold Be;rw [if_neg (by omega),if_neg (by omega),if_neg (by omega),if_neg (by omega)]))
         clear HE HZ HF
         go_wp2_with fail
         refine (K1.o _).mono ?_
         rintro e w3 ⟨rfl,rfl⟩
         go_wp2_with fail
         exact ⟨⟨j+1,by omega,by go_num,HR.o,HNW.o _ HBX.o⟩,by simp [intOf];omega⟩
        ·have HR:=Aa (HE.o 3 (by unfold Be;rw [if_neg (by omega),if_neg (by omega),if_pos (by omega)]) (by omega))
         clear HE HZ HNW
         go_wp2_with fail
         refine (K1.o _).mono ?_
         rintro e w3 ⟨rfl,rfl⟩
         go_wp2_with fail
         go_ret
         exact ⟨by rw [HR.o];rfl,HF.o _ HBX.o⟩
       ·have HR:=Aa (HE.o 1 (by unfold Be;rw [if_neg (by omega),if_pos (by omega)]) (by omega))
        clear HE HZ HNW
        go_wp2_with fail
        refine (K1.o _).mono ?_
        rintro e w3 ⟨rfl,rfl⟩
        go_wp2_with fail
        go_ret
        exact ⟨by rw [HR.o];rfl,HF.o _ HBX.o⟩
      ·by_cases hl:lj=2
       ·subst hl
        by_cases hn:nj=0
        ·subst hn
         have HR:=Aa (HZ.o (by unfold Be;rw [if_neg (by omega),if_neg (by omega),if_neg (by omega),if_neg (by omega)]))
         clear HE HZ HF
         go_wp2_with fail
         refine (K1.o _).mono ?_
         rintro e w3 ⟨rfl,rfl⟩
         go_wp2_with fail
         exact ⟨⟨j+1,by omega,by go_num,HR.o,HNW.o _ HBX.o⟩,by simp [intOf];omega⟩
        ·have HR:=Aa (HE.o 3 (by unfold Be;rw [if_neg (by omega),if_neg (by omega),if_pos (by omega)]) (by omega))
         clear HE HZ HNW
         go_wp2_with fail
         refine (K1.o _).mono ?_
         rintro e w3 ⟨rfl,rfl⟩
         go_wp2_with fail
         go_ret
         exact ⟨by rw [HR.o];rfl,HF.o _ HBX.o⟩
       ·have HR:=Aa (HE.o 1 (by unfold Be;rw [if_neg (by omega),if_pos (by omega)]) (by omega))
        clear HE HZ HNW
        go_wp2_with fail
        refine (K1.o _).mono ?_
        rintro e w3 ⟨rfl,rfl⟩
        go_wp2_with fail
        go_ret
        exact ⟨by rw [HR.o];rfl,HF.o _ HBX.o⟩
     ·have K1:=btw (x:=kj) (a:=1) (b:=7) (r:=false) (by simpa using hk)
      have hr:=HE.o 7 (by unfold Be;rw [if_pos hk]) (by omega)
      have HR:=Aa hr
      clear hr
      go_wp2_with fail
      refine (K1.o _).mono ?_
      rintro e w3 ⟨rfl,rfl⟩
      go_wp2_with fail
      go_ret
      exact ⟨by rw [HR.o];rfl,HF.o _ (bA wr _)⟩
    ·have hz:AW vars (L.drop j)=0:=by rw [List.drop_eq_nil_of_le (by omega)];rfl
     have HFE:Hx (AW vars L=0):=by rw [hfe];exact hz
     clear hz hfe
     go_wp2_with fail
     go_ret
     exact ⟨by rw [HFE.o];rfl,hB2.trans (hbl.mono hB2.size)⟩
def Cd (vs:List Int) (k:Nat) (d:D):Int:=if Am vs.length k d=0 then (if vs.all Cs=true then 0 else 3) else Am vs.length k d
theorem CG {vars:Int}:∀ {l:List D},AW vars l=0->∀ d∈l,Be vars (Ap d) (AA d) (Ar d).length=0
 | [],_,d,hd=>by cases hd
 | a::l,h,d,hd=>by
  rw [AW] at h
  split at h
  ·rename_i h0
   rcases List.mem_cons.1 hd with rfl | hd
   ·exact h0
   ·exact CG h d hd
  ·rename_i h0
   exact absurd h h0
theorem Dv {vars k n:Int} {l:Nat} (h:Be vars k n l=0):(k=1/\-9999999<=n/\n<=9999999)\/(k=2/\0<=n/\n < vars)\/(3<=k/\k<=7/\l=2):=by
 unfold Be at h
 split at h
 ·omega
 ·split at h
  ·omega
  ·split at h
   ·omega
   ·split at h
    ·omega
    ·omega
theorem JB {w:World} {m:Nat}:∀ (k:Nat) (cs:List Value) (d:D),RX w k cs d->(∀ x∈AB k d,Be m (Ap x) (AA x) (Ar x).length=0)->okX m k d:=by
 intro k
 induction k with
 | zero=>intro cs d h;exact h.elim
 | succ k ih=>
  intro cs d h ha
  obtain ⟨kd,n,v,ds,rfl,rfl,hkd,hn,hlen,ao,cap,rfl,hc⟩:=h
  have h0:=Dv (ha (xD kd n ds) (by simp [AB]))
  simp only [EU,H6,GQ] at h0
  rcases h0 with h0 | h0 | ⟨h1,h2,h3⟩
  ·exact Or.inl h0
  ·exact Or.inr (Or.inl h0)
  ·refine Or.inr (Or.inr ⟨h1,h2,?_⟩)
   match ds,h3 with
   | [x,y],_=>
    obtain ⟨b,off,-,hel⟩:=hc (by simp)
    obtain ⟨xs,-,-,hx⟩:=hel 0 x rfl
    obtain ⟨ys,-,-,hy⟩:=hel 1 y rfl
    exact ⟨x,y,rfl,ih xs x hx (fun q hq=>ha q (by simp [AB,hq])),ih ys y hy (fun q hq=>ha q (by simp [AB,hq]))⟩
theorem D1 {w:World} {vs:List Int} {k:Nat} {cs:List Value} {d:D} (h:RX w k cs d) (h0:Cd vs k d=0):okX vs.length k d/\∀ x∈vs,I32 x:=by
 unfold Cd at h0
 split at h0
 ·rename_i hc
  split at h0
  ·rename_i hv
   refine ⟨?_,fun x hx=>by have:=List.all_eq_true.1 hv x hx;simpa [Cs,I32] using this⟩
   unfold Am at hc
   split at hc
   ·omega
   ·exact JB k cs d h (CG hc)
  ·omega
 ·rename_i hc
  exact absurd h0 hc
end Go.Proofs.YtfffpjkcfnekaaaGreat.Ex
