/- Regions that draw, in few words. -/
import Derived.Deep.RegionHeld3
import Derived.RowKit
import Derived.OpenShut
import Derived.Deep.Draws
import Derived.Lib.Builder
import Derived.Test.YtfffpjkcfnekaaaGreatRows
import Derived.ProofKit
import Derived.Deep.Strs
import Derived.Lib.SmallJoins
import Derived.WalkKit
import Derived.WalkSpells
import Derived.WalkLawsBesides
import Derived.WalkSmall
import Derived.Deep.AppendLies
import Derived.OwnWalk
import Derived.Deep.SlicePairs
import Derived.Laws.MakeOwn
import Derived.Deep.CutRange
set_option linter.unusedVariables false
set_option maxHeartbeats 8000000
set_option maxRecDepth 100000
namespace Go.Proofs.YtfffpjkcfnekaaaGreat
open Go.RowKit
open Go.Value renaming slice -> O, int -> U, bool -> zg, agg -> zh, pointer -> zi, tuple -> zk
open Go.IntKind renaming i64 -> zd
open Go.Obj renaming cells -> ze
open Go.Ending renaming returned -> zj
abbrev Ov (w w':World):Prop:=Below w.heap.size w w'
abbrev CE (w:World) (b i:Nat) (v:Value):Prop:=w.cell? ⟨b,i,none⟩=some v
theorem nm {α:Type} (x:α):∃ q,q=x:=⟨x,rfl⟩
theorem aqt:(∀ (l:List Oper) (i:Nat) (h:i < l.toArray.size),l.toArray[i]'h=l[i]'(by simpa using h))/\(∀ (a:Oper) (l:List Oper) (i:Nat) (h:i+1 < (a::l).length),(a::l)[i+1]'h=l[i]'(by simpa using h))/\(∀ (a:Oper) (l:List Oper) (h:0 < (a::l).length),(a::l)[0]'h=a)/\(∀ (a:Act) (d:Tmp) (v:Value),a.put (some d) v={ a with tmps:=a.tmps.setIfInBounds d v })/\(∀ (a:Act) (v:Value),a.put none v=a)/\(∀ (l:List Value) (i:Nat) (x:Value),l.toArray.setIfInBounds i x=(l.set i x).toArray)/\(∀ (l:List Value) (a x:Value),(a::l).set 0 x=x::l)/\(∀ (l:List Value) (a x:Value) (i:Nat),(a::l).set (i+1) x=a::l.set i x):=
 ⟨fun _ _ _=>by simp,fun _ _ _ _=>rfl,fun _ _ _=>rfl,fun _ _ _=>rfl,fun _ _=>rfl,fun _ _ _=>by simp,fun _ _ _=>rfl,fun _ _ _ _=>rfl⟩
theorem kT {P:Program} {ops:Array Oper} {Q:Exit->Act->World->Prop} {md:Region.Mode} {S:World->Prop} {oi:Oper} {v:Value} {fuel:Nat} {listed:Array Bool} {a:Act} {w:World} {Z:Prop} (i:Nat) (h:Z)
  (hi:ops[i]? = some oi:=by rfl) (hy:YieldsIf P ops S oi v a:=by (refine Or.inl ⟨by rfl,?_⟩;intro w' hSw;(try dsimp only at hSw);go_simp;try with_reducible rfl)) (hS:S w:=by assumption)
  (hs:Region.noSelect ops=true:=by kernel_rfl) (hf:Region.free md ops listed i=true:=by kernel_rfl) (hr:(Region.ready md ops listed).contains i=true:=by kernel_rfl)
  (hQ:∀ c a w,Q (.panic c) (a.put oi.dst v) w->Q (.panic c) a w:=by exact fun _ _ _ h=>h)
  (hz:Z->wpAnyH P md ops Q S fuel (listed.setIfInBounds i true) (a.put oi.dst v) w:=by (intro hz;(try simp only [aqt]);exact hz)):wpAnyH P md ops Q S (fuel+1) listed a w:=
 wpAnyH_take hi hs hf hr hQ hy hS (hz h)
theorem kU {P:Program} {ops:Array Oper} {Q:Exit->Act->World->Prop} {md:Region.Mode} {S:World->Prop} {oi:Oper} {fuel:Nat} {listed:Array Bool} {a:Act} {w:World} {Z:Prop} (i:Nat) (h:Z)
  (hi:ops[i]? = some oi:=by rfl) (hy:YieldsIf P ops S oi undef a:=by exact Or.inr ⟨by kernel_rfl,rfl⟩) (hS:S w:=by assumption)
  (hs:Region.noSelect ops=true:=by kernel_rfl) (hf:Region.free md ops listed i=true:=by kernel_rfl) (hr:(Region.ready md ops listed).contains i=true:=by kernel_rfl)
  (hQ:∀ c a w,Q (.panic c) (a.put oi.dst undef) w->Q (.panic c) a w:=by exact fun _ _ _ h=>h)
  (hz:Z->wpAnyH P md ops Q S fuel (listed.setIfInBounds i true) (a.put oi.dst undef) w:=by (intro hz;(try simp only [aqt]);exact hz)):wpAnyH P md ops Q S (fuel+1) listed a w:=
 wpAnyH_take hi hs hf hr hQ hy hS (hz h)
abbrev Hn (P:Program) (md:Region.Mode) (ops:Array Oper) (Q:Exit->Act->World->Prop) (S:World->Prop) (fuel:Nat) (listed:Array Bool) (a:Act) (w:World) (i:Nat) (o:Oper):Prop:=
 ∀ K':Act->World->Prop,Shut (∀ a w,S w->(S w->wpAnyH P md ops Q S fuel (listed.setIfInBounds i true) a w)->K' a w)->if Region.wanted o (yielded ops a.tmps)=true then Oper.wp P o a w K' Q else K' (a.put o.dst undef) w
theorem rdA {P:Program} {ops:Array Oper} {Q:Exit->Act->World->Prop} {md:Region.Mode} {S:World->Prop} {fuel:Nat} {listed:Array Bool} {a:Act} {w:World} (i:Nat) {o:Oper} (ho:ops[i]? = some o) (h:Hn P md ops Q S fuel listed a w i o)
  (hr:Region.ready md ops listed=[i]:=by kernel_rfl):wpAnyH P md ops Q S (fuel+1) listed a w:=
 wpAnyH_ready hr (by simp) (AllReadyH.cons ho h AllReadyH.nil)
theorem rdB {P:Program} {ops:Array Oper} {Q:Exit->Act->World->Prop} {md:Region.Mode} {S:World->Prop} {fuel:Nat} {listed:Array Bool} {a:Act} {w:World} (i j:Nat) {o p:Oper} (ho:ops[i]? = some o) (h:Hn P md ops Q S fuel listed a w i o) (hp:ops[j]? = some p) (h2:Hn P md ops Q S fuel listed a w j p)
  (hr:Region.ready md ops listed=[i,j]:=by kernel_rfl):wpAnyH P md ops Q S (fuel+1) listed a w:=
 wpAnyH_ready hr (by simp) (AllReadyH.cons ho h (AllReadyH.cons hp h2 AllReadyH.nil))
theorem rdC {P:Program} {ops:Array Oper} {Q:Exit->Act->World->Prop} {md:Region.Mode} {S:World->Prop} {fuel:Nat} {listed:Array Bool} {a:Act} {w:World} (i j k:Nat) {o p q:Oper} (ho:ops[i]? = some o) (h:Hn P md ops Q S fuel listed a w i o) (hp:ops[j]? = some p) (h2:Hn P md ops Q S fuel listed a w j p) (hq:ops[k]? = some q) (h3:Hn P md ops Q S fuel listed a w k q)
  (hr:Region.ready md ops listed=[i,j,k]:=by kernel_rfl):wpAnyH P md ops Q S (fuel+1) listed a w:=
 wpAnyH_ready hr (by simp) (AllReadyH.cons ho h (AllReadyH.cons hp h2 (AllReadyH.cons hq h3 AllReadyH.nil)))
theorem xK {S:World->Prop} {V:Act->World->Prop} {K':Act->World->Prop} {a:Act} {w:World} {Z:Prop} (hK:Shut (∀ a w,S w->(S w->V a w)->K' a w)) (hS:S w) (h:S w->Z) (hz:Z->V a w:=by (intro hz;(try simp only [aqt]);exact hz)):K' a w:=
 hK.out a w hS (fun hs=>hz (h hs))
theorem gS {P:Program} {ops:Array Oper} {Q:Exit->Act->World->Prop} (S:World->Prop) {id:Nat} {a:Act} {w:World} (hS:S w.drew)
  (h:S w.drew->wpAnyH P .any ops Q S ops.size (Array.replicate ops.size false) a w.drew) (hm:P.follows .mixedOrders=true:=by kernel_rfl):(Code.region id ops true).wp P Q a w:=
 wp_region_held_drew hm hS h
theorem gE {P:Program} {ops:Array Oper} {Q:Exit->Act->World->Prop} {md:Region.Mode} {S:World->Prop} {fuel:Nat} {listed:Array Bool} {a:Act} {w:World} (h:Q .normal a w) (hr:Region.ready md ops listed=[]:=by kernel_rfl):wpAnyH P md ops Q S fuel listed a w:=
 wpAnyH_done hr h fuel
theorem BC (w:World) (l:List Value) (T:Nat):∀ (j:Nat) (u:Value),l[j]? = some u->(w.alloc (.cells l.toArray T)).cell? ⟨w.heap.size,j,none⟩=some u:=fun j u hu=>by
 rw [Lib.cell_of_heap (show (w.heap.push (.cells l.toArray T))[w.heap.size]? = some (.cells l.toArray T) by simp)]
 simpa using hu
theorem OE {w:World} {a:Addr} {u:Value} (h:w.cell? a=some u) (o:Obj):(w.alloc o).cell? a=some u:=by
 rw [World.cell?_alloc_some _ _ _ (by rw [h];rfl)];exact h
theorem alS (w:World) (o:Obj):(w.alloc o).heap.size=w.heap.size+1:=by simp
theorem E6 (w:World) (l:List Value) (T:Nat) (o1:Obj):∀ (j:Nat) (u:Value),l[j]? = some u->((w.alloc (.cells l.toArray T)).alloc o1).cell? ⟨w.heap.size,j,none⟩=some u:=fun j u hu=>by
 have h:=BC w l T j u hu
 exact (OE h _)
theorem FM (w:World) (o0:Obj) (l:List Value) (T:Nat):∀ (j:Nat) (u:Value),l[j]? = some u->((w.alloc o0).alloc (.cells l.toArray T)).cell? ⟨w.heap.size+1,j,none⟩=some u:=fun j u hu=>by
 have h:=BC (w.alloc o0) l T j u hu
 rw [alS] at h
 exact h
theorem QJ (w:World) (l:List Value) (T:Nat) (o1:Obj) (o2:Obj):∀ (j:Nat) (u:Value),l[j]? = some u->(((w.alloc (.cells l.toArray T)).alloc o1).alloc o2).cell? ⟨w.heap.size,j,none⟩=some u:=fun j u hu=>by
 have h:=BC w l T j u hu
 exact (OE (OE h _) _)
theorem QI (w:World) (o0:Obj) (l:List Value) (T:Nat) (o2:Obj):∀ (j:Nat) (u:Value),l[j]? = some u->(((w.alloc o0).alloc (.cells l.toArray T)).alloc o2).cell? ⟨w.heap.size+1,j,none⟩=some u:=fun j u hu=>by
 have h:=BC (w.alloc o0) l T j u hu
 rw [alS] at h
 exact (OE h _)
theorem Rc (w:World) (o0:Obj) (o1:Obj) (l:List Value) (T:Nat):∀ (j:Nat) (u:Value),l[j]? = some u->(((w.alloc o0).alloc o1).alloc (.cells l.toArray T)).cell? ⟨w.heap.size+1+1,j,none⟩=some u:=fun j u hu=>by
 have h:=BC ((w.alloc o0).alloc o1) l T j u hu
 rw [alS,alS] at h
 exact h
theorem Ry (w:World) (o0:Obj) (o1:Obj) (o2:Obj) (o3:Obj) (l:List Value) (T:Nat):∀ (j:Nat) (u:Value),l[j]? = some u->(((((w.alloc o0).alloc o1).alloc o2).alloc o3).alloc (.cells l.toArray T)).cell? ⟨w.heap.size+1+1+1+1,j,none⟩=some u:=fun j u hu=>by
 have h:=BC ((((w.alloc o0).alloc o1).alloc o2).alloc o3) l T j u hu
 rw [alS,alS,alS,alS] at h
 exact h
theorem rc2 {P:Nat->Value->Prop} {a0 a1:Value} {l:List Value} (h:∀ (j:Nat) (u:Value),(a0::a1::l)[j]? = some u->P j u):P 0 a0/\P 1 a1:=⟨h 0 _ rfl,h 1 _ rfl⟩
theorem rc3 {P:Nat->Value->Prop} {a0 a1 a2:Value} {l:List Value} (h:∀ (j:Nat) (u:Value),(a0::a1::a2::l)[j]? = some u->P j u):P 0 a0/\P 1 a1/\P 2 a2:=⟨h 0 _ rfl,h 1 _ rfl,h 2 _ rfl⟩
theorem rc4 {P:Nat->Value->Prop} {a0 a1 a2 a3:Value} {l:List Value} (h:∀ (j:Nat) (u:Value),(a0::a1::a2::a3::l)[j]? = some u->P j u):P 0 a0/\P 1 a1/\P 2 a2/\P 3 a3:=⟨h 0 _ rfl,h 1 _ rfl,h 2 _ rfl,h 3 _ rfl⟩
theorem rc5 {P:Nat->Value->Prop} {a0 a1 a2 a3 a4:Value} {l:List Value} (h:∀ (j:Nat) (u:Value),(a0::a1::a2::a3::a4::l)[j]? = some u->P j u):P 0 a0/\P 1 a1/\P 2 a2/\P 3 a3/\P 4 a4:=⟨h 0 _ rfl,h 1 _ rfl,h 2 _ rfl,h 3 _ rfl,h 4 _ rfl⟩
theorem rc6 {P:Nat->Value->Prop} {a0 a1 a2 a3 a4 a5:Value} {l:List Value} (h:∀ (j:Nat) (u:Value),(a0::a1::a2::a3::a4::a5::l)[j]? = some u->P j u):P 0 a0/\P 1 a1/\P 2 a2/\P 3 a3/\P 4 a4/\P 5 a5:=⟨h 0 _ rfl,h 1 _ rfl,h 2 _ rfl,h 3 _ rfl,h 4 _ rfl,h 5 _ rfl⟩
theorem rc8 {P:Nat->Value->Prop} {a0 a1 a2 a3 a4 a5 a6 a7:Value} {l:List Value} (h:∀ (j:Nat) (u:Value),(a0::a1::a2::a3::a4::a5::a6::a7::l)[j]? = some u->P j u):P 0 a0/\P 1 a1/\P 2 a2/\P 3 a3/\P 4 a4/\P 5 a5/\P 6 a6/\P 7 a7:=⟨h 0 _ rfl,h 1 _ rfl,h 2 _ rfl,h 3 _ rfl,h 4 _ rfl,h 5 _ rfl,h 6 _ rfl,h 7 _ rfl⟩
theorem rc9 {P:Nat->Value->Prop} {a0 a1 a2 a3 a4 a5 a6 a7 a8:Value} {l:List Value} (h:∀ (j:Nat) (u:Value),(a0::a1::a2::a3::a4::a5::a6::a7::a8::l)[j]? = some u->P j u):P 0 a0/\P 1 a1/\P 2 a2/\P 3 a3/\P 4 a4/\P 5 a5/\P 6 a6/\P 7 a7/\P 8 a8:=⟨h 0 _ rfl,h 1 _ rfl,h 2 _ rfl,h 3 _ rfl,h 4 _ rfl,h 5 _ rfl,h 6 _ rfl,h 7 _ rfl,h 8 _ rfl⟩
theorem Ca {P:Nat->Value->Prop} {a0 a1 a2 a3 a4 a5 a6 a7 a8 a9:Value} {l:List Value} (h:∀ (j:Nat) (u:Value),(a0::a1::a2::a3::a4::a5::a6::a7::a8::a9::l)[j]? = some u->P j u):P 0 a0/\P 1 a1/\P 2 a2/\P 3 a3/\P 4 a4/\P 5 a5/\P 6 a6/\P 7 a7/\P 8 a8/\P 9 a9:=⟨h 0 _ rfl,h 1 _ rfl,h 2 _ rfl,h 3 _ rfl,h 4 _ rfl,h 5 _ rfl,h 6 _ rfl,h 7 _ rfl,h 8 _ rfl,h 9 _ rfl⟩
theorem NL {P:Nat->Value->Prop} {a0 a1 a2 a3 a4 a5 a6 a7 a8 a9 a10 a11:Value} {l:List Value} (h:∀ (j:Nat) (u:Value),(a0::a1::a2::a3::a4::a5::a6::a7::a8::a9::a10::a11::l)[j]? = some u->P j u):P 0 a0/\P 1 a1/\P 2 a2/\P 3 a3/\P 4 a4/\P 5 a5/\P 6 a6/\P 7 a7/\P 8 a8/\P 9 a9/\P 10 a10/\P 11 a11:=⟨h 0 _ rfl,h 1 _ rfl,h 2 _ rfl,h 3 _ rfl,h 4 _ rfl,h 5 _ rfl,h 6 _ rfl,h 7 _ rfl,h 8 _ rfl,h 9 _ rfl,h 10 _ rfl,h 11 _ rfl⟩
theorem Rr {P:Nat->Value->Prop} {a0 a1 a2 a3 a4 a5 a6 a7 a8 a9 a10 a11 a12:Value} {l:List Value} (h:∀ (j:Nat) (u:Value),(a0::a1::a2::a3::a4::a5::a6::a7::a8::a9::a10::a11::a12::l)[j]? = some u->P j u):P 0 a0/\P 1 a1/\P 2 a2/\P 3 a3/\P 4 a4/\P 5 a5/\P 6 a6/\P 7 a7/\P 8 a8/\P 9 a9/\P 10 a10/\P 11 a11/\P 12 a12:=⟨h 0 _ rfl,h 1 _ rfl,h 2 _ rfl,h 3 _ rfl,h 4 _ rfl,h 5 _ rfl,h 6 _ rfl,h 7 _ rfl,h 8 _ rfl,h 9 _ rfl,h 10 _ rfl,h 11 _ rfl,h 12 _ rfl⟩
def Hx (p:Prop):Prop:=p
theorem Hx.o {p:Prop} (h:Hx p):p:=h
theorem ce1 {w w':World} (hb:Below w.heap.size w w') {a:Addr} {u:Value} (h:w.cell? a=some u):w'.cell? a=some u:=by
 rw [hb.cell (World.block_lt_of_cell? w _ h)];exact h
theorem co2 {w w':World} (hb:Below w.heap.size w w') {a0 a1:Addr} {u0 u1:Value} (h0:w.cell? a0=some u0) (h1:w.cell? a1=some u1):w'.cell? a0=some u0/\w'.cell? a1=some u1:=⟨ce1 hb h0,ce1 hb h1⟩
theorem co3 {w w':World} (hb:Below w.heap.size w w') {a0 a1 a2:Addr} {u0 u1 u2:Value} (h0:w.cell? a0=some u0) (h1:w.cell? a1=some u1) (h2:w.cell? a2=some u2):w'.cell? a0=some u0/\w'.cell? a1=some u1/\w'.cell? a2=some u2:=⟨ce1 hb h0,ce1 hb h1,ce1 hb h2⟩
theorem co4 {w w':World} (hb:Below w.heap.size w w') {a0 a1 a2 a3:Addr} {u0 u1 u2 u3:Value} (h0:w.cell? a0=some u0) (h1:w.cell? a1=some u1) (h2:w.cell? a2=some u2) (h3:w.cell? a3=some u3):w'.cell? a0=some u0/\w'.cell? a1=some u1/\w'.cell? a2=some u2/\w'.cell? a3=some u3:=⟨ce1 hb h0,ce1 hb h1,ce1 hb h2,ce1 hb h3⟩
theorem co5 {w w':World} (hb:Below w.heap.size w w') {a0 a1 a2 a3 a4:Addr} {u0 u1 u2 u3 u4:Value} (h0:w.cell? a0=some u0) (h1:w.cell? a1=some u1) (h2:w.cell? a2=some u2) (h3:w.cell? a3=some u3) (h4:w.cell? a4=some u4):w'.cell? a0=some u0/\w'.cell? a1=some u1/\w'.cell? a2=some u2/\w'.cell? a3=some u3/\w'.cell? a4=some u4:=⟨ce1 hb h0,ce1 hb h1,ce1 hb h2,ce1 hb h3,ce1 hb h4⟩
theorem co6 {w w':World} (hb:Below w.heap.size w w') {a0 a1 a2 a3 a4 a5:Addr} {u0 u1 u2 u3 u4 u5:Value} (h0:w.cell? a0=some u0) (h1:w.cell? a1=some u1) (h2:w.cell? a2=some u2) (h3:w.cell? a3=some u3) (h4:w.cell? a4=some u4) (h5:w.cell? a5=some u5):w'.cell? a0=some u0/\w'.cell? a1=some u1/\w'.cell? a2=some u2/\w'.cell? a3=some u3/\w'.cell? a4=some u4/\w'.cell? a5=some u5:=⟨ce1 hb h0,ce1 hb h1,ce1 hb h2,ce1 hb h3,ce1 hb h4,ce1 hb h5⟩
theorem co7 {w w':World} (hb:Below w.heap.size w w') {a0 a1 a2 a3 a4 a5 a6:Addr} {u0 u1 u2 u3 u4 u5 u6:Value} (h0:w.cell? a0=some u0) (h1:w.cell? a1=some u1) (h2:w.cell? a2=some u2) (h3:w.cell? a3=some u3) (h4:w.cell? a4=some u4) (h5:w.cell? a5=some u5) (h6:w.cell? a6=some u6):w'.cell? a0=some u0/\w'.cell? a1=some u1/\w'.cell? a2=some u2/\w'.cell? a3=some u3/\w'.cell? a4=some u4/\w'.cell? a5=some u5/\w'.cell? a6=some u6:=⟨ce1 hb h0,ce1 hb h1,ce1 hb h2,ce1 hb h3,ce1 hb h4,ce1 hb h5,ce1 hb h6⟩
theorem co8 {w w':World} (hb:Below w.heap.size w w') {a0 a1 a2 a3 a4 a5 a6 a7:Addr} {u0 u1 u2 u3 u4 u5 u6 u7:Value} (h0:w.cell? a0=some u0) (h1:w.cell? a1=some u1) (h2:w.cell? a2=some u2) (h3:w.cell? a3=some u3) (h4:w.cell? a4=some u4) (h5:w.cell? a5=some u5) (h6:w.cell? a6=some u6) (h7:w.cell? a7=some u7):w'.cell? a0=some u0/\w'.cell? a1=some u1/\w'.cell? a2=some u2/\w'.cell? a3=some u3/\w'.cell? a4=some u4/\w'.cell? a5=some u5/\w'.cell? a6=some u6/\w'.cell? a7=some u7:=⟨ce1 hb h0,ce1 hb h1,ce1 hb h2,ce1 hb h3,ce1 hb h4,ce1 hb h5,ce1 hb h6,ce1 hb h7⟩
theorem co9 {w w':World} (hb:Below w.heap.size w w') {a0 a1 a2 a3 a4 a5 a6 a7 a8:Addr} {u0 u1 u2 u3 u4 u5 u6 u7 u8:Value} (h0:w.cell? a0=some u0) (h1:w.cell? a1=some u1) (h2:w.cell? a2=some u2) (h3:w.cell? a3=some u3) (h4:w.cell? a4=some u4) (h5:w.cell? a5=some u5) (h6:w.cell? a6=some u6) (h7:w.cell? a7=some u7) (h8:w.cell? a8=some u8):w'.cell? a0=some u0/\w'.cell? a1=some u1/\w'.cell? a2=some u2/\w'.cell? a3=some u3/\w'.cell? a4=some u4/\w'.cell? a5=some u5/\w'.cell? a6=some u6/\w'.cell? a7=some u7/\w'.cell? a8=some u8:=⟨ce1 hb h0,ce1 hb h1,ce1 hb h2,ce1 hb h3,ce1 hb h4,ce1 hb h5,ce1 hb h6,ce1 hb h7,ce1 hb h8⟩
theorem Cy {w w':World} (hb:Below w.heap.size w w') {a0 a1 a2 a3 a4 a5 a6 a7 a8 a9:Addr} {u0 u1 u2 u3 u4 u5 u6 u7 u8 u9:Value} (h0:w.cell? a0=some u0) (h1:w.cell? a1=some u1) (h2:w.cell? a2=some u2) (h3:w.cell? a3=some u3) (h4:w.cell? a4=some u4) (h5:w.cell? a5=some u5) (h6:w.cell? a6=some u6) (h7:w.cell? a7=some u7) (h8:w.cell? a8=some u8) (h9:w.cell? a9=some u9):w'.cell? a0=some u0/\w'.cell? a1=some u1/\w'.cell? a2=some u2/\w'.cell? a3=some u3/\w'.cell? a4=some u4/\w'.cell? a5=some u5/\w'.cell? a6=some u6/\w'.cell? a7=some u7/\w'.cell? a8=some u8/\w'.cell? a9=some u9:=⟨ce1 hb h0,ce1 hb h1,ce1 hb h2,ce1 hb h3,ce1 hb h4,ce1 hb h5,ce1 hb h6,ce1 hb h7,ce1 hb h8,ce1 hb h9⟩
theorem cn3 {w:World} {n:Nat} {a0 a1 a2:Addr} {u0 u1 u2:Value} (h0:w.cell? a0=some u0) (h1:w.cell? a1=some u1) (h2:w.cell? a2=some u2):(w.drewN n).cell? a0=some u0/\(w.drewN n).cell? a1=some u1/\(w.drewN n).cell? a2=some u2:=⟨h0,h1,h2⟩
theorem CK {w:World} {n:Nat} {a0 a1 a2 a3 a4 a5 a6 a7 a8 a9:Addr} {u0 u1 u2 u3 u4 u5 u6 u7 u8 u9:Value} (h0:w.cell? a0=some u0) (h1:w.cell? a1=some u1) (h2:w.cell? a2=some u2) (h3:w.cell? a3=some u3) (h4:w.cell? a4=some u4) (h5:w.cell? a5=some u5) (h6:w.cell? a6=some u6) (h7:w.cell? a7=some u7) (h8:w.cell? a8=some u8) (h9:w.cell? a9=some u9):(w.drewN n).cell? a0=some u0/\(w.drewN n).cell? a1=some u1/\(w.drewN n).cell? a2=some u2/\(w.drewN n).cell? a3=some u3/\(w.drewN n).cell? a4=some u4/\(w.drewN n).cell? a5=some u5/\(w.drewN n).cell? a6=some u6/\(w.drewN n).cell? a7=some u7/\(w.drewN n).cell? a8=some u8/\(w.drewN n).cell? a9=some u9:=⟨h0,h1,h2,h3,h4,h5,h6,h7,h8,h9⟩
theorem bA (w:World) (o:Obj):Below w.heap.size w (w.alloc o):=(Below.refl _ w).alloc (Nat.le_refl _) o
theorem bD (w:World):Below w.heap.size w w.drew:=(Below.refl _ w).drew
theorem bL {w:World} {a:Addr} {u:Value} (h:w.cell? a=some u):a.block < w.heap.size:=World.block_lt_of_cell? w _ h
theorem orT {A B C E:Prop} (h:(A/\E)\/(B/\C)) (hb:¬ B:=by (intro h;cases h)):E:=h.elim (fun h=>h.2) (fun h=>absurd h.1 hb)
end Go.Proofs.YtfffpjkcfnekaaaGreat
namespace Go.Proofs.YtfffpjkcfnekaaaGreat.Ex
open Go.RowKit Go.ChangeShapes Go.WideShapes
open Go.Value renaming slice -> O, int -> U, bool -> zg, agg -> zh, pointer -> zi, tuple -> zk
open Go.IntKind renaming i64 -> zd
open Go.Obj renaming cells -> ze
open Go.Ending renaming returned -> zj
theorem Tryz.cellsX:Tryz.prog.cellsOf 94=3:=by kernel_rfl
theorem Tryz.cellsXs:Tryz.prog.cellsOf 92=1:=by kernel_rfl
theorem Tryz.cellsI:Tryz.prog.cellsOf 3=1:=by kernel_rfl
abbrev D:=DataW Empty
def xD (k n:Int) (args:List D):D:=.agg [.lit (.int zd k),.lit (.int zd n),.slice args []]
def XS (size:Nat) (R:List Value->D->Prop) (w:World) (v:Value) (ds:List D):Prop:=
 ds.length<=maxLen/\∃ ao cap,v=O ao ds.length cap/\(ds≠[]->∃ b off,ao=some ⟨b,off,none⟩ /\
  ∀ (i:Nat) (d:D),ds[i]? = some d->∃ cs:List Value,cs.length=size/\(∀ (j:Nat) (u:Value),cs[j]? = some u->w.cell? ⟨b,off+i*size+j,none⟩=some u)/\R cs d)
def Ce (n:Int):Prop:=-9223372036854775808<=n/\n<=9223372036854775807
theorem Pu {n:Int} (h:(Lit.int zd n).wf=true):Ce n:=by
 have h2:(decide (IntKind.i64.min<=n) && decide (n<=IntKind.i64.max))=true:=h
 rw [Bool.and_eq_true,decide_eq_true_iff,decide_eq_true_iff] at h2
 exact h2
def RX (w:World):Nat->List Value->D->Prop
 | 0,_,_=>False
 | k+1,cs,d=>∃ (kd n:Int) (v:Value) (ds:List D),cs=[U zd kd,U zd n,v]/\d=xD kd n ds/\Ce kd/\Ce n/\XS 3 (RX w k) w v ds
theorem XS.mono {size:Nat} {R R':List Value->D->Prop} {w w':World} {v:Value} {ds:List D} (h:XS size R w v ds)
  (hw:∀ a u,w.cell? a=some u->w'.cell? a=some u) (hR:∀ cs d,d∈ds->R cs d->R' cs d):XS size R' w' v ds:=by
 obtain ⟨hm,ao,cap,hv,hc⟩:=h
 refine ⟨hm,ao,cap,hv,fun hne=>?_⟩
 obtain ⟨b,off,hao,hel⟩:=hc hne
 refine ⟨b,off,hao,fun i d hd=>?_⟩
 obtain ⟨cs,hl,hcs,hr⟩:=hel i d hd
 exact ⟨cs,hl,fun j u hu=>hw _ _ (hcs j u hu),hR cs d (List.mem_of_getElem? hd) hr⟩
theorem RX.mono {w w':World} (hw:∀ a u,w.cell? a=some u->w'.cell? a=some u) :
  ∀ (k m:Nat) (cs:List Value) (d:D),k<=m->RX w k cs d->RX w' m cs d:=by
 intro k
 induction k with
 | zero=>intro m cs d _ h;exact h.elim
 | succ k ih=>
  intro m cs d hkm h
  obtain ⟨m',rfl⟩:∃ m',m=m' + 1:=⟨m - 1,by omega⟩
  obtain ⟨kd,n,v,ds,hcs,hd,h1,h2,hr⟩:=h
  exact ⟨kd,n,v,ds,hcs,hd,h1,h2,hr.mono hw (fun cs d _ hh=>ih m' cs d (by omega) hh)⟩
theorem Fe {H:Type} {enc:TypeId × Value->H} {W:World}:∀ (fuel:Nat) (cs:List Value) (x:DataW H × List MemPlace),DataW.trod enc Tryz.prog W 0 (fun _=>true) true fuel 94 cs=some x->∃ d,RX W fuel cs d:=by
 intro fuel
 induction fuel using Nat.strongRecOn with
 | ind fuel ih=>
  intro cs x h
  obtain ⟨xs,n,rfl,hx,hl,hxl,hf⟩:=DataW.trod_struct Tryz.underlying94 h
  rw [Tryz.cellsX] at hl
  match cs,hl,xs,hxl with
  | [c0,c1,c2],_,[y0,y1,y2],_=>
   have h0:=hf 0 _ rfl
   have h1:=hf 1 _ rfl
   have h2:=hf 2 _ rfl
   simp [Tryz.cellsI,Tryz.cellsXs] at h0 h1 h2
   obtain ⟨a,e0,r0⟩:=DataW.trod_int Tryz.underlying3 h0
   obtain ⟨b,e1,r1⟩:=DataW.trod_int Tryz.underlying3 h1
   simp at e0 e1
   subst e0
   subst e1
   have wa:Ce a:=Pu r0.2
   have wb:Ce b:=Pu r1.2
   rcases DataW.trod_slice Tryz.underlying92 h2 with ⟨hcs,-⟩ | ⟨ad,len,cap,elems,rest,m,rfl,hcs,-,-,hlc,hcm,hel,hat,-,-⟩
   ·simp at hcs
    subst hcs
    exact ⟨xD a b [],a,b,_,[],rfl,rfl,wa,wb,by simp,none,0,rfl,fun h=>absurd rfl h⟩
   ·simp at hcs
    subst hcs
    rw [Tryz.cellsX] at hat
    have hget:∀ i,i < len->∃ d:D,∃ cs:List Value,cs.length=3/\(∀ (j:Nat) (u:Value),cs[j]? = some u->W.cell? (ad.add (i*3+j))=some u)/\RX W (m+1) cs d:=fun i hi=>by
     have hi2:=hat i hi
     rw [List.getElem?_eq_getElem (by omega),Option.bind_eq_some_iff] at hi2
     obtain ⟨cs,hc,ht⟩:=hi2
     obtain ⟨-,hlen,hcell⟩:=World.cells?_some hc
     obtain ⟨d,hd⟩:=ih m (by omega) cs _ ht
     refine ⟨d,cs,hlen,fun j u hu=>?_,RX.mono (fun _ _ h=>h) m (m+1) cs d (by omega) hd⟩
     have hj:j < 3:=by have:=(List.getElem?_eq_some_iff.1 hu).1;omega
     have hk:=hcell j hj
     rw [hu] at hk
     rw [Addr.add_add] at hk
     exact hk
    obtain ⟨f,hf⟩:=Deep.choose_lt hget
    refine ⟨xD a b ((List.range len).map f),a,b,_,(List.range len).map f,rfl,rfl,wa,wb,by simp;omega,some ad,cap,by simp,fun hne=>?_⟩
    have h0:0 < len:=by
     rcases Nat.eq_zero_or_pos len with h | h
     ·subst h;simp at hne
     ·exact h
    have hp:∃ b off,ad=⟨b,off,none⟩:=by
     obtain ⟨cs,hl,hc,-⟩:=hf 0 h0
     obtain ⟨u,hu⟩:∃ u,cs[0]? = some u:=⟨cs[0]'(by omega),List.getElem?_eq_getElem (by omega)⟩
     have hk:=hc 0 u hu
     have hsp:ad.spot=none:=by simpa [Addr.add] using World.cell?_spot hk
     obtain ⟨b,off,sp⟩:=ad
     simp only at hsp
     subst hsp
     exact ⟨b,off,rfl⟩
    obtain ⟨bb,off,rfl⟩:=hp
    refine ⟨bb,off,rfl,fun i d hd=>?_⟩
    have hi:i < len:=by
     have:=(List.getElem?_eq_some_iff.1 hd).1
     simpa using this
    have hd':d=f i:=by
     rw [List.getElem?_map,List.getElem?_range hi] at hd
     simpa using hd.symm
    subst hd'
    obtain ⟨cs,hl,hc,hr⟩:=hf i hi
    exact ⟨cs,hl,fun j u hu=>by have:=hc j u hu;rw [Addr.add_lit] at this;simpa [Nat.add_assoc] using this,hr⟩
end Go.Proofs.YtfffpjkcfnekaaaGreat.Ex
namespace Go.Proofs.YtfffpjkcfnekaaaGreat.Ex
open Go.RowKit
open Go.Value renaming slice -> O, int -> U, bool -> zg, agg -> zh, pointer -> zi, tuple -> zk
open Go.IntKind renaming i64 -> zd
open Go.Obj renaming cells -> ze
open Go.Ending renaming returned -> zj
theorem Aa {p:Prop} (h:p):Hx p:=h
def C3 (n:Int):Bool:=decide (-2147483648<=n/\n<=2147483647)
def wrap32 (z:Int):Int:=(z+2147483648) % 4294967296 - 2147483648
theorem D4 (z:Int):-2147483648<=wrap32 z/\wrap32 z<=2147483647:=by unfold wrap32;omega
theorem Am {W w1:World} (hb:Ov W w1):(∀ b o,b < W.heap.size->w1.cell? ⟨b,o,none⟩=W.cell? ⟨b,o,none⟩)/\(∀ b o,b < W.heap.size->w1.frozen? ⟨b,o,none⟩=W.frozen? ⟨b,o,none⟩):=
 ⟨fun b o h=>hb.cell (p:=⟨b,o,none⟩) h,fun b o h=>hb.frozen (p:=⟨b,o,none⟩) h⟩
theorem Ab {w w':World} (hb:Ov w w') (a:Addr) (u:Value) (h:w.cell? a=some u):w'.cell? a=some u:=by
 rw [hb.cell (bL h)]
 exact h
theorem RX.over {w w':World} {k:Nat} {cs:List Value} {d:D} (h:RX w k cs d) (hb:Ov w w'):RX w' k cs d:=RX.mono (Ab hb) k k cs d (Nat.le_refl _) h
def AX:D->List D
 | .agg [_,_,.slice l _]=>l
 | _=>[]
def AK:D->Int
 | .agg (.lit (.int _ n)::_)=>n
 | _=>0
def A6:D->Int
 | .agg (_::.lit (.int _ n)::_)=>n
 | _=>0
@[simp] theorem Jf (k n:Int) (l:List D):AX (xD k n l)=l:=rfl
@[simp] theorem Gg (k n:Int) (l:List D):AK (xD k n l)=k:=rfl
@[simp] theorem Kq (k n:Int) (l:List D):A6 (xD k n l)=n:=rfl
theorem RX.form {w:World} {k:Nat} {cs:List Value} {d:D} (h:RX w k cs d):∃ ao cap,cs=[U zd (AK d),U zd (A6 d),O ao (AX d).length cap]:=by
 cases k with
 | zero=>exact h.elim
 | succ k=>
  obtain ⟨kd,n,v,ds,rfl,rfl,-,-,-,ao,cap,rfl,-⟩:=h
  exact ⟨ao,cap,rfl⟩
def Bx (f:D->Int->Int) (m:Int):List D->Int->Int
 | [],n=>n
 | a::l,n=>if n<=m then Bx f m l (n+f a (m - n)) else n
def B9:Nat->D->Int->Int
 | 0,_,_=>1
 | k+1,d,m=>Bx (B9 k) m (AX d) 1
theorem FH (f:D->Int->Int) (hf:∀ d m,0<=m->1<=f d m/\f d m<=m+1) (m:Int):∀ (l:List D) (n:Int),1<=n->n<=m+1->1<=Bx f m l n/\Bx f m l n<=m+1
 | [],n,h1,h2=>⟨h1,h2⟩
 | a::l,n,h1,h2=>by
  unfold Bx
  split
  ·have:=hf a (m - n) (by omega)
   exact FH f hf m l _ (by omega) (by omega)
  ·exact ⟨h1,h2⟩
theorem Fd:∀ (k:Nat) (d:D) (m:Int),0<=m->1<=B9 k d m/\B9 k d m<=m+1
 | 0,_,m,h=>by unfold B9;omega
 | k+1,d,m,h=>FH _ (Fd k) m _ 1 (by omega) (by omega)
theorem GU (f:D->Int->Int) (m:Int) (l) (n:Int) (h:m < n):Bx f m l n=n:=by
 cases l with
 | nil=>rfl
 | cons a l=>unfold Bx;rw [if_neg (by omega)]
theorem GT {f:D->Int->Int} {m n:Int} {l:List D} {j:Nat} (hj:j < l.length) (h:n<=m):Bx f m (l.drop j) n=Bx f m (l.drop (j+1)) (n+f l[j] (m - n)):=by
 rw [List.drop_eq_getElem_cons hj]
 rw [Bx,if_pos h]
def AQ (w:World) (v:Value) (l:List Int):Prop:=
 ∃ ao cap,v=O ao l.length cap/\(l≠[]->∃ b off,ao=some ⟨b,off,none⟩/\∀ i (h:i < l.length),w.cell? ⟨b,off+i,none⟩=some (U zd l[i]))
theorem AQ.over {w w':World} {v:Value} {l:List Int} (h:AQ w v l) (hb:Ov w w'):AQ w' v l:=by
 obtain ⟨ao,cap,hv,hc⟩:=h
 refine ⟨ao,cap,hv,fun hne=>?_⟩
 obtain ⟨b,off,hao,hel⟩:=hc hne
 exact ⟨b,off,hao,fun i hi=>Ab hb _ _ (hel i hi)⟩
def opX (k a b:Int):Int:=
 if k=3 then wrap32 (a+b) else if k=4 then wrap32 (a - b) else if k=5 then wrap32 (a*b) else if k=6/\a < b\/k=7/\a=b then 1 else 0
def AB (vs:List Int):Nat->D->Int
 | 0,_=>0
 | k+1,d=>if AK d=1 then A6 d else if AK d=2 then vs.getD (A6 d).toNat 0 else
  match AX d with
  | [x,y]=>opX (AK d) (AB vs k x) (AB vs k y)
  | _=>0
def okX (m:Nat):Nat->D->Prop
 | 0,_=>False
 | k+1,d=>(AK d=1/\-9999999<=A6 d/\A6 d<=9999999)\/(AK d=2/\0<=A6 d/\A6 d < m)\/(3<=AK d/\AK d<=7/\∃ x y,AX d=[x,y]/\okX m k x/\okX m k y)
def I32 (n:Int):Prop:=-2147483648<=n/\n<=2147483647
theorem Qa (k a b:Int):I32 (opX k a b):=by
 unfold opX I32
 have h1:=D4 (a+b)
 have h2:=D4 (a - b)
 have h3:=D4 (a*b)
 repeat' split
 all_goals omega
theorem EN {vs:List Int} (hv:∀ x∈vs,I32 x):∀ (k:Nat) (d:D),okX vs.length k d->I32 (AB vs k d):=by
 intro k
 induction k with
 | zero=>intro d h;exact h.elim
 | succ k ih=>
  intro d h
  rcases h with ⟨h1,h2,h3⟩ | ⟨h1,h2,h3⟩ | ⟨h1,h2,x,y,hxy,hx,hy⟩
  ·unfold AB
   rw [if_pos h1]
   unfold I32
   omega
  ·unfold AB
   rw [if_neg (by omega),if_pos h1]
   have hl:(A6 d).toNat < vs.length:=by omega
   rw [List.getD_eq_getElem?_getD,List.getElem?_eq_getElem hl]
   exact hv _ (List.getElem_mem hl)
  ·unfold AB
   rw [if_neg (by omega),if_neg (by omega),hxy]
   exact Qa _ _ _
theorem Pn {w w0 w1:World} {a0 a1 a2 a3 a4 a5 a6 a7:Addr} {v0 v1 v2 v3 v4 v5 v6 v7:Value}
  (h:w0.cell? a0=some v0/\w0.cell? a1=some v1/\w0.cell? a2=some v2/\w0.cell? a3=some v3/\w0.cell? a4=some v4/\w0.cell? a5=some v5/\w0.cell? a6=some v6/\w0.cell? a7=some v7/\Ov w w0) (hb:Ov w0 w1) :
  w1.cell? a0=some v0/\w1.cell? a1=some v1/\w1.cell? a2=some v2/\w1.cell? a3=some v3/\w1.cell? a4=some v4/\w1.cell? a5=some v5/\w1.cell? a6=some v6/\w1.cell? a7=some v7/\Ov w w1:=by
 obtain ⟨h0,h1,h2,h3,h4,h5,h6,h7,hB⟩:=h
 exact ⟨Ab hb _ _ h0,Ab hb _ _ h1,Ab hb _ _ h2,Ab hb _ _ h3,Ab hb _ _ h4,Ab hb _ _ h5,Ab hb _ _ h6,Ab hb _ _ h7,hB.trans (hb.mono hB.size)⟩
theorem below_drewN {W w:World} {n:Nat} (h:Below n W w) (k:Nat):Below n W (w.drewN k):=by
 induction k with
 | zero=>exact h
 | succ k ih=>exact ih.drew
theorem Dg {W:World} {B B' e s:Nat} {v:Value} {k:Nat} {xs:List Value} (h:W.ownsRow B e s v k xs) (hb:B'<=B):W.ownsRow B' e s v k xs:=by
 obtain ⟨h1,h2⟩:=h
 refine ⟨h1,?_⟩
 rcases h2 with h2 | ⟨g,cap,cur,hv,hg,r⟩
 ·exact Or.inl h2
 ·exact Or.inr ⟨g,cap,cur,hv,Nat.le_trans hb hg,r⟩
theorem P8 {W:World} {B e s:Nat} {v:Value} {k:Nat} {xs:List Value} (h:W.ownsRow B e s v k xs) {g:Nat} (hg:v.ownBlock=some g):B<=g/\g < W.heap.size:=by
 rcases h.2 with ⟨rfl,_⟩ | ⟨g',cap,cur,rfl,hg',hh,_⟩
 ·cases hg
 ·simp [Value.ownBlock] at hg
  subst hg
  exact ⟨hg',(Array.getElem?_eq_some_iff.1 hh).1⟩
theorem DX {B e s:Nat} {W W':World} {v:Value} {k:Nat} {xs:List Value} (h:W.ownsRow B e s v k xs) (hg:W.grownBy W' v.ownBlock) (hB:B<=W.heap.size):Below B W W':=
 ⟨hg.os,hg.tape,hg.output,hg.size,fun j hj=>hg.block j (Nat.lt_of_lt_of_le hj hB) (fun e=>by have:=(P8 h e.symm).1;omega)⟩
def Ck:Nat->D->List D
 | 0,_=>[]
 | k+1,d=>d::(AX d).flatMap (Ck k)
def CD (vars k n:Int) (l:Nat):Int:=
 if ¬ (1<=k/\k<=7) then 7 else if k<=2/\l≠0\/2 < k/\l≠2 then 1 else if k=1/\¬ (-9999999<=n/\n<=9999999)\/2 < k/\n≠0 then 3 else if k=2/\¬ (0<=n/\n<=vars - 1) then 5 else 0
def BB (vars:Int):List D->Int
 | []=>0
 | d::l=>if CD vars (AK d) (A6 d) (AX d).length=0 then BB vars l else CD vars (AK d) (A6 d) (AX d).length
def Az (vars:Int) (k:Nat) (d:D):Int:=if 15 < B9 k d 15 then 2 else BB vars (Ck k d)
def Cw (vs:List Int) (k:Nat) (d:D):Int:=if Az vs.length k d=0 then (if vs.all C3=true then 0 else 3) else Az vs.length k d
theorem C6 {vars:Int}:∀ {l:List D},BB vars l=0->∀ d∈l,CD vars (AK d) (A6 d) (AX d).length=0
 | [],_,d,hd=>by cases hd
 | a::l,h,d,hd=>by
  rw [BB] at h
  split at h
  ·rename_i h0
   rcases List.mem_cons.1 hd with rfl | hd
   ·exact h0
   ·exact C6 h d hd
  ·rename_i h0
   exact absurd h h0
theorem Ej {vars k n:Int} {l:Nat} (h:CD vars k n l=0):(k=1/\-9999999<=n/\n<=9999999)\/(k=2/\0<=n/\n < vars)\/(3<=k/\k<=7/\l=2):=by
 unfold CD at h
 split at h
 ·omega
 ·split at h
  ·omega
  ·split at h
   ·omega
   ·split at h
    ·omega
    ·omega
theorem MT {w:World} {m:Nat}:∀ (k:Nat) (cs:List Value) (d:D),RX w k cs d->(∀ x∈Ck k d,CD m (AK x) (A6 x) (AX x).length=0)->okX m k d:=by
 intro k
 induction k with
 | zero=>intro cs d h;exact h.elim
 | succ k ih=>
  intro cs d h ha
  obtain ⟨kd,n,v,ds,rfl,rfl,hkd,hn,hlen,ao,cap,rfl,hc⟩:=h
  have h0:=Ej (ha (xD kd n ds) (by simp [Ck]))
  simp only [Gg,Kq,Jf] at h0
  rcases h0 with h0 | h0 | ⟨h1,h2,h3⟩
  ·exact Or.inl h0
  ·exact Or.inr (Or.inl h0)
  ·refine Or.inr (Or.inr ⟨h1,h2,?_⟩)
   match ds,h3 with
   | [x,y],_=>
    obtain ⟨b,off,-,hel⟩:=hc (by simp)
    obtain ⟨xs,-,-,hx⟩:=hel 0 x rfl
    obtain ⟨ys,-,-,hy⟩:=hel 1 y rfl
    exact ⟨x,y,rfl,ih xs x hx (fun q hq=>ha q (by simp [Ck,hq])),ih ys y hy (fun q hq=>ha q (by simp [Ck,hq]))⟩
theorem EZ {w:World} {vs:List Int} {k:Nat} {cs:List Value} {d:D} (h:RX w k cs d) (h0:Cw vs k d=0):okX vs.length k d/\∀ x∈vs,I32 x:=by
 unfold Cw at h0
 split at h0
 ·rename_i hc
  split at h0
  ·rename_i hv
   refine ⟨?_,fun x hx=>by have:=List.all_eq_true.1 hv x hx;simpa [C3,I32] using this⟩
   unfold Az at hc
   split at hc
   ·omega
   ·exact MT k cs d h (C6 hc)
  ·omega
 ·rename_i hc
  exact absurd h0 hc
theorem MZ:∀ (k:Nat) (cs:List Value) (d:D) (w:World) (m:Int),RX w k cs d->0<=m->m<=15 ->
  Calls Tryz.prog 162 #[.agg cs.toArray,U zd m] w fun e w'=>e=zj (U zd (m - B9 k d m))/\Ov w w':=by
 intro k
 induction k with
 | zero=>intro cs d w m h;exact h.elim
 | succ k ih=>
  intro cs d w m h m0 m1
  obtain ⟨kd,n,v,ds,rfl,rfl,hkd,hn,hlen,ao,cap,rfl,hc⟩:=h
  have HC:=Aa hc
  have IH:=Aa ih
  have HL:ds.length<=9223372036854775807:=hlen
  have hspec:B9 (k+1) (xD kd n ds) m=Bx (B9 k) m ds 1:=rfl
  rw [hspec]
  have hbel:Ov w (w.alloc (ze #[U zd kd,U zd n,O ao ds.length cap] 94)):=bA w _
  clear hc ih hspec hkd hn hlen
  show Calls Tryz.prog 162 #[zh #[U zd kd,U zd n,O ao ds.length cap],U zd m] w _
  go_enter Tryz.func162,Tryz.ntmps162
  go_wp2_with fail
  go_loopw [1,12] (fun c i wr=>∃ (j:Nat) (t:Int),j<=ds.length/\i=U zd j/\c=U zd (m - t)/\1<=t/\t<=m+1/\Bx (B9 k) m ds 1=Bx (B9 k) m (ds.drop j) t/\Ov w wr) (fun _ i _=>ds.length - (intOf i).toNat)
  case atStart=>exact ⟨0,1,Nat.zero_le _,rfl,rfl,by omega,by omega,rfl,hbel⟩
  case round=>
   clear hbel
   obtain ⟨j,t,hj,rfl,rfl,t1,t2,hp,hB⟩:=hrel
   have HP:=Aa hp
   clear hp
   by_cases hjl:j < ds.length
   ·obtain ⟨b,off,rfl,hcl⟩:=HC.o (by rintro rfl;simp at hjl)
    obtain ⟨cs,hl3,hcs,hr⟩:=hcl j ds[j] (List.getElem?_eq_getElem hjl)
    obtain ⟨ao',cap',hcse⟩:=hr.form
    have hnext:=fun h=>GT (f:=B9 k) (m:=m) (n:=t) hjl h
    have hle:=fun h=>Fd k ds[j] (m - t) h
    obtain ⟨dj,hdj⟩:=nm (ds[j])
    rw [<-hdj] at hnext hle hr hcse
    obtain ⟨kj,hkj⟩:=nm (AK dj)
    obtain ⟨nj,hnj⟩:=nm (A6 dj)
    obtain ⟨lj,hlj⟩:=nm ((AX dj).length)
    rw [<-hkj,<-hnj,<-hlj] at hcse
    subst hcse
    have q0:wr.cell? ⟨b,off+j*3,none⟩=_:=Ab hB _ _ (hcs 0 _ rfl)
    have q1:=Ab hB _ _ (hcs 1 _ rfl)
    have q2:=Ab hB _ _ (hcs 2 _ rfl)
    have hba:Ov wr (wr.alloc (ze #[U zd kj,U zd nj,O ao' lj cap'] 94)):=bA wr _
    have hBa:Ov w (wr.alloc (ze #[U zd kj,U zd nj,O ao' lj cap'] 94)):=hB.trans (hba.mono hB.size)
    by_cases htm:t<=m
    ·have hnext:=hnext htm
     have hle:=hle (by omega)
     have hcall:=IH.o _ dj _ (m - t) (hr.over hBa) (by omega) (by omega)
     obtain ⟨r,hre⟩:=nm (B9 k dj (m - t))
     rw [<-hre] at hcall hnext hle
     have HCALL:=Aa hcall
     have HN:=Aa hnext
     clear hcall hnext hre hkj hnj hlj hr hcs hcl hl3 hdj
     go_wp2_with fail
     refine (HCALL.o).mono ?_
     rintro e w1 ⟨rfl,hb1⟩
     have hB':Ov w w1:=hBa.trans (hb1.mono hBa.size)
     clear q0 q1 q2 hB hb1 HCALL hba hBa
     go_wp2_with fail
     exact ⟨⟨j+1,t+r,by omega,by go_num,by go_num,by omega,by omega,by rw [HP.o,HN.o],hB'⟩,by simp [intOf];omega⟩
    ·have hd:=GU (B9 k) m (ds.drop j) t (by omega)
     have HD:=Aa hd
     have hneg:m - t < 0:=by omega
     clear hd hnext hle hr hcs hcl hl3 hdj hkj hnj hlj htm
     go_wp2_with fail
     go_ret
     exact ⟨by rw [HP.o,HD.o];rfl,hBa⟩
   ·have hd:Bx (B9 k) m (ds.drop j) t=t:=by rw [List.drop_eq_nil_of_le (by omega)];rfl
    have HD:=Aa hd
    clear hd
    go_wp2_with fail
    go_ret
    exact ⟨by rw [HP.o,HD.o];rfl,hB⟩
def C8 (k:Int):Int:=if k=1\/k=2 then 0 else 2
theorem GE (k:Int) (w:World):Calls Tryz.prog 209 #[U zd k] w fun e w'=>e=zj (U zd (C8 k))/\w'=w:=by
 by_cases h1:k=1
 ·subst h1
  go_enter Tryz.func209,Tryz.ntmps209
  go_wp2
  go_ret
  exact ⟨rfl,rfl⟩
 ·by_cases h2:k=2
  ·subst h2
   go_enter Tryz.func209,Tryz.ntmps209
   go_wp2
   go_ret
   exact ⟨rfl,rfl⟩
  ·have b1:(k == 1)=false:=by simpa using h1
   have b2:(k == 2)=false:=by simpa using h2
   go_enter Tryz.func209,Tryz.ntmps209
   go_wp2
   go_ret
   exact ⟨by simp [C8,h1,h2],rfl⟩
theorem Ew (vars:Int):∀ (l m:List D),BB vars (l++m)=if BB vars l=0 then BB vars m else BB vars l
 | [],m=>by simp [BB]
 | a::l,m=>by
  rw [List.cons_append,BB,BB]
  split
  ·exact Ew vars l m
  ·rfl
def Fz (vars:Int) (k:Nat):List D->Int
 | []=>0
 | a::l=>if BB vars (Ck k a)=0 then Fz vars k l else BB vars (Ck k a)
theorem F3 (vars:Int) (k:Nat):∀ l:List D,Fz vars k l=BB vars (l.flatMap (Ck k))
 | []=>rfl
 | a::l=>by rw [Fz,List.flatMap_cons,Ew,F3 vars k l]
theorem Jq {vars:Int} {k:Nat} {l:List D} {j:Nat} (hj:j < l.length):Fz vars k (l.drop j)=if BB vars (Ck k l[j])=0 then Fz vars k (l.drop (j+1)) else BB vars (Ck k l[j]):=by
 rw [List.drop_eq_getElem_cons hj]
 rfl
theorem Lo (vars kd n:Int) (dl cap:Nat) (ao:Option Addr) (w:World) (v0:0<=vars) (v1:vars<=9223372036854775807) (HL:dl<=9223372036854775807) (hkd:Ce kd) (hn:Ce n) (hE:CD vars kd n dl≠0) :
  Calls Tryz.prog 163 #[zh #[U zd kd,U zd n,O ao dl cap],U zd vars] w fun e w'=>e=zj (U zd (CD vars kd n dl))/\Ov w w':=by
 have hbel:Ov w (w.alloc (ze #[U zd kd,U zd n,O ao dl cap] 94)):=bA w _
 have KA:=Aa fun W=>GE kd W
 obtain ⟨kl,ku⟩:=hkd
 obtain ⟨nl,nu⟩:=hn
 by_cases c1:kd < 1\/7 < kd
 ·have hr:CD vars kd n dl=7:=by unfold CD;rw [if_pos (by omega)]
  rw [hr]
  clear hr hE
  rcases c1 with c1 | c1
  ·go_enter Tryz.func163,Tryz.ntmps163
   go_wp2_with fail
   go_ret
   exact ⟨rfl,hbel⟩
  ·have c0:¬ kd < 1:=by omega
   go_enter Tryz.func163,Tryz.ntmps163
   go_wp2_with fail
   go_ret
   exact ⟨rfl,hbel⟩
 ·have c2:1<=kd:=by omega
  have c3:kd<=7:=by omega
  clear c1
  obtain ⟨e0,e1,e2⟩:=rc3 (BC w [U zd kd,U zd n,O ao dl cap] 94)
  by_cases c4:(dl:Int)=C8 kd
  ·by_cases c5:kd=1
   ·subst c5
    have c6:dl=0:=by simpa [C8] using c4
    subst c6
    have ka:C8 1=0:=rfl
    rw [ka] at KA
    have hr:CD vars 1 n 0=3/\(n < -9999999\/9999999 < n):=by
     unfold CD at hE ⊢
     rw [if_neg (by omega),if_neg (by omega)] at hE ⊢
     by_cases q:n < -9999999\/9999999 < n
     ·exact ⟨by rw [if_pos (by omega)],q⟩
     ·rw [if_neg (by omega),if_neg (by omega)] at hE
      exact absurd rfl hE
    obtain ⟨hr,c5⟩:=hr
    rw [hr]
    clear hr hE c4 ka
    rcases c5 with c5 | c5
    ·go_enter Tryz.func163,Tryz.ntmps163
     go_wp2_with fail
     go_region_held3 (fun W=>W.cell? ⟨w.heap.size,0,none⟩=some (U zd 1)/\W.cell? ⟨w.heap.size,1,none⟩=some (U zd n)/\W.cell? ⟨w.heap.size,2,none⟩=some (O ao 0 cap)/\Ov w W) (first | assumption | exact ⟨e0,e1,e2,below_drewN hbel 1⟩ | fail) (first | (go_at_call 209;refine (KA.o _).mono ?_;rintro e wp ⟨rfl,rfl⟩))
     obtain ⟨g0,g1,g2,hB⟩:=(by assumption:_/\_/\_/\Below _ _ _)
     go_wp2_with fail
     go_ret
     exact ⟨rfl,hB⟩
    ·have c6:¬ n < -9999999:=by omega
     go_enter Tryz.func163,Tryz.ntmps163
     go_wp2_with fail
     go_region_held3 (fun W=>W.cell? ⟨w.heap.size,0,none⟩=some (U zd 1)/\W.cell? ⟨w.heap.size,1,none⟩=some (U zd n)/\W.cell? ⟨w.heap.size,2,none⟩=some (O ao 0 cap)/\Ov w W) (first | assumption | exact ⟨e0,e1,e2,below_drewN hbel 1⟩ | fail) (first | (go_at_call 209;refine (KA.o _).mono ?_;rintro e wp ⟨rfl,rfl⟩))
     obtain ⟨g0,g1,g2,hB⟩:=(by assumption:_/\_/\_/\Below _ _ _)
     go_wp2_with fail
     go_ret
     exact ⟨rfl,hB⟩
   ·by_cases c7:kd=2
    ·subst c7
     have c6:dl=0:=by simpa [C8] using c4
     subst c6
     have ka:C8 2=0:=rfl
     rw [ka] at KA
     have hr:CD vars 2 n 0=5/\(n < 0\/vars<=n):=by
      unfold CD at hE ⊢
      rw [if_neg (by omega),if_neg (by omega),if_neg (by omega)] at hE ⊢
      by_cases q:n < 0\/vars<=n
      ·exact ⟨by rw [if_pos (by omega)],q⟩
      ·rw [if_neg (by omega)] at hE
       exact absurd rfl hE
     obtain ⟨hr,c5⟩:=hr
     rw [hr]
     clear hr hE c4 ka
     rcases c5 with c5 | c5
     ·go_enter Tryz.func163,Tryz.ntmps163
      go_wp2_with fail
      go_region_held3 (fun W=>W.cell? ⟨w.heap.size,0,none⟩=some (U zd 2)/\W.cell? ⟨w.heap.size,1,none⟩=some (U zd n)/\W.cell? ⟨w.heap.size,2,none⟩=some (O ao 0 cap)/\Ov w W) (first | assumption | exact ⟨e0,e1,e2,below_drewN hbel 1⟩ | fail) (first | (go_at_call 209;refine (KA.o _).mono ?_;rintro e wp ⟨rfl,rfl⟩))
      obtain ⟨g0,g1,g2,hB⟩:=(by assumption:_/\_/\_/\Below _ _ _)
      go_wp2_with fail
      go_ret
      exact ⟨rfl,hB⟩
     ·have c6:¬ n < 0:=by omega
      go_enter Tryz.func163,Tryz.ntmps163
      go_wp2_with fail
      go_region_held3 (fun W=>W.cell? ⟨w.heap.size,0,none⟩=some (U zd 2)/\W.cell? ⟨w.heap.size,1,none⟩=some (U zd n)/\W.cell? ⟨w.heap.size,2,none⟩=some (O ao 0 cap)/\Ov w W) (first | assumption | exact ⟨e0,e1,e2,below_drewN hbel 1⟩ | fail) (first | (go_at_call 209;refine (KA.o _).mono ?_;rintro e wp ⟨rfl,rfl⟩))
      obtain ⟨g0,g1,g2,hB⟩:=(by assumption:_/\_/\_/\Below _ _ _)
      go_wp2_with fail
      go_ret
      exact ⟨rfl,hB⟩
    ·have ka:C8 kd=2:=by unfold C8;rw [if_neg (by omega)]
     rw [ka] at KA c4
     have c8:dl=2:=by omega
     subst c8
     have hr:CD vars kd n 2=3/\n≠0:=by
      unfold CD at hE ⊢
      rw [if_neg (by omega),if_neg (by omega)] at hE ⊢
      by_cases q:n=0
      ·rw [if_neg (by omega),if_neg (by omega)] at hE
       exact absurd rfl hE
      ·exact ⟨by rw [if_pos (by omega)],q⟩
     obtain ⟨hr,c9⟩:=hr
     rw [hr]
     clear hr hE c4 ka
     go_enter Tryz.func163,Tryz.ntmps163
     go_wp2_with fail
     go_region_held3 (fun W=>W.cell? ⟨w.heap.size,0,none⟩=some (U zd kd)/\W.cell? ⟨w.heap.size,1,none⟩=some (U zd n)/\W.cell? ⟨w.heap.size,2,none⟩=some (O ao 2 cap)/\Ov w W) (first | assumption | exact ⟨e0,e1,e2,below_drewN hbel 1⟩ | fail) (first | (go_at_call 209;refine (KA.o _).mono ?_;rintro e wp ⟨rfl,rfl⟩))
     obtain ⟨g0,g1,g2,hB⟩:=(by assumption:_/\_/\_/\Below _ _ _)
     go_wp2_with fail
     go_ret
     exact ⟨rfl,hB⟩
  ·have hr:CD vars kd n dl=1:=by
    unfold CD
    unfold C8 at c4
    rw [if_neg (by omega)]
    split at c4
    ·rw [if_pos (by omega)]
    ·rw [if_pos (by omega)]
   rw [hr]
   clear hr hE
   go_enter Tryz.func163,Tryz.ntmps163
   go_wp2_with fail
   go_region_held3 (fun W=>W.cell? ⟨w.heap.size,0,none⟩=some (U zd kd)/\W.cell? ⟨w.heap.size,1,none⟩=some (U zd n)/\W.cell? ⟨w.heap.size,2,none⟩=some (O ao dl cap)/\Ov w W) (first | assumption | exact ⟨e0,e1,e2,below_drewN hbel 1⟩ | fail) (first | (go_at_call 209;refine (KA.o _).mono ?_;rintro e wp ⟨rfl,rfl⟩))
   obtain ⟨g0,g1,g2,hB⟩:=(by assumption:_/\_/\_/\Below _ _ _)
   go_wp2_with fail
   go_ret
   exact ⟨rfl,hB⟩
theorem Ln (vars kd n:Int) (cap:Nat) (ao:Option Addr) (w:World) (v0:0<=vars) (v1:vars<=9223372036854775807) (hE:CD vars kd n 0=0) :
  Calls Tryz.prog 163 #[zh #[U zd kd,U zd n,O ao 0 cap],U zd vars] w fun e w'=>e=zj (U zd 0)/\Ov w w':=by
 have KA:=Aa fun W=>GE kd W
 rcases Ej hE with ⟨rfl,c1,c2⟩ | ⟨rfl,c1,c2⟩ | ⟨_,_,c3⟩
 ·have hbel:Ov w (w.alloc (ze #[U zd 1,U zd n,O ao 0 cap] 94)):=bA w _
  obtain ⟨e0,e1,e2⟩:=rc3 (BC w [U zd 1,U zd n,O ao 0 cap] 94)
  have ka:C8 1=0:=rfl
  rw [ka] at KA
  clear hE ka
  have c3:¬ n < -9999999:=by omega
  have c4:¬ 9999999 < n:=by omega
  go_enter Tryz.func163,Tryz.ntmps163
  go_wp2_with fail
  go_region_held3 (fun W=>W.cell? ⟨w.heap.size,0,none⟩=some (U zd 1)/\W.cell? ⟨w.heap.size,1,none⟩=some (U zd n)/\W.cell? ⟨w.heap.size,2,none⟩=some (O ao 0 cap)/\Ov w W) (first | assumption | exact ⟨e0,e1,e2,below_drewN hbel 1⟩ | fail) (first | (go_at_call 209;refine (KA.o _).mono ?_;rintro e wp ⟨rfl,rfl⟩))
  obtain ⟨g0,g1,g2,hB⟩:=(by assumption:_/\_/\_/\Below _ _ _)
  go_wp2_with fail
  go_loopw [67] (fun i wr=>i=U zd 0/\Ov w wr) (fun _ _=>0)
  case atStart=>exact ⟨rfl,hB⟩
  case round=>
   obtain ⟨rfl,hB2⟩:=hrel
   go_wp2_with fail
   go_ret
   exact ⟨rfl,hB2⟩
 ·have hbel:Ov w (w.alloc (ze #[U zd 2,U zd n,O ao 0 cap] 94)):=bA w _
  obtain ⟨e0,e1,e2⟩:=rc3 (BC w [U zd 2,U zd n,O ao 0 cap] 94)
  have ka:C8 2=0:=rfl
  rw [ka] at KA
  clear hE ka
  have c3:¬ n < 0:=by omega
  have c4:¬ vars<=n:=by omega
  go_enter Tryz.func163,Tryz.ntmps163
  go_wp2_with fail
  go_region_held3 (fun W=>W.cell? ⟨w.heap.size,0,none⟩=some (U zd 2)/\W.cell? ⟨w.heap.size,1,none⟩=some (U zd n)/\W.cell? ⟨w.heap.size,2,none⟩=some (O ao 0 cap)/\Ov w W) (first | assumption | exact ⟨e0,e1,e2,below_drewN hbel 1⟩ | fail) (first | (go_at_call 209;refine (KA.o _).mono ?_;rintro e wp ⟨rfl,rfl⟩))
  obtain ⟨g0,g1,g2,hB⟩:=(by assumption:_/\_/\_/\Below _ _ _)
  go_wp2_with fail
  go_loopw [67] (fun i wr=>i=U zd 0/\Ov w wr) (fun _ _=>0)
  case atStart=>exact ⟨rfl,hB⟩
  case round=>
   obtain ⟨rfl,hB2⟩:=hrel
   go_wp2_with fail
   go_ret
   exact ⟨rfl,hB2⟩
 ·omega
theorem MQ (vars:Int) (v0:0<=vars) (v1:vars<=9223372036854775807):∀ (k:Nat) (cs:List Value) (d:D) (w:World),RX w k cs d ->
  Calls Tryz.prog 163 #[.agg cs.toArray,U zd vars] w fun e w'=>e=zj (U zd (BB vars (Ck k d)))/\Ov w w':=by
 intro k
 induction k with
 | zero=>intro cs d w h;exact h.elim
 | succ k ih=>
  intro cs d w h
  obtain ⟨kd,n,v,ds,rfl,rfl,hkd,hn,hlen,ao,cap,rfl,hc⟩:=h
  have hspec:BB vars (Ck (k+1) (xD kd n ds))=if CD vars kd n ds.length=0 then Fz vars k ds else CD vars kd n ds.length:=by
   rw [F3]
   rfl
  rw [hspec]
  show Calls Tryz.prog 163 #[zh #[U zd kd,U zd n,O ao ds.length cap],U zd vars] w _
  by_cases hE:CD vars kd n ds.length=0
  ·rw [if_pos hE]
   have hz:=Ej hE
   cases ds with
   | nil=>exact Ln vars kd n cap ao w v0 v1 hE
   | cons d0 dr=>
    have hk3:3<=kd/\kd<=7/\(d0::dr).length=2/\n=0:=by
     rcases hz with ⟨rfl,_,_⟩ | ⟨rfl,_,_⟩ | ⟨z1,z2,z3⟩
     ·exfalso
      unfold CD at hE
      rw [if_neg (by omega),if_pos (by simp)] at hE
      omega
     ·exfalso
      unfold CD at hE
      rw [if_neg (by omega),if_pos (by simp)] at hE
      omega
     ·refine ⟨z1,z2,z3,?_⟩
      rw [z3] at hE
      unfold CD at hE
      rw [if_neg (by omega),if_neg (by omega)] at hE
      by_cases q:n=0
      ·exact q
      ·rw [if_pos (by omega)] at hE
       omega
    obtain ⟨k1,k2,z3,rfl⟩:=hk3
    obtain ⟨ds,hds⟩:=nm (d0::dr)
    rw [<-hds] at hc z3 ⊢
    rw [z3]
    have HC:=Aa hc
    have IH:=Aa ih
    have KA:=Aa fun W=>GE kd W
    have ka:C8 kd=2:=by unfold C8;rw [if_neg (by omega)]
    rw [ka] at KA
    have hbel:Ov w (w.alloc (ze #[U zd kd,U zd 0,O ao 2 cap] 94)):=bA w _
    obtain ⟨e0,e1,e2⟩:=rc3 (BC w [U zd kd,U zd 0,O ao 2 cap] 94)
    have n1:kd≠1:=by omega
    have n2:kd≠2:=by omega
    obtain ⟨R,hR⟩:=nm (Fz vars k ds)
    have HR:=Aa hR
    have HZ:=Aa z3
    rw [<-hR]
    clear hc ih hspec hE hz hlen hkd hn ka hds z3 hR
    go_enter Tryz.func163,Tryz.ntmps163
    go_wp2_with fail
    go_region_held3 (fun W=>W.cell? ⟨w.heap.size,0,none⟩=some (U zd kd)/\W.cell? ⟨w.heap.size,1,none⟩=some (U zd 0)/\W.cell? ⟨w.heap.size,2,none⟩=some (O ao 2 cap)/\Ov w W) (first | assumption | exact ⟨e0,e1,e2,below_drewN hbel 1⟩ | fail) (first | (go_at_call 209;refine (KA.o _).mono ?_;rintro e wp ⟨rfl,rfl⟩))
    obtain ⟨g0,g1,g2,hB⟩:=(by assumption:_/\_/\_/\Below _ _ _)
    go_wp2_with fail
    go_loopw [67] (fun i wr=>∃ (j:Nat),j<=2/\i=U zd j/\R=Fz vars k (ds.drop j)/\Ov w wr) (fun i _=>2 - (intOf i).toNat)
    case atStart=>exact ⟨0,Nat.zero_le _,rfl,HR.o,hB⟩
    case round=>
     clear hB g0 g1 g2
     obtain ⟨j,hj,rfl,hp,hB⟩:=hrel
     have HP:=Aa hp
     clear hp
     by_cases hjl:j < 2
     ·have hjd:j < ds.length:=by rw [HZ.o];exact hjl
      obtain ⟨b,off,rfl,hcl⟩:=HC.o (by rintro rfl;simp at hjd)
      obtain ⟨cs,hl3,hcs,hr⟩:=hcl j ds[j] (List.getElem?_eq_getElem hjd)
      obtain ⟨ao',cap',hcse⟩:=hr.form
      have hnext:=Jq (vars:=vars) (k:=k) hjd
      obtain ⟨dj,hdj⟩:=nm (ds[j])
      rw [<-hdj] at hnext hr hcse
      obtain ⟨kj,hkj⟩:=nm (AK dj)
      obtain ⟨nj,hnj⟩:=nm (A6 dj)
      obtain ⟨lj,hlj⟩:=nm ((AX dj).length)
      rw [<-hkj,<-hnj,<-hlj] at hcse
      subst hcse
      have q0:wr.cell? ⟨b,off+j*3,none⟩=_:=Ab hB _ _ (hcs 0 _ rfl)
      have q1:=Ab hB _ _ (hcs 1 _ rfl)
      have q2:=Ab hB _ _ (hcs 2 _ rfl)
      have hba:Ov wr (wr.alloc (ze #[U zd kj,U zd nj,O ao' lj cap'] 94)):=bA wr _
      have hBa:Ov w (wr.alloc (ze #[U zd kj,U zd nj,O ao' lj cap'] 94)):=hB.trans (hba.mono hB.size)
      have hcall:=IH.o _ dj _ (hr.over hBa)
      obtain ⟨r,hre⟩:=nm (BB vars (Ck k dj))
      rw [<-hre] at hcall hnext
      have HCALL:=Aa hcall
      have HN:=Aa hnext
      clear hcall hnext hre hkj hnj hlj hr hcs hcl hl3 hdj hjd
      by_cases hr0:r=0
      ·subst hr0
       go_wp2_with fail
       refine (HCALL.o).mono ?_
       rintro e w1 ⟨rfl,hb1⟩
       have hB':Ov w w1:=hBa.trans (hb1.mono hBa.size)
       clear q0 q1 q2 hB hb1 HCALL hba hBa
       go_wp2_with fail
       exact ⟨⟨j+1,by omega,by go_num,by rw [HP.o,HN.o];rfl,hB'⟩,by simp [intOf];omega⟩
      ·have hd:R=r:=by rw [HP.o,HN.o,if_neg hr0]
       subst hd
       clear HP HN HR
       go_wp2_with fail
       refine (HCALL.o).mono ?_
       rintro e w1 ⟨rfl,hb1⟩
       have hB':Ov w w1:=hBa.trans (hb1.mono hBa.size)
       clear q0 q1 q2 hB hb1 HCALL hba hBa
       go_wp2_with fail
       go_ret
       exact ⟨rfl,hB'⟩
     ·have hd:R=0:=by
       rw [HP.o,List.drop_eq_nil_of_le (by rw [HZ.o];omega)]
       rfl
      subst hd
      clear HP HR
      go_wp2_with fail
      go_ret
      exact ⟨rfl,hB⟩
  ·rw [if_neg hE]
   exact Lo vars kd n ds.length cap ao w v0 v1 hlen hkd hn hE
theorem check_any (k:Nat) (cs:List Value) (d) (w:World) (vars:Int) (v0:0<=vars) (v1:vars<=9223372036854775807) (h:RX w k cs d) :
  Calls Tryz.prog 102 #[.agg cs.toArray,U zd vars] w fun e w'=>e=zj (U zd (Az vars k d))/\Ov w w':=by
 have K1:=Aa fun W hB=>MZ k cs d W 15 (h.over hB) (by omega) (by omega)
 have K2:=Aa fun W hB=>MQ vars v0 v1 k cs d W (h.over hB)
 obtain ⟨ao,cap,rfl⟩:=h.form
 obtain ⟨kd,hkd⟩:=nm (AK d)
 obtain ⟨n,hn⟩:=nm (A6 d)
 obtain ⟨dl,hdl⟩:=nm ((AX d).length)
 rw [<-hkd,<-hn,<-hdl] at K1 K2 ⊢
 clear hkd hn hdl
 obtain ⟨p,hp⟩:=nm (B9 k d 15)
 have hspec:Az vars k d=if 15 < p then 2 else BB vars (Ck k d):=by rw [hp];rfl
 rw [<-hp] at K1
 have hple:=Fd k d 15 (by omega)
 rw [<-hp] at hple
 obtain ⟨z,hz⟩:=nm (15 - p)
 rw [<-hz] at K1
 clear hp
 obtain ⟨e0,e1,e2⟩:=rc3 (BC w [U zd kd,U zd n,O ao dl cap] 94)
 have hbel:Ov w (w.alloc (ze #[U zd kd,U zd n,O ao dl cap] 94)):=bA w _
 by_cases hq:15 < p
 ·rw [hspec,if_pos hq]
  have hneg:z < 0:=by omega
  clear hspec K2 hq hz hple
  show Calls Tryz.prog 102 #[zh #[U zd kd,U zd n,O ao dl cap],U zd vars] w _
  go_enter Tryz.func102,Tryz.ntmps102
  go_wp2_with fail
  refine (K1.o _ hbel).mono ?_
  rintro e w1 ⟨rfl,hb1⟩
  have hB1:Ov w w1:=hbel.trans (hb1.mono hbel.size)
  clear hb1 K1
  go_wp2_with fail
  go_ret
  exact ⟨rfl,hB1⟩
 ·rw [hspec,if_neg hq]
  have hneg:¬ z < 0:=by omega
  obtain ⟨R,hR⟩:=nm (BB vars (Ck k d))
  rw [<-hR] at K2 ⊢
  clear hspec hq hR hz hple
  show Calls Tryz.prog 102 #[zh #[U zd kd,U zd n,O ao dl cap],U zd vars] w _
  go_enter Tryz.func102,Tryz.ntmps102
  go_wp2_with fail
  refine (K1.o _ hbel).mono ?_
  rintro e w1 ⟨rfl,hb1⟩
  have hB1:Ov w w1:=hbel.trans (hb1.mono hbel.size)
  obtain ⟨g0,g1,g2⟩:=co3 hb1 e0 e1 e2
  clear hb1 K1 e0 e1 e2
  go_wp2_with fail
  refine (K2.o _ hB1).mono ?_
  rintro e w2 ⟨rfl,hb2⟩
  have hB2:Ov w w2:=hB1.trans (hb2.mono hB1.size)
  clear hb2 K2
  go_wp2_with fail
  go_ret
  exact ⟨rfl,hB2⟩
theorem Eb (b:Bool) (w:World):Calls Tryz.prog 230 #[zg b] w fun e w'=>e=zj (U zd (if b then 1 else 0))/\w'=w:=by
 cases b
 ·go_enter Tryz.func230,Tryz.ntmps230
  go_wp2
  go_ret
  exact ⟨rfl,rfl⟩
 ·go_enter Tryz.func230,Tryz.ntmps230
  go_wp2
  go_ret
  exact ⟨rfl,rfl⟩
theorem Mr (z:Int):wrap64 (RowKit.wrap32 z)=wrap32 z:=by
 have h:=D4 z
 have e:RowKit.wrap32 z=wrap32 z:=by
  simp only [RowKit.wrap32,wrap32]
 rw [e]
 simp only [wrap64]
 omega
theorem Jr (k a b:Int) (ha:I32 a) (hb:I32 b) (hk:3<=k/\k<=7) (w:World):Calls Tryz.prog 191 #[U zd k,U zd a,U zd b] w fun e w'=>e=zj (U zd (opX k a b))/\w'=w:=by
 obtain ⟨a1,a2⟩:=ha
 obtain ⟨b1,b2⟩:=hb
 rcases (by omega:k=3\/k=4\/k=5\/k=6\/k=7) with rfl | rfl | rfl | rfl | rfl
 ·go_enter Tryz.func191,Tryz.ntmps191
  go_wp2_with fail
  go_ret
  refine ⟨?_,rfl⟩
  show Ending.returned (Value.int IntKind.i64 (wrap64 (RowKit.wrap32 (a+b))))=_
  rw [Mr]
  rfl
 ·go_enter Tryz.func191,Tryz.ntmps191
  go_wp2_with fail
  go_ret
  refine ⟨?_,rfl⟩
  show Ending.returned (Value.int IntKind.i64 (wrap64 (RowKit.wrap32 (a - b))))=_
  rw [Mr]
  rfl
 ·go_enter Tryz.func191,Tryz.ntmps191
  go_wp2_with fail
  go_ret
  refine ⟨?_,rfl⟩
  show Ending.returned (Value.int IntKind.i64 (wrap64 (RowKit.wrap32 (a*b))))=_
  rw [Mr]
  rfl
 ·by_cases h:a < b
  ·have KO:=Aa fun W=>Eb true W
   go_enter Tryz.func191,Tryz.ntmps191
   go_wp2_with fail
   refine (KO.o _).mono ?_
   rintro e w1 ⟨rfl,rfl⟩
   go_wp2_with fail
   go_ret
   exact ⟨by simp [opX,h],rfl⟩
  ·have KO:=Aa fun W=>Eb false W
   go_enter Tryz.func191,Tryz.ntmps191
   go_wp2_with fail
   refine (KO.o _).mono ?_
   rintro e w1 ⟨rfl,rfl⟩
   go_wp2_with fail
   go_ret
   exact ⟨by simp [opX,h],rfl⟩
 ·by_cases h:a=b
  ·have KO:=Aa fun W=>Eb true W
   have hb:(a == b)=true:=by simpa using h
   go_enter Tryz.func191,Tryz.ntmps191
   go_wp2_with fail
   try rw [hb]
   refine (KO.o _).mono ?_
   rintro e w1 ⟨rfl,rfl⟩
   go_wp2_with fail
   go_ret
   exact ⟨by simp [opX,h],rfl⟩
  ·have KO:=Aa fun W=>Eb false W
   have hb:(a == b)=false:=by simpa using h
   go_enter Tryz.func191,Tryz.ntmps191
   go_wp2_with fail
   try rw [hb]
   refine (KO.o _).mono ?_
   rintro e w1 ⟨rfl,rfl⟩
   go_wp2_with fail
   go_ret
   exact ⟨by simp [opX,h],rfl⟩
theorem G7 (cs:List Value) (d) (k:Nat) (w:World) (vv:Value) (vs) (h:RX w (k+1) cs d) (hi:AQ w vv vs) (hk:(AK d=1)\/(AK d=2/\0<=A6 d/\A6 d < vs.length)) :
  Calls Tryz.prog 126 #[.agg cs.toArray,vv] w fun e w'=>e=zj (U zd (AB vs (k+1) d))/\Ov w w':=by
 obtain ⟨kd,n,v,ds,rfl,rfl,hkd,hn,hlen,ao,cap,rfl,hc⟩:=h
 simp only [Gg,Kq] at hk
 obtain ⟨va,vc,rfl,hvc⟩:=hi
 have hbel:Ov w (w.alloc (ze #[U zd kd,U zd n,O ao ds.length cap] 94)):=bA w _
 show Calls Tryz.prog 126 #[zh #[U zd kd,U zd n,O ao ds.length cap],O va vs.length vc] w _
 rcases hk with rfl | ⟨rfl,n0,n1⟩
 ·have hs:AB vs (k+1) (xD 1 n ds)=n:=rfl
  rw [hs]
  clear hs hc hvc hlen hkd
  go_enter Tryz.func126,Tryz.ntmps126
  go_wp2_with fail
  go_ret
  exact ⟨rfl,hbel⟩
 ·have hl:n.toNat < vs.length:=by omega
  have hs:AB vs (k+1) (xD 2 n ds)=vs[n.toNat]:=by
   show vs.getD n.toNat 0=_
   rw [List.getD_eq_getElem?_getD,List.getElem?_eq_getElem hl]
   rfl
  obtain ⟨b,off,rfl,hel⟩:=hvc (by rintro rfl;simp at hl)
  have c:=hel _ hl
  obtain ⟨j,rfl⟩:∃ j:Nat,n=j:=⟨n.toNat,by omega⟩
  rw [hs]
  simp only [Int.toNat_natCast] at c hl ⊢
  obtain ⟨r,hr⟩:=nm (vs[j])
  rw [<-hr] at c ⊢
  have c':=Ab hbel _ _ c
  clear hs hc hvc hlen hkd hel hr
  go_enter Tryz.func126,Tryz.ntmps126
  go_wp2_with fail
  go_ret
  exact ⟨rfl,hbel⟩
theorem Lk (kd n:Int) (b off cap:Nat) (xk xn yk yn:Int) (xa ya:Option Addr) (xl yl xc yc:Nat) (vv:Value) (w:World) (a c:Int) (ha:I32 a) (hc:I32 c) (hkd:3<=kd/\kd<=7)
  (q0:w.cell? ⟨b,off,none⟩=some (U zd xk)) (q1:w.cell? ⟨b,off+1,none⟩=some (U zd xn)) (q2:w.cell? ⟨b,off+2,none⟩=some (O xa xl xc))
  (r0:w.cell? ⟨b,off+3,none⟩=some (U zd yk)) (r1:w.cell? ⟨b,off+3+1,none⟩=some (U zd yn)) (r2:w.cell? ⟨b,off+3+2,none⟩=some (O ya yl yc))
  (KX:Hx (∀ W,Ov w W->Calls Tryz.prog 126 #[zh #[U zd xk,U zd xn,O xa xl xc],vv] W fun e w'=>e=zj (U zd a)/\Ov W w'))
  (KY:Hx (∀ W,Ov w W->Calls Tryz.prog 126 #[zh #[U zd yk,U zd yn,O ya yl yc],vv] W fun e w'=>e=zj (U zd c)/\Ov W w')) :
  Calls Tryz.prog 126 #[zh #[U zd kd,U zd n,O (some ⟨b,off,none⟩) 2 cap],vv] w fun e w'=>e=zj (U zd (opX kd a c))/\Ov w w':=by
 have hbel:Ov w (w.alloc (ze #[U zd kd,U zd n,O (some ⟨b,off,none⟩) 2 cap] 94)):=bA w _
 obtain ⟨q0',q1',q2',r0',r1',r2'⟩:=co6 hbel q0 q1 q2 r0 r1 r2
 have zr:=BC w [U zd kd,U zd n,O (some ⟨b,off,none⟩) 2 cap] 94
 have e0:=zr 0 _ rfl
 have e2:=zr 2 _ rfl
 clear zr
 have hk1:kd≠1:=by omega
 have hk2:kd≠2:=by omega
 clear q0 q1 q2 r0 r1 r2
 have KR:=Aa fun W=>Jr kd a c ha hc hkd W
 go_enter Tryz.func126,Tryz.ntmps126
 go_wp2_with fail
 go_region_held3 (fun W=>W.cell? ⟨w.heap.size,0,none⟩=some (U zd kd)/\W.cell? ⟨w.heap.size,2,none⟩=some (O (some ⟨b,off,none⟩) 2 cap)/\W.cell? ⟨b,off,none⟩=some (U zd xk)/\W.cell? ⟨b,off+1,none⟩=some (U zd xn)/\W.cell? ⟨b,off+2,none⟩=some (O xa xl xc)/\W.cell? ⟨b,off+3,none⟩=some (U zd yk)/\W.cell? ⟨b,off+3+1,none⟩=some (U zd yn)/\W.cell? ⟨b,off+3+2,none⟩=some (O ya yl yc)/\Ov w W) (first | assumption | exact ⟨e0,e2,q0',q1',q2',r0',r1',r2',below_drewN hbel 1⟩ | exact Pn (by assumption) hbp | exact Pn (by assumption) hbq | fail) (first | (go_at_call_of 126 (Value.agg #[U zd xk,U zd xn,O xa xl xc]);refine (KX.o _ (by assumption:_/\_/\_/\_/\_/\_/\_/\_/\Below _ _ _).2.2.2.2.2.2.2.2).mono ?_;rintro e wp ⟨rfl,hbp⟩) | (go_at_call_of 126 (Value.agg #[U zd yk,U zd yn,O ya yl yc]);refine (KY.o _ (by assumption:_/\_/\_/\_/\_/\_/\_/\_/\Below _ _ _).2.2.2.2.2.2.2.2).mono ?_;rintro e wq ⟨rfl,hbq⟩) | (go_at_call 191;refine (KR.o _).mono ?_;rintro e wz ⟨rfl,rfl⟩))
 obtain ⟨-,-,-,-,-,-,-,-,hB⟩:=(by assumption:_/\_/\_/\_/\_/\_/\_/\_/\Below _ _ _)
 clear q0' q1' q2' r0' r1' r2' e0 e2 hbel KX KY KR
 go_wp2_with fail
 go_ret
 exact ⟨rfl,hB⟩
theorem IK (vs:List Int) (hv:∀ x∈vs,I32 x):∀ (k:Nat) (cs:List Value) (d:D) (w:World) (vv:Value),RX w k cs d->okX vs.length k d->AQ w vv vs ->
  Calls Tryz.prog 126 #[.agg cs.toArray,vv] w fun e w'=>e=zj (U zd (AB vs k d))/\Ov w w':=by
 intro k
 induction k with
 | zero=>intro cs d w vv h;exact h.elim
 | succ k ih=>
  intro cs d w vv h ho hi
  rcases ho with ⟨h1,-,-⟩ | ⟨h1,h2,h3⟩ | ⟨h1,h2,x,y,hxy,hx,hy⟩
  ·exact G7 cs d k w vv vs h hi (Or.inl h1)
  ·exact G7 cs d k w vv vs h hi (Or.inr ⟨h1,h2,h3⟩)
  ·obtain ⟨kd,n,v,ds,rfl,rfl,hkd,hn,hlen,ao,cap,rfl,hc⟩:=h
   simp only [Gg,Jf] at h1 h2 hxy
   subst hxy
   obtain ⟨b,off,rfl,hel⟩:=hc (by simp)
   obtain ⟨xs,-,hxc,hxr⟩:=hel 0 x rfl
   obtain ⟨ys,-,hyc,hyr⟩:=hel 1 y rfl
   obtain ⟨xa,xcap,hxs⟩:=hxr.form
   obtain ⟨ya,ycap,hys⟩:=hyr.form
   subst hxs
   subst hys
   have hs:AB vs (k+1) (xD kd n [x,y])=opX kd (AB vs k x) (AB vs k y):=by
    show (if kd=1 then n else if kd=2 then vs.getD n.toNat 0 else opX kd (AB vs k x) (AB vs k y))=_
    rw [if_neg (by omega),if_neg (by omega)]
   rw [hs]
   obtain ⟨q0,q1,q2⟩:=rc3 hxc
   obtain ⟨r0,r1,r2⟩:=rc3 hyc
   simp only [Nat.zero_mul,Nat.one_mul,Nat.add_zero] at q0 q1 q2 r0 r1 r2
   exact Lk kd n b off cap _ _ _ _ _ _ _ _ _ _ vv w _ _ (EN hv k x hx) (EN hv k y hy) ⟨h1,h2⟩ q0 q1 q2 r0 r1 r2
    (Aa fun W hB=>ih _ x W vv (hxr.over hB) hx (hi.over hB)) (Aa fun W hB=>ih _ y W vv (hyr.over hB) hy (hi.over hB))
theorem Ia (x:Int) (w:World):Calls Tryz.prog 125 #[U zd x] w fun e w'=>e=zj (zg (!C3 x))/\w'=w:=by
 by_cases h1:x < -2147483648
 ·go_enter Tryz.func125,Tryz.ntmps125
  go_wp2
  go_ret
  exact ⟨by simp [C3];omega,rfl⟩
 ·by_cases h2:2147483647 < x
  ·go_enter Tryz.func125,Tryz.ntmps125
   go_wp2
   go_ret
   exact ⟨by simp [C3];omega,rfl⟩
  ·go_enter Tryz.func125,Tryz.ntmps125
   go_wp2
   go_ret
   exact ⟨by simp [C3];omega,rfl⟩
theorem QA (args:Array Value) (w:World):(callFunc 125 args).run Tryz.prog w=.ok (.enter 125 args) w:=by simp [go_sem]
theorem GL (vs) (v:Value) (w:World) (hv:AQ w v vs) (hl:vs.length<=9223372036854775807) :
  Calls Tryz.prog 190 #[v,.func (.func 125) #[] #[]] w fun e w'=>∃ r:Int,e=zj (U zd r)/\decide (0<=r)=!vs.all C3/\w'=w:=by
 obtain ⟨ao,cap,rfl,hcc⟩:=hv
 have HCC:=Aa hcc
 have HC10:=QA
 clear hcc
 go_enter Tryz.func190,Tryz.ntmps190
 go_wp2_with fail
 go_loopw [8] (fun i wr=>∃ k:Nat,k<=vs.length/\i=U zd k/\(vs.take k).all C3=true/\wr=w) (fun i _=>vs.length - (intOf i).toNat)
 case atStart=>exact ⟨0,Nat.zero_le _,rfl,rfl,rfl⟩
 case round=>
  obtain ⟨k,hk,rfl,hall,rfl⟩:=hrel
  have HA:=Aa hall
  clear hall
  by_cases hkl:k < vs.length
  ·obtain ⟨b,off,rfl,hcl⟩:=HCC.o (by rintro rfl;simp at hkl)
   have q0:=hcl k hkl
   have hst:C3 vs[k]=false->vs.all C3=false:=fun h=>by rw [List.all_eq_false];exact ⟨vs[k],List.getElem_mem hkl,by simp [h]⟩
   have hnx:C3 vs[k]=true->(vs.take (k+1)).all C3=true:=fun h=>by rw [List.take_succ_eq_append_getElem hkl,List.all_append,HA.o];simp [h]
   obtain ⟨x,hx⟩:=nm (vs[k])
   rw [<-hx] at q0 hst hnx
   have hcall:=Ia x wr
   obtain ⟨r,hr⟩:=nm (C3 x)
   rw [<-hr] at hcall hst hnx
   have HCALL:=Aa hcall
   have HST:=Aa hst
   have HNX:=Aa hnx
   clear hcall hst hnx hr hx hcl HA
   cases r with
   | true=>
    go_wp2_with fail
    refine (HCALL.o).mono ?_
    rintro e w2 ⟨rfl,rfl⟩
    go_wp2_with fail
    exact ⟨⟨k+1,by omega,by go_num,HNX.o (by first | rfl | trivial),by first | rfl | trivial⟩,by simp [intOf];omega⟩
   | false=>
    go_wp2_with fail
    refine (HCALL.o).mono ?_
    rintro e w2 ⟨rfl,rfl⟩
    go_wp2_with fail
    go_ret
    refine ⟨(k:Int),by first | rfl | trivial,?_,by first | rfl | trivial⟩
    rw [HST.o (by first | rfl | trivial)]
    simp
  ·have ha:=HA.o
   rw [List.take_of_length_le (by omega)] at ha
   have HD:=Aa ha
   clear ha HA
   go_wp2_with fail
   go_ret
   refine ⟨-1,by first | rfl | trivial,?_,by first | rfl | trivial⟩
   rw [HD.o]
   rfl
theorem Dk (vs) (v:Value) (w:World) (hv:AQ w v vs) (hl:vs.length<=9223372036854775807) :
  Calls Tryz.prog 124 #[v,.func (.func 125) #[] #[]] w fun e w'=>e=zj (zg (!vs.all C3))/\w'=w:=by
 have HI:=Aa (GL vs v w hv hl)
 clear hv
 obtain ⟨u,hu⟩:=nm v
 go_enter Tryz.func124,Tryz.ntmps124
 go_wp2_with fail
 refine (HI.o).mono ?_
 rintro e w1 ⟨r,rfl,hr,rfl⟩
 have HR:=Aa hr
 clear hr HI
 go_wp2_with fail
 go_ret
 exact ⟨by rw [<-HR.o];rfl,by first | rfl | trivial⟩
def Ii (vs:List Int) (k:Nat) (d:D):Int:=if Cw vs k d=0 then AB vs k d else 0
theorem Nn (k:Nat) (cs:List Value) (d) (w:World) (vv:Value) (vs) (h:RX w k cs d) (hv:AQ w vv vs) (hl:vs.length<=9223372036854775807) :
  Calls Tryz.prog 67 #[.agg cs.toArray,vv] w fun e w'=>e=zj (zk #[U zd (Ii vs k d),U zd (Cw vs k d)])/\Ov w w':=by
 have K1:=Aa fun W hB=>check_any k cs d W (vs.length:Int) (by omega) (by omega) (h.over hB)
 have K2:=Aa fun W hB=>Dk vs vv W (hv.over hB) hl
 have K3:=Aa fun (h0:Cw vs k d=0) W hB=>IK vs (EZ h h0).2 k cs d W vv (h.over hB) (EZ h h0).1 (hv.over hB)
 obtain ⟨ao,cap,rfl⟩:=h.form
 obtain ⟨kd,hkd⟩:=nm (AK d)
 obtain ⟨n,hn⟩:=nm (A6 d)
 obtain ⟨dl,hdl⟩:=nm ((AX d).length)
 rw [<-hkd,<-hn,<-hdl] at K1 K3 ⊢
 clear hkd hn hdl
 obtain ⟨va,vc,rfl,hvc⟩:=hv
 clear hvc
 obtain ⟨c,hc⟩:=nm (Az vs.length k d)
 obtain ⟨A,hA⟩:=nm (vs.all C3)
 have hev:Cw vs k d=if c=0 then (if A=true then 0 else 3) else c:=by rw [hc,hA];rfl
 have hvl:Ii vs k d=if Cw vs k d=0 then AB vs k d else 0:=rfl
 rw [<-hc] at K1
 rw [<-hA] at K2
 rw [hvl]
 clear hc hA hvl
 obtain ⟨e0,e1,e2⟩:=rc3 (BC w [U zd kd,U zd n,O ao dl cap] 94)
 have hbel:Ov w (w.alloc (ze #[U zd kd,U zd n,O ao dl cap] 94)):=bA w _
 show Calls Tryz.prog 67 #[zh #[U zd kd,U zd n,O ao dl cap],O va vs.length vc] w _
 by_cases h0:c=0
 ·subst h0
  cases A with
  | true=>
   have hz:Cw vs k d=0:=by rw [hev];rfl
   have K3':=Aa (K3.o hz)
   obtain ⟨r,hr⟩:=nm (AB vs k d)
   rw [hz,if_pos rfl,<-hr]
   rw [<-hr] at K3'
   clear K3 hev hz hr h
   go_enter Tryz.func67,Tryz.ntmps67
   go_wp2_with fail
   refine (K1.o _ hbel).mono ?_
   rintro e w1 ⟨rfl,hb1⟩
   have hB1:Ov w w1:=hbel.trans (hb1.mono hbel.size)
   obtain ⟨g0,g1,g2⟩:=co3 hb1 e0 e1 e2
   clear hb1 K1 e0 e1 e2 hbel
   go_wp2_with fail
   refine (K2.o _ hB1).mono ?_
   rintro e w2 ⟨rfl,rfl⟩
   go_wp2_with fail
   refine (K3'.o _ hB1).mono ?_
   rintro e w3 ⟨rfl,hb3⟩
   have hB3:Ov w w3:=hB1.trans (hb3.mono hB1.size)
   clear hb3 K2 K3'
   go_wp2_with fail
   go_ret2
   exact ⟨by first | rfl | trivial,hB3⟩
  | false=>
   have hz:Cw vs k d=3:=by rw [hev];rfl
   rw [hz]
   clear K3 hev hz h
   go_enter Tryz.func67,Tryz.ntmps67
   go_wp2_with fail
   refine (K1.o _ hbel).mono ?_
   rintro e w1 ⟨rfl,hb1⟩
   have hB1:Ov w w1:=hbel.trans (hb1.mono hbel.size)
   clear hb1 K1 e0 e1 e2 hbel
   go_wp2_with fail
   refine (K2.o _ hB1).mono ?_
   rintro e w2 ⟨rfl,rfl⟩
   go_wp2_with fail
   go_ret2
   exact ⟨by first | rfl | trivial,hB1⟩
 ·have hz:Cw vs k d=c:=by rw [hev,if_neg h0]
  rw [hz,if_neg h0]
  clear K3 K2 hev hz h
  go_enter Tryz.func67,Tryz.ntmps67
  go_wp2_with fail
  refine (K1.o _ hbel).mono ?_
  rintro e w1 ⟨rfl,hb1⟩
  have hB1:Ov w w1:=hbel.trans (hb1.mono hbel.size)
  clear hb1 K1 e0 e1 e2 hbel
  go_wp2_with fail
  go_ret2
  exact ⟨by first | rfl | trivial,hB1⟩
theorem Lx (at' why:Int) (w:World):Calls Tryz.prog 215 #[U zd at',zg true,U zd why] w fun e w'=>e=zj (zk #[])/\w'=w:=by
 go_enter Tryz.func215,Tryz.ntmps215
 go_wp2_with fail
 go_end0
 exact ⟨rfl,rfl⟩
theorem BA (why:Int) (w:World):Calls Tryz.prog 172 #[zg true,U zd why] w fun e w'=>e=zj (zk #[])/\w'=w:=by
 have K:=Aa fun W=>Lx 0 why W
 go_enter Tryz.func172,Tryz.ntmps172
 go_wp2_with fail
 refine (K.o _).mono ?_
 rintro e w1 ⟨rfl,rfl⟩
 go_wp2_with fail
 go_end0
 exact ⟨rfl,rfl⟩
theorem NN (w:World):Calls Tryz.prog 171 #[U zd 0] w fun e w'=>e=zj (zk #[])/\w'=w:=by
 have K:=Aa fun W=>BA 0 W
 go_enter Tryz.func171,Tryz.ntmps171
 go_wp2_with fail
 refine (K.o _).mono ?_
 rintro e w1 ⟨rfl,rfl⟩
 go_wp2_with fail
 go_end0
 exact ⟨rfl,rfl⟩
theorem Bb (x m:Int) (w:World):Calls Tryz.prog 173 #[U zd x,U zd m] w fun e w'=>e=zj (zg (decide (0<=x/\x < m)))/\w'=w:=by
 by_cases h1:0<=x
 ·by_cases h2:x < m
  ·go_enter Tryz.func173,Tryz.ntmps173
   go_wp2
   go_ret
   exact ⟨by simp;omega,rfl⟩
  ·go_enter Tryz.func173,Tryz.ntmps173
   go_wp2
   go_ret
   exact ⟨by simp;omega,rfl⟩
 ·go_enter Tryz.func173,Tryz.ntmps173
  go_wp2
  go_ret
  exact ⟨by simp;omega,rfl⟩
theorem Ac {w0 w1 w2:World} (h:Ov w0 w1) (h2:Ov w1 w2):Ov w0 w2:=h.trans (h2.mono h.size)
end Go.Proofs.YtfffpjkcfnekaaaGreat.Ex
namespace Go.Proofs.YtfffpjkcfnekaaaGreat
open Go.RowKit
open Go.Value renaming slice -> O, int -> U, bool -> zg, agg -> zh, pointer -> zi, tuple -> zk
open Go.IntKind renaming i64 -> zd
open Go.Obj renaming cells -> ze
open Go.Ending renaming returned -> zj
def Reach (gs:List (Nat × Nat)) (w k:Nat):Prop:=∀ S:Nat->Prop,S w->(∀ g∈gs,S g.1->S g.2)->S k
theorem Jt (gs:List (Nat × Nat)) (w:Nat):Reach gs w w:=fun _ h _=>h
theorem Js {gs:List (Nat × Nat)} {w:Nat} {g:Nat × Nat} (hg:g∈gs) (h:Reach gs w g.1):Reach gs w g.2:=fun S h0 hS=>hS g hg (h S h0 hS)
def C2 (gs:List (Nat × Nat)) (w:Nat) (l:List Bool):Prop:=l[w]? = some true/\∀ k:Nat,l[k]? = some true->Reach gs w k
def DD (gs:List (Nat × Nat)) (l:List Bool):Prop:=∀ g∈gs,l[g.1]? = some true->l[g.2]? = some true
theorem GX {gs:List (Nat × Nat)} {w:Nat} {l:List Bool} {g:Nat × Nat} (h:C2 gs w l) (hg:g∈gs) (hk:l[g.1]? = some true):C2 gs w (l.set g.2 true):=by
 refine ⟨?_,fun k hk2=>?_⟩
 ·rw [List.getElem?_set]
  split
  ·split
   ·rfl
   ·rename_i e h1
    subst e
    have h0:=h.1
    rw [List.getElem?_eq_none (by omega)] at h0
    cases h0
  ·exact h.1
 ·rw [List.getElem?_set] at hk2
  split at hk2
  ·rename_i e
   subst e
   exact Js hg (h.2 _ hk)
  ·exact h.2 k hk2
theorem Hc {gs:List (Nat × Nat)} {w:Nat} {l:List Bool} (h:C2 gs w l) (hc:DD gs l) (k:Nat):l[k]? = some true ↔ Reach gs w k:=
 ⟨fun e=>h.2 k e,fun hr=>hr (fun k=>l[k]? = some true) h.1 hc⟩
theorem LD {gs:List (Nat × Nat)} {w:Nat} {l m:List Bool} (h:C2 gs w l) (hc:DD gs l) (h2:C2 gs w m) (hc2:DD gs m) (hl:l.length=m.length):l=m:=by
 apply List.ext_getElem?
 intro k
 have e:=(Hc h hc k).trans (Hc h2 hc2 k).symm
 by_cases hk:k < l.length
 ·have hk2:k < m.length:=by omega
  rw [List.getElem?_eq_getElem hk,List.getElem?_eq_getElem hk2] at e ⊢
  simp only [Option.some.injEq] at e ⊢
  exact Bool.eq_iff_iff.2 e
 ·rw [List.getElem?_eq_none (by omega),List.getElem?_eq_none (by omega)]
def De (l:List Bool) (g:Nat × Nat):List Bool:=if l[g.1]? = some true then l.set g.2 true else l
def pass (gs:List (Nat × Nat)) (l:List Bool):List Bool:=gs.foldl De l
theorem Hu (l:List Bool) (g:Nat × Nat):(De l g).length=l.length:=by
 unfold De;split <;> simp
theorem IM (gs:List (Nat × Nat)) (l:List Bool):(pass gs l).length=l.length:=by
 unfold pass
 induction gs generalizing l with
 | nil=>rfl
 | cons g gs ih=>rw [List.foldl_cons,ih,Hu]
theorem IA (l:List Bool) (g:Nat × Nat):De l g=l\/l.count true < (De l g).count true:=by
 unfold De
 split
 ·by_cases h:g.2 < l.length
  ·by_cases hb:l[g.2]=true
   ·left
    rw [<-hb]
    exact List.set_getElem_self h
   ·right
    have hb':l[g.2]=false:=by simpa using hb
    rw [List.count_set h]
    rw [hb']
    simp
  ·left
   exact List.set_eq_of_length_le (by omega)
 ·exact Or.inl rfl
theorem Jv (gs:List (Nat × Nat)) (l:List Bool):(pass gs l=l/\∀ g∈gs,De l g=l)\/l.count true < (pass gs l).count true:=by
 unfold pass
 induction gs generalizing l with
 | nil=>exact Or.inl ⟨rfl,by simp⟩
 | cons g gs ih=>
  rw [List.foldl_cons]
  rcases IA l g with h | h
  ·rw [h]
   rcases ih l with ⟨h1,h2⟩ | h1
   ·left
    refine ⟨h1,fun g' hg'=>?_⟩
    rcases List.mem_cons.1 hg' with rfl | hg'
    ·exact h
    ·exact h2 g' hg'
   ·exact Or.inr h1
  ·right
   rcases ih (De l g) with ⟨h1,_⟩ | h1
   ·rw [h1];exact h
   ·omega
theorem FK {gs:List (Nat × Nat)} {l:List Bool} (hb:∀ g∈gs,g.2 < l.length) (h:∀ g∈gs,De l g=l):DD gs l:=fun g hg hk=>by
 have:=h g hg
 unfold De at this
 rw [if_pos hk] at this
 rw [<-this,List.getElem?_set_self (hb g hg)]
theorem Ju {gs hs:List (Nat × Nat)} {w:Nat} {l:List Bool} (h:C2 gs w l) (hm:∀ g∈hs,g∈gs):C2 gs w (pass hs l):=by
 unfold pass
 induction hs generalizing l with
 | nil=>exact h
 | cons g hs ih=>
  rw [List.foldl_cons]
  refine ih ?_ fun g' hg'=>hm g' (List.mem_cons_of_mem _ hg')
  unfold De
  split
  ·rename_i hk
   exact GX h (hm g (by simp)) hk
  ·exact h
def BU (gs:List (Nat × Nat)):Nat->List Bool->List Bool
 | 0,l=>l
 | n+1,l=>pass gs (BU gs n l)
theorem C9 (gs:List (Nat × Nat)) (n:Nat) (l:List Bool):(BU gs n l).length=l.length:=by
 induction n with
 | zero=>rfl
 | succ n ih=>rw [BU,IM,ih]
theorem HU {gs:List (Nat × Nat)} {w n:Nat} {l:List Bool} (h:C2 gs w l):C2 gs w (BU gs n l):=by
 induction n with
 | zero=>exact h
 | succ n ih=>exact Ju ih fun _ h=>h
theorem HY (gs:List (Nat × Nat)) (n:Nat) (l:List Bool) (hb:∀ g∈gs,g.2 < l.length):DD gs (BU gs n l)\/l.count true+n<=(BU gs n l).count true:=by
 induction n with
 | zero=>right;simp [BU]
 | succ n ih=>
  rw [BU]
  have hb':∀ g∈gs,g.2 < (BU gs n l).length:=by rw [C9];exact hb
  rcases Jv gs (BU gs n l) with ⟨h1,h2⟩ | h1
  ·left
   rw [h1]
   exact FK hb' h2
  ·rcases ih with ih | ih
   ·left
    have hst:∀ g∈gs,De (BU gs n l) g=BU gs n l:=fun g hg=>by
     unfold De
     split
     ·rename_i hk
      have:=ih g hg hk
      obtain ⟨hl,he⟩:=List.getElem?_eq_some_iff.1 this
      rw [<-he]
      exact List.set_getElem_self hl
     ·rfl
    have:pass gs (BU gs n l)=BU gs n l:=by
     generalize BU gs n l=m at hst
     unfold pass
     clear h1 ih hb hb'
     induction gs with
     | nil=>rfl
     | cons g gs ih2=>
      rw [List.foldl_cons,hst g (by simp)]
      exact ih2 fun g' hg'=>hst g' (List.mem_cons_of_mem _ hg')
    rw [this]
    exact ih
   ·right;omega
theorem GK {gs:List (Nat × Nat)} {w:Nat} {l:List Bool} (h:C2 gs w l) (hb:∀ g∈gs,g.2 < l.length):DD gs (BU gs l.length l):=by
 rcases HY gs l.length l hb with h1 | h1
 ·exact h1
 ·have h2:=List.count_le_length (a:=true) (l:=BU gs l.length l)
  rw [C9] at h2
  have h3:0 < l.count true:=List.count_pos_iff.2 (List.mem_of_getElem? h.1)
  omega
def Fx (n w:Nat):List Bool:=(List.replicate n false).set w true
theorem DM (gs:List (Nat × Nat)) {n w:Nat} (h:w < n):C2 gs w (Fx n w):=by
 unfold Fx
 refine ⟨by rw [List.getElem?_set_self (by simpa using h)],fun k hk=>?_⟩
 rw [List.getElem?_set] at hk
 split at hk
 ·rename_i e;subst e;exact Jt _ _
 ·rw [List.getElem?_replicate] at hk
  split at hk <;> cases hk
def acts (gs:List (Nat × Nat)) (n w:Nat):List Bool:=BU gs n (Fx n w)
theorem Cr (n w:Nat):(Fx n w).length=n:=by simp [Fx]
theorem BG (gs:List (Nat × Nat)) (n w:Nat):(acts gs n w).length=n:=by rw [acts,C9,Cr]
theorem Ka (gs:List (Nat × Nat)) {n w:Nat} (h:w < n):C2 gs w (acts gs n w):=HU (DM gs h)
theorem Jh {gs:List (Nat × Nat)} {n w:Nat} (h:w < n) (hb:∀ g∈gs,g.2 < n):DD gs (acts gs n w):=by
 have:=GK (gs:=gs) (DM gs h) (by rw [Cr];exact hb)
 rw [Cr] at this
 exact this
theorem NB {gs:List (Nat × Nat)} {n w:Nat} (h:w < n) (hb:∀ g∈gs,g.2 < n) {l:List Bool} (hl:l.length=n) (h1:C2 gs w l) (h2:DD gs l):l=acts gs n w:=
 LD h1 h2 (Ka gs h) (Jh h hb) (by rw [hl,BG])
theorem Aa {p:Prop} (h:p):Hx p:=h
theorem Am {W w1:World} (hb:Ov W w1):(∀ b o,b < W.heap.size->w1.cell? ⟨b,o,none⟩=W.cell? ⟨b,o,none⟩)/\(∀ b o,b < W.heap.size->w1.frozen? ⟨b,o,none⟩=W.frozen? ⟨b,o,none⟩):=
 ⟨fun b o h=>hb.cell (p:=⟨b,o,none⟩) h,fun b o h=>hb.frozen (p:=⟨b,o,none⟩) h⟩
def Bw (m x:Int):Bool:=decide (0<=x/\x < m)
theorem He (m x:Int) (s:Value) (w:World) :
  Calls Tryz.prog 168 #[zh #[U zd m,s],U zd x] w fun e w'=>e=zj (zg (Bw m x))/\Ov w w':=by
 have hbel:Ov w (w.alloc (ze #[U zd m,s] 24)):=bA w _
 by_cases h1:(0:Int)<=x
 ·by_cases h2:x < m
  ·go_enter Tryz.func168,Tryz.ntmps168
   go_wp2
   go_ret
   exact ⟨by simp [Bw];omega,hbel⟩
  ·go_enter Tryz.func168,Tryz.ntmps168
   go_wp2
   go_ret
   exact ⟨by simp [Bw];omega,hbel⟩
 ·go_enter Tryz.func168,Tryz.ntmps168
  go_wp2
  go_ret
  exact ⟨by simp [Bw];omega,hbel⟩
def AF (w:World) (v:Value) (gs:List (Int × Int)):Prop:=
 ∃ ao cap,v=O ao gs.length cap/\(gs≠[]->∃ b off,ao=some ⟨b,off,none⟩/\∀ i (h:i < gs.length),w.cell? ⟨b,off+i*2,none⟩=some (U zd gs[i].1)/\w.cell? ⟨b,off+i*2+1,none⟩=some (U zd gs[i].2))
theorem Af {w w':World} {v:Value} {gs:List (Int × Int)} (h:AF w v gs) (hb:Ov w w'):AF w' v gs:=by
 obtain ⟨ao,cap,rfl,hc⟩:=h
 refine ⟨ao,cap,rfl,fun hne=>?_⟩
 obtain ⟨b,off,rfl,hcl⟩:=hc hne
 refine ⟨b,off,rfl,fun i hi=>?_⟩
 obtain ⟨h1,h2⟩:=hcl i hi
 have hlt:=bL h1
 exact ⟨by rw [(Am hb).1 _ _ hlt];exact h1,by rw [(Am hb).1 _ _ hlt];exact h2⟩
def Di (p:Int × Int->Bool) (gs:List (Int × Int)):Int:=match gs.findIdx? p with | some i=>i | none=>-1
theorem Na {p:Int × Int->Bool} {gs:List (Int × Int)} {k:Nat} (hk:k < gs.length) (h:(gs.take k).all (fun g=>!p g)=true) (hp:p gs[k]=true):Di p gs=k:=by
 have:gs.findIdx? p=some k:=by
  rw [List.findIdx?_eq_some_iff_getElem]
  refine ⟨hk,hp,fun j hj=>?_⟩
  have:=List.all_eq_true.1 h gs[j] (by rw [List.mem_take_iff_getElem];exact ⟨j,by omega,rfl⟩)
  simpa using this
 simp [Di,this]
theorem JJ {p:Int × Int->Bool} {gs:List (Int × Int)} (h:gs.all (fun g=>!p g)=true):Di p gs=-1:=by
 have:gs.findIdx? p=none:=by
  rw [List.findIdx?_eq_none_iff]
  intro x hx
  have:=List.all_eq_true.1 h x hx
  simpa using this
 simp [Di,this]
theorem Eu (F:FuncId) (cv:Value) (p:Int × Int->Bool) (v:Value) (gs) (w:World) (hv:AF w v gs) (hn:gs.length<=20)
  (hF:Hx (∀ (i:Nat) (h:i < gs.length) (w1:World),Ov w w1->Calls Tryz.prog F #[zh #[U zd gs[i].1,U zd gs[i].2],cv] w1 fun e w2=>e=zj (zg (p gs[i]))/\Ov w1 w2))
  (hC:∀ (args:Array Value) (w:World),(callFunc F args).run Tryz.prog w=.ok (.enter F args) w) :
  Calls Tryz.prog 193 #[v,.func (.func F) #[] #[cv]] w fun e w'=>e=zj (U zd (Di p gs))/\Ov w w':=by
 obtain ⟨ao,cap,rfl,hcc⟩:=hv
 go_enter Tryz.func193,Tryz.ntmps193
 go_wp2_with fail
 go_loopw [8] (fun i wr=>∃ k:Nat,k<=gs.length/\i=U zd k/\(gs.take k).all (fun g=>!p g)=true/\Ov w wr) (fun i _=>gs.length - (intOf i).toNat)
 case atStart=>exact ⟨0,Nat.zero_le _,rfl,rfl,Below.refl _ w⟩
 case round=>
  obtain ⟨k,hk,rfl,hall,hbel⟩:=hrel
  by_cases hkl:k < gs.length
  ·obtain ⟨b,off,rfl,hcl⟩:=hcc (by rintro rfl;simp at hkl)
   obtain ⟨q0,q1⟩:=hcl k hkl
   have hlt:=bL q0
   rw [<-(Am hbel).1 _ _ hlt] at q0 q1
   have hcall:=hF.o k hkl
   have hat:=fun (hp:p gs[k]=true)=>Na hkl hall hp
   have htk:p gs[k]=false->(gs.take (k+1)).all (fun g=>!p g)=true:=fun hp=>by
    rw [List.take_succ_eq_append_getElem hkl,List.all_append,hall]
    simp [hp]
   obtain ⟨r,hr⟩:=nm (p gs[k])
   obtain ⟨g0,hg0⟩:=nm (gs[k].1)
   obtain ⟨g1,hg1⟩:=nm (gs[k].2)
   rw [<-hr] at hcall hat htk
   rw [<-hg0] at q0 hcall
   rw [<-hg1] at q1 hcall
   have HC:=Aa hcall
   have HA:=Aa hat
   have HT:=Aa htk
   clear hr hg0 hg1 hcall hat htk hcl hcc hF
   cases r with
   | true=>
    go_wp2_with fail
    refine (HC.o _ hbel).mono ?_
    rintro e w2 ⟨rfl,hb2⟩
    have hbel2:Ov w w2:=hbel.trans (hb2.mono hbel.size)
    go_wp2_with fail
    go_ret
    exact ⟨by rw [HA.o (by first | rfl | trivial)];rfl,hbel2⟩
   | false=>
    go_wp2_with fail
    refine (HC.o _ hbel).mono ?_
    rintro e w2 ⟨rfl,hb2⟩
    have hbel2:Ov w w2:=hbel.trans (hb2.mono hbel.size)
    go_wp2_with fail
    exact ⟨⟨k+1,by omega,by go_num,HT.o (by first | rfl | trivial),hbel2⟩,by simp [intOf];omega⟩
  ·have hke:k=gs.length:=by omega
   rw [hke,List.take_length] at hall
   have hx:=JJ hall
   clear hall hcc hF
   go_wp2_with fail
   go_ret
   exact ⟨by rw [hx];rfl,hbel⟩
def GC (m:Int) (g:Int × Int):Bool:=!Bw m g.1 || !Bw m g.2
def AL (m:Int) (gs:List (Int × Int)):Int:=if 1<=m/\m<=6 then (if gs.length<=20 then (if gs.any (GC m)=true then 5 else 0) else 2) else 3
theorem Qz (args:Array Value) (w:World):(callFunc 167 args).run Tryz.prog w=.ok (.enter 167 args) w:=by simp [go_sem]
theorem Qy (args:Array Value) (w:World):(callFunc 192 args).run Tryz.prog w=.ok (.enter 192 args) w:=by simp [go_sem]
theorem JW (m:Int) (s:Value) (b:Nat) (g:Int × Int) (w:World) (h0:w.cell? ⟨b,0,none⟩=some (U zd m)) (h1:w.cell? ⟨b,1,none⟩=some s) :
  Calls Tryz.prog 167 #[zh #[U zd g.1,U zd g.2],zi (some ⟨b,0,none⟩)] w fun e w'=>e=zj (zg (GC m g))/\Ov w w':=by
 obtain ⟨g0,g1⟩:=g
 have hlt:=bL h0
 have hne:b≠w.heap.size:=by have:b < w.heap.size:=hlt;omega
 simp only
 have H1:=fun w=>He m g0 s w
 have H2:=fun w=>He m g1 s w
 obtain ⟨r1,hr1⟩:=nm (Bw m g0)
 obtain ⟨r2,hr2⟩:=nm (Bw m g1)
 have hbad:GC m (g0,g1)=(!r1 || !r2):=by rw [hr1,hr2];rfl
 rw [<-hr1] at H1
 rw [<-hr2] at H2
 rw [hbad]
 have K1:=Aa H1
 have K2:=Aa H2
 clear H1 H2 hr1 hr2 hbad
 have hal:Ov w (w.alloc (ze #[U zd g0,U zd g1] 169)):=bA w _
 cases r1 with
 | true=>
  go_enter Tryz.func167,Tryz.ntmps167
  go_wp2_with fail
  refine (K1.o _).mono ?_
  rintro e w1 ⟨rfl,hb1⟩
  obtain ⟨hc,hf⟩:=Am hb1
  have hlt2:b < (w.alloc (ze #[U zd g0,U zd g1] 169)).heap.size:=by simp;exact Nat.lt_succ_of_lt hlt
  have c0:w1.cell? ⟨b,0,none⟩=some (U zd m):=by rw [hc _ _ hlt2,(Am hal).1 _ _ hlt];exact h0
  have c1:w1.cell? ⟨b,1,none⟩=some s:=by rw [hc _ _ hlt2,(Am hal).1 _ _ hlt];exact h1
  have e1:w1.cell? ⟨w.heap.size,1,none⟩=some (U zd g1):=by rw [hc _ _ (by simp)];simp [go_sem]
  have hbel:Ov w w1:=hal.trans (hb1.mono (by simp))
  clear hc hf hb1
  go_wp2_with fail
  refine (K2.o _).mono ?_
  rintro e w2 ⟨rfl,hb2⟩
  have hbel2:Ov w w2:=hbel.trans (hb2.mono hbel.size)
  go_wp2_with fail
  go_ret
  exact ⟨by simp,hbel2⟩
 | false=>
  go_enter Tryz.func167,Tryz.ntmps167
  go_wp2_with fail
  refine (K1.o _).mono ?_
  rintro e w1 ⟨rfl,hb1⟩
  have hbel:Ov w w1:=hal.trans (hb1.mono (by simp))
  go_wp2_with fail
  go_ret
  exact ⟨by simp,hbel⟩
theorem N4 (p:Int × Int->Bool) (gs):decide (0<=Di p gs)=gs.any p:=by
 unfold Di
 cases h:gs.findIdx? p with
 | none=>
  have:gs.any p=false:=by rw [List.any_eq_false];intro x hx;have:=(List.findIdx?_eq_none_iff.1 h) x hx;simpa using this
  rw [this];rfl
 | some i=>
  obtain ⟨hi,hp,_⟩:=List.findIdx?_eq_some_iff_getElem.1 h
  have:gs.any p=true:=List.any_eq_true.2 ⟨_,List.getElem_mem hi,hp⟩
  rw [this];simp
theorem Fm (m:Int) (s:Value) (b:Nat) (v:Value) (gs) (w:World) (hv:AF w v gs) (hn:gs.length<=20)
  (h0:w.cell? ⟨b,0,none⟩=some (U zd m)) (h1:w.cell? ⟨b,1,none⟩=some s) :
  Calls Tryz.prog 166 #[v,.func (.func 167) #[] #[zi (some ⟨b,0,none⟩)]] w fun e w'=>e=zj (zg (gs.any (GC m)))/\Ov w w':=by
 have hI:=Eu 167 (zi (some ⟨b,0,none⟩)) (GC m) v gs w hv hn (Aa fun i hi w1 hb=>by
  have hlt:=bL h0
  exact JW m s b gs[i] w1 (by rw [(Am hb).1 _ _ hlt];exact h0) (by rw [(Am hb).1 _ _ hlt];exact h1)) Qz
 have hx:=N4 (GC m) gs
 obtain ⟨r,hr⟩:=nm (Di (GC m) gs)
 rw [<-hr] at hI hx
 rw [<-hx]
 have HI:=Aa hI
 clear hI hx hr hv
 obtain ⟨u,hu⟩:=nm v
 go_enter Tryz.func166,Tryz.ntmps166
 go_wp2_with fail
 refine (HI.o).mono ?_
 rintro e w1 ⟨rfl,hb1⟩
 go_wp2_with fail
 go_ret
 exact ⟨by simp,hb1⟩
theorem check_any (m:Int) (v:Value) (gs) (w:World) (hv:AF w v gs) :
  Calls Tryz.prog 109 #[zh #[U zd m,v]] w fun e w'=>e=zj (U zd (AL m gs))/\Ov w w':=by
 have hbel:Ov w (w.alloc (ze #[U zd m,v] 24)):=bA w _
 by_cases h1:m < 1
 ·have hE:AL m gs=3:=by unfold AL;rw [if_neg (by omega)]
  have HE:=Aa hE
  clear hE
  go_enter Tryz.func109,Tryz.ntmps109
  go_wp2_with fail
  go_ret
  exact ⟨by rw [HE.o];rfl,hbel⟩
 by_cases h6:6 < m
 ·have hE:AL m gs=3:=by unfold AL;rw [if_neg (by omega)]
  have HE:=Aa hE
  clear hE
  go_enter Tryz.func109,Tryz.ntmps109
  go_wp2_with fail
  go_ret
  exact ⟨by rw [HE.o];rfl,hbel⟩
 have hvo:=Af hv hbel
 obtain ⟨ao,cap,hve,-⟩:=hv
 by_cases hn:gs.length<=20
 ·have hE:AL m gs=if gs.any (GC m)=true then 5 else 0:=by unfold AL;rw [if_pos (by omega),if_pos hn]
  have hC:=Fm m v w.heap.size v gs (w.alloc (ze #[U zd m,v] 24)) hvo hn (by simp [go_sem]) (by simp [go_sem])
  obtain ⟨r,hr⟩:=nm (gs.any (GC m))
  rw [<-hr] at hE hC
  subst hve
  have HE:=Aa hE
  have HC:=Aa hC
  clear hE hC hr hvo
  cases r with
  | true=>
   go_enter Tryz.func109,Tryz.ntmps109
   go_wp2_with fail
   refine (HC.o).mono ?_
   rintro e w1 ⟨rfl,hb1⟩
   have hbel1:Ov w w1:=hbel.trans (hb1.mono (by simp))
   go_wp2_with fail
   go_ret
   exact ⟨by rw [HE.o];rfl,hbel1⟩
  | false=>
   go_enter Tryz.func109,Tryz.ntmps109
   go_wp2_with fail
   refine (HC.o).mono ?_
   rintro e w1 ⟨rfl,hb1⟩
   have hbel1:Ov w w1:=hbel.trans (hb1.mono (by simp))
   go_wp2_with fail
   go_ret
   exact ⟨by rw [HE.o];rfl,hbel1⟩
 ·have hE:AL m gs=2:=by unfold AL;rw [if_pos (by omega),if_neg hn]
  have HE:=Aa hE
  subst hve
  clear hE hvo
  go_enter Tryz.func109,Tryz.ntmps109
  go_wp2_with fail
  go_ret
  exact ⟨by rw [HE.o];rfl,hbel⟩
def toI (g:Nat × Nat):Int × Int:=((g.1:Int),(g.2:Int))
def Cg (w:World) (kb:Nat) (l:List Bool):Prop:=∀ i (h:i < l.length),w.cell? ⟨kb,i,none⟩=some (zg l[i])/\w.frozen? ⟨kb,i,none⟩=false
theorem Gf {w w':World} {kb:Nat} {l:List Bool} (h:Cg w kb l) (hb:Ov w w'):Cg w' kb l:=fun i hi=>by
 obtain ⟨h1,h2⟩:=h i hi
 have hlt:=bL h1
 exact ⟨by rw [(Am hb).1 _ _ hlt];exact h1,by rw [(Am hb).2 _ _ hlt];exact h2⟩
theorem LC {w:World} {kb:Nat} {l:List Bool} (h:Cg w kb l) {j:Nat} (hj:j < l.length) (c:Bool):Cg (w.setCell ⟨kb,j,none⟩ (zg c)) kb (l.set j c):=fun i hi=>by
 have hi':i < l.length:=by simpa using hi
 obtain ⟨h1,h2⟩:=h i hi'
 refine ⟨?_,?_⟩
 ·by_cases e:j=i
  ·subst e
   rw [World.cell?_setCell_same _ _ _ h1]
   simp
  ·rw [World.cell?_setCell_other _ _ _ _ (by intro h;exact e (by injection h)),List.getElem_set_ne e]
   exact h1
 ·rw [World.frozen?_setCell]
  exact h2
def DE (l:List Bool) (g:Int × Int):Bool:=(l[g.1.toNat]?.getD false) && !(l[g.2.toNat]?.getD false)
theorem LB (kp kb:Nat) (l:List Bool) (g:Nat × Nat) (w:World) (hl:l.length<=6) (hkp:w.cell? ⟨kp,0,none⟩=some (O (some ⟨kb,0,none⟩) l.length l.length)) (hk:Cg w kb l)
  (h0:g.1 < l.length) (h1:g.2 < l.length) :
  Calls Tryz.prog 192 #[zh #[U zd (toI g).1,U zd (toI g).2],zi (some ⟨kp,0,none⟩)] w fun e w'=>e=zj (zg (DE l (toI g)))/\Ov w w':=by
 obtain ⟨g0,g1⟩:=g
 simp only [toI] at h0 h1 ⊢
 have hle:DE l ((g0:Int),(g1:Int))=(l[g0] && !l[g1]):=by simp [DE,h0,h1]
 rw [hle]
 obtain ⟨c0,-⟩:=hk g0 h0
 obtain ⟨c1,-⟩:=hk g1 h1
 obtain ⟨b0,e0⟩:=nm (l[g0])
 obtain ⟨b1,e1⟩:=nm (l[g1])
 rw [<-e0] at c0
 rw [<-e1] at c1
 rw [<-e0,<-e1]
 have lt1:=bL hkp
 have lt2:=bL c0
 have hbel:Ov w (w.alloc (ze #[U zd g0,U zd g1] 169)):=bA w _
 clear e0 e1 hle hk
 cases b0 with
 | true=>
  go_enter Tryz.func192,Tryz.ntmps192
  go_wp2_with fail
  go_ret
  exact ⟨by simp,hbel⟩
 | false=>
  go_enter Tryz.func192,Tryz.ntmps192
  go_wp2_with fail
  go_ret
  exact ⟨by simp,hbel⟩
theorem Tryz.info4:(Tryz.prog.info? 4).map (fun i=>(i.zero,i.size,i.bytes))=some (some (zg false),1,1):=by kernel_rfl
theorem Dw (n:Nat) (hn:n<=6) (w:World):(Instr.makeSlice 48 (U zd n) (U zd n)).run Tryz.prog w=.ok (O (some ⟨w.heap.size,0,none⟩) n n) (w.alloc (.cells (List.replicate n (Value.bool false)).toArray 4)):=by
 cases hi:Tryz.prog.info? 4 with
 | none=>have:=Tryz.info4;rw [hi] at this;cases this
 | some i=>
  have h4:=Tryz.info4
  rw [hi] at h4
  simp only [Option.map_some,Option.some.injEq,Prod.mk.injEq] at h4
  obtain ⟨hz,h1,h2⟩:=h4
  have:=run_make (P:=Tryz.prog) w 48 4 i (zg false) Tryz.underlying48 hi hz zd zd (n:Int) (n:Int) (by omega) (by omega) (by rw [h2];omega) (by omega)
  rw [this,h1]
  simp only [Int.toNat_natCast,Nat.mul_one]
  have e:madeCells (Value.bool false).cells n=(List.replicate n (Value.bool false)).toArray:=by
   apply Array.ext
   ·simp [madeCells]
   ·intro j h1 h2
    simp [madeCells,Value.cells,Nat.mod_one]
  rw [e]
def D3 (w:World) (n:Nat) (v:Value) (l:List Bool) (W:World):Prop:=
 W.cell? ⟨w.heap.size,0,none⟩=some (U zd n)/\W.cell? ⟨w.heap.size,1,none⟩=some v/\W.cell? ⟨w.heap.size+1+1,0,none⟩=some (O (some ⟨w.heap.size+1,0,none⟩) n n)/\Cg W (w.heap.size+1) l/\Ov w W
theorem D3.over {w W W':World} {n:Nat} {v:Value} {l:List Bool} (h:D3 w n v l W) (hb:Ov W W'):D3 w n v l W':=by
 obtain ⟨h0,h1,h2,h3,h4⟩:=h
 obtain ⟨hc,hf⟩:=Am hb
 refine ⟨?_,?_,?_,Gf h3 hb,h4.trans (hb.mono h4.size)⟩
 ·rw [hc _ _ (bL h0)];exact h0
 ·rw [hc _ _ (bL h1)];exact h1
 ·rw [hc _ _ (bL h2)];exact h2
theorem GF {w W:World} {n:Nat} {v:Value} {l:List Bool} {gn:List (Nat × Nat)} (hn:n<=6) (h:D3 w n v l W) (hl:l.length=n) (hv:AF w v (gn.map toI)) (hlen:gn.length<=20) (hb:∀ g∈gn,g.1 < n/\g.2 < n) :
  Calls Tryz.prog 193 #[v,.func (.func 192) #[] #[zi (some ⟨w.heap.size+1+1,0,none⟩)]] W fun e w'=>e=zj (U zd (Di (DE l) (gn.map toI)))/\D3 w n v l w':=by
 refine (Eu 192 (zi (some ⟨w.heap.size+1+1,0,none⟩)) (DE l) v (gn.map toI) W (Af hv h.2.2.2.2) (by simpa using hlen) (Aa fun i hi w1 hb1=>?_) Qy).mono ?_
 ·have hi':i < gn.length:=by simpa using hi
  have hs:=h.over hb1
  have hg:=hb gn[i] (List.getElem_mem hi')
  have:=LB (w.heap.size+1+1) (w.heap.size+1) l gn[i] w1 (by omega) (by rw [hl];exact hs.2.2.1) hs.2.2.2.1 (by omega) (by omega)
  simpa using this
 ·rintro e w' ⟨rfl,hb1⟩
  exact ⟨rfl,h.over hb1⟩
def isF:Option Value->Bool
 | some (zg false)=>true
 | _=>false
def Ih (kb n:Nat) (W:World):Nat:=(List.range n).countP fun i=>isF (W.cell? ⟨kb,i,none⟩)
theorem Hi {W:World} {kb:Nat} {l:List Bool} (h:Cg W kb l):Ih kb l.length W=l.count false:=by
 have:l=(List.range l.length).map fun i=>l[i]?.getD false:=by
  apply List.ext_getElem
  ·simp
  ·intro i h1 h2
   simp [h1]
 unfold Ih
 conv=>rhs;rw [this]
 rw [List.count_eq_countP,List.countP_map]
 apply List.countP_congr
 intro i hi
 have hi':i < l.length:=by simpa using hi
 rw [(h i hi').1]
 simp only [Function.comp,hi',List.getElem?_eq_getElem,Option.getD_some]
 cases l[i] <;> simp [isF]
theorem FJ {l:List Bool} {j:Nat} (hj:j < l.length) (h:l[j]=false):(l.set j true).count false < l.count false:=by
 rw [List.count_set hj]
 have hm:0 < l.count false:=List.count_pos_iff.2 (List.mem_iff_getElem.2 ⟨j,hj,h⟩)
 simp [h]
 omega
theorem LK (l:List Bool) (gn:List (Nat × Nat)) (n:Nat) (hl:l.length=n) (hb:∀ g∈gn,g.1 < n/\g.2 < n) :
  (Di (DE l) (gn.map toI)=-1/\DD gn l)\/∃ (k:Nat) (h:k < gn.length),Di (DE l) (gn.map toI)=k/\l[gn[k].1]? = some true/\l[gn[k].2]? = some false:=by
 have hd:∀ g∈gn,DE l (toI g)=true ↔ l[g.1]? = some true/\l[g.2]? = some false:=fun g hg=>by
  obtain ⟨h0,h1⟩:=hb g hg
  have e0:l[g.1]? = some l[g.1]:=List.getElem?_eq_getElem (by omega)
  have e1:l[g.2]? = some l[g.2]:=List.getElem?_eq_getElem (by omega)
  simp only [DE,toI,Int.toNat_natCast,e0,e1,Option.getD_some,Option.some.injEq]
  cases l[g.1] <;> cases l[g.2] <;> simp
 unfold Di
 cases hf:(gn.map toI).findIdx? (DE l) with
 | none=>
  left
  refine ⟨rfl,fun g hg hk=>?_⟩
  have h1:=(List.findIdx?_eq_none_iff.1 hf) (toI g) (List.mem_map_of_mem hg)
  have h2:¬ (l[g.1]? = some true/\l[g.2]? = some false):=fun h=>by rw [(hd g hg).2 h] at h1;cases h1
  have hg2:g.2 < l.length:=by have:=hb g hg;omega
  have e1:l[g.2]? = some l[g.2]:=List.getElem?_eq_getElem hg2
  rw [e1] at h2 ⊢
  cases hx:l[g.2] with
  | true=>rfl
  | false=>exact absurd ⟨hk,by rw [hx]⟩ h2
 | some k=>
  right
  obtain ⟨hi,hp,_⟩:=List.findIdx?_eq_some_iff_getElem.1 hf
  have hi':k < gn.length:=by simpa using hi
  have hp':DE l (toI gn[k])=true:=by simpa using hp
  exact ⟨k,hi',rfl,(hd _ (List.getElem_mem hi')).1 hp'⟩
theorem Ji (n who:Nat) (hn:n<=6) (hw:who < n) (v:Value) (gn:List (Nat × Nat)) (w:World) (hv:AF w v (gn.map toI)) (hlen:gn.length<=20) (hb:∀ g∈gn,g.1 < n/\g.2 < n) :
  Calls Tryz.prog 127 #[zh #[U zd n,v],U zd who] w fun e w'=>∃ kb,w.heap.size<=kb/\kb < w'.heap.size/\e=zj (O (some ⟨kb,0,none⟩) n n)/\Cg w' kb (acts gn n who)/\Ov w w':=by
 have hmk:=fun w=>Dw n hn w
 have hst:D3 w n v (Fx n who) (((w.alloc (Obj.cells #[Value.int IntKind.i64 n,v] 24)).alloc (Obj.cells ((Array.replicate n (Value.bool false)).setIfInBounds who (Value.bool true)) 4)).alloc (Obj.cells #[Value.slice (some { block:=w.heap.size+1,off:=0 }) n n] 48)):=by
  refine ⟨by simp [go_sem],by simp [go_sem],by simp [go_sem],fun i hi=>?_,?_⟩
  ·have hi':i < n:=by simpa [Fx] using hi
   refine ⟨?_,by simp [go_sem]⟩
   simp [go_sem,Fx,List.getElem_set,hi']
   by_cases e:who=i
   ·simp [e]
   ·simp [e,hi']
  ·exact ((bA w _).alloc (by simp) _).alloc (by simp;omega) _
 have HI:=Aa (GF hn hst (Cr n who) hv hlen hb)
 clear hst
 go_enter Tryz.func127,Tryz.ntmps127
 go_wp2_with fail
 refine (HI.o).mono ?_
 rintro e w1 ⟨rfl,hst⟩
 clear HI hmk
 go_wp2_with fail
 go_loopw [7] (fun i wr=>∃ l:List Bool,l.length=n/\C2 gn who l/\i=U zd (Di (DE l) (gn.map toI))/\D3 w n v l wr) (fun _ wr=>Ih (w.heap.size+1) n wr)
 case atStart=>exact ⟨_,Cr n who,DM gn hw,rfl,hst⟩
 case round=>
  obtain ⟨l,hl,hsd,rfl,hst2⟩:=hrel
  clear hst
  rcases LK l gn n hl hb with ⟨hi,hcl⟩ | ⟨k,hk,hi,hkt,hkf⟩
  ·have he:l=acts gn n who:=NB hw (fun g hg=>(hb g hg).2) hl hsd hcl
   rw [hi]
   obtain ⟨s0,s1,s2,s3,s4⟩:=hst2
   have hz:=bL s2
   have hz':w.heap.size+1 < wr.heap.size:=by have:w.heap.size+1+1 < wr.heap.size:=hz;omega
   rw [he] at s3
   clear hcl hsd he hi
   go_wp2_with fail
   go_ret
   exact ⟨w.heap.size+1,by omega,hz',rfl,s3,s4⟩
  ·obtain ⟨hg1,hg2⟩:=hb _ (List.getElem_mem hk)
   have hs1:=hst2
   obtain ⟨s0,s1,s2,s3,s4⟩:=hst2
   obtain ⟨ao,cap,hve,hcc⟩:=hv
   rw [List.length_map] at hve
   subst hve
   obtain ⟨b,off,rfl,hcl⟩:=hcc (by intro h;rw [List.map_eq_nil_iff] at h;rw [h] at hk;simp at hk)
   obtain ⟨q0,q1⟩:=hcl k (by simpa using hk)
   have hlt:=bL q0
   rw [<-(Am s4).1 _ _ hlt] at q0 q1
   simp only [List.getElem_map,toI] at q0 q1
   obtain ⟨d1,d2⟩:=s3 gn[k].2 (by omega)
   have hfal:l[gn[k].2]=false:=by have:=hkf;rw [List.getElem?_eq_getElem (by omega)] at this;exact Option.some.inj this
   rw [hfal] at d1
   obtain ⟨gw,hgw⟩:=nm (gn[k].1)
   obtain ⟨gf,hgf⟩:=nm (gn[k].2)
   simp only [<-hgw,<-hgf] at q0 q1 d1 d2 hg1 hg2 hkt hkf hfal
   rw [hi]
   have hset:=LC (w:=wr.drew) s3 (j:=gf) (by omega) true
   have hsn:C2 gn who (l.set gf true):=by rw [hgf];exact GX hsd (List.getElem_mem hk) (by rw [<-hgw];exact hkt)
   have hln:(l.set gf true).length=n:=by simpa using hl
   have hlm:Ih (w.heap.size+1) n wr=l.count false:=by rw [<-hl];exact Hi s3
   have hct:=FJ (l:=l) (j:=gf) (by omega) hfal
   have hst3:D3 w n (O (some ⟨b,off,none⟩) gn.length cap) (l.set gf true) (wr.drew.setCell ⟨w.heap.size+1,gf,none⟩ (zg true)):=by
    refine ⟨?_,?_,?_,hset,(below_drewN s4 1).setCell (by simp) _⟩
    ·rw [World.cell?_setCell_other _ _ _ _ (by simp)];exact s0
    ·rw [World.cell?_setCell_other _ _ _ _ (by simp)];exact s1
    ·rw [World.cell?_setCell_other _ _ _ _ (by simp)];exact s2
   have hv':AF w (O (some ⟨b,off,none⟩) gn.length cap) (gn.map toI):=⟨_,_,by rw [List.length_map],hcc⟩
   have HI:=Aa (GF hn hst3 hln hv' hlen hb)
   obtain ⟨t0,t1,t2,-,-⟩:=hst3
   have HS:=Aa hsn
   clear hcl hcc hset hsn hsd hs1 hv' s3 hkt hkf hfal hgw hgf hb q0
   go_wp2_with fail
   go_region
   go_wp2_with fail
   refine (HI.o).mono ?_
   rintro e w2 ⟨rfl,hst4⟩
   clear HI
   go_wp2_with fail
   refine ⟨⟨l.set gf true,hln,HS.o,rfl,hst4⟩,?_⟩
   have h1:=Hi hst4.2.2.2.1
   rw [hln] at h1
   omega
def Ay (gs:List (Int × Int)):List (Nat × Nat):=gs.map fun g=>(g.1.toNat,g.2.toNat)
theorem EI {m:Int} {gs:List (Int × Int)} (h:AL m gs=0):∃ n:Nat,m=n/\1<=n/\n<=6/\(Ay gs).map toI=gs/\(Ay gs).length<=20/\∀ g∈Ay gs,g.1 < n/\g.2 < n:=by
 unfold AL at h
 split at h
 ·split at h
  ·split at h
   ·cases h
   ·rename_i hm hl hb
    have hb':∀ g∈gs,Bw m g.1=true/\Bw m g.2=true:=fun g hg=>by
     have h1:¬ GC m g=true:=fun hh=>hb (List.any_eq_true.2 ⟨g,hg,hh⟩)
     simp [GC] at h1
     exact h1
    refine ⟨m.toNat,by omega,by omega,by omega,?_,by simpa [Ay] using hl,fun g hg=>?_⟩
    ·unfold Ay
     rw [List.map_map]
     conv=>rhs;rw [<-List.map_id gs]
     apply List.map_congr_left
     intro g hg
     obtain ⟨h1,h2⟩:=hb' g hg
     simp [Bw] at h1 h2
     simp only [Function.comp,toI,id]
     ext <;> simp <;> omega
    ·obtain ⟨g',hg',rfl⟩:=List.mem_map.1 hg
     obtain ⟨h1,h2⟩:=hb' g' hg'
     simp [Bw] at h1 h2
     simp only
     omega
  ·cases h
 ·cases h
theorem Tryz.info35:(Tryz.prog.info? 48).map (fun i=>(i.zero,i.size,i.bytes))=some (some (O none 0 0),1,24):=by kernel_rfl
theorem Qg (n:Nat) (hn:n<=6) (w:World):(Instr.makeSlice 137 (U zd n) (U zd n)).run Tryz.prog w=.ok (O (some ⟨w.heap.size,0,none⟩) n n) (w.alloc (.cells (List.replicate n (Value.slice none 0 0)).toArray 48)):=by
 cases hi:Tryz.prog.info? 48 with
 | none=>have:=Tryz.info35;rw [hi] at this;cases this
 | some i=>
  have h4:=Tryz.info35
  rw [hi] at h4
  simp only [Option.map_some,Option.some.injEq,Prod.mk.injEq] at h4
  obtain ⟨hz,h1,h2⟩:=h4
  have:=run_make (P:=Tryz.prog) w 137 48 i (O none 0 0) Tryz.underlying137 hi hz zd zd (n:Int) (n:Int) (by omega) (by omega) (by rw [h2];omega) (by omega)
  rw [this,h1]
  simp only [Int.toNat_natCast,Nat.mul_one]
  have e:madeCells (Value.slice none 0 0).cells n=(List.replicate n (Value.slice none 0 0)).toArray:=by
   apply Array.ext
   ·simp [madeCells]
   ·intro j h1 h2
    simp [madeCells,Value.cells,Nat.mod_one]
  rw [e]
def CF (W:World) (ob n:Nat) (gn:List (Nat × Nat)) (k:Nat):Prop:=∀ i,i < k->∃ kb,kb≠ob/\W.cell? ⟨ob,i,none⟩=some (O (some ⟨kb,0,none⟩) n n)/\Cg W kb (acts gn n i)
theorem Ea {W W':World} {ob n k:Nat} {gn:List (Nat × Nat)} (h:CF W ob n gn k) (hb:Ov W W'):CF W' ob n gn k:=fun i hi=>by
 obtain ⟨kb,h1,h2,h3⟩:=h i hi
 exact ⟨kb,h1,by rw [(Am hb).1 _ _ (bL h2)];exact h2,Gf h3 hb⟩
theorem FD {w:World} {kb:Nat} {l:List Bool} (h:Cg w kb l) {p:Addr} (hp:p.block≠kb) (u:Value):Cg (w.setCell p u) kb l:=fun i hi=>by
 obtain ⟨h1,h2⟩:=h i hi
 refine ⟨?_,?_⟩
 ·rw [World.cell?_setCell_other _ _ _ _ (by intro h;exact hp (by rw [h]))]
  exact h1
 ·rw [World.frozen?_setCell]
  exact h2
theorem ML {W:World} {ob n k kb:Nat} {gn:List (Nat × Nat)} (h:CF W ob n gn k) {u:Value} (hu:W.cell? ⟨ob,k,none⟩=some u) (hkb:kb≠ob) (hk:Cg W kb (acts gn n k)) :
  CF (W.setCell ⟨ob,k,none⟩ (O (some ⟨kb,0,none⟩) n n)) ob n gn (k+1):=fun i hi=>by
 by_cases e:i=k
 ·subst e
  exact ⟨kb,hkb,World.cell?_setCell_same _ _ _ hu,FD hk (fun h=>hkb h.symm) _⟩
 ·obtain ⟨kc,h1,h2,h3⟩:=h i (by omega)
  refine ⟨kc,h1,?_,FD h3 (fun h=>h1 h.symm) _⟩
  rw [World.cell?_setCell_other _ _ _ _ (by intro h;injection h with _ h;exact e h.symm)]
  exact h2
def Jl (W:World) (ob n:Nat):Prop:=∀ i,i < n->(∃ u,W.cell? ⟨ob,i,none⟩=some u)/\W.frozen? ⟨ob,i,none⟩=false
theorem Jn {W W':World} {ob n:Nat} (h:Jl W ob n) (hb:Ov W W'):Jl W' ob n:=fun i hi=>by
 obtain ⟨⟨u,h1⟩,h2⟩:=h i hi
 have hlt:=bL h1
 exact ⟨⟨u,by rw [(Am hb).1 _ _ hlt];exact h1⟩,by rw [(Am hb).2 _ _ hlt];exact h2⟩
theorem Le {W:World} {ob n k:Nat} (h:Jl W ob n) (hk:k < n) (v:Value):Jl (W.setCell ⟨ob,k,none⟩ v) ob n:=fun i hi=>by
 obtain ⟨⟨u,h1⟩,h2⟩:=h i hi
 refine ⟨?_,by rw [World.frozen?_setCell];exact h2⟩
 by_cases e:k=i
 ·subst e
  exact ⟨v,World.cell?_setCell_same _ _ _ h1⟩
 ·exact ⟨u,by rw [World.cell?_setCell_other _ _ _ _ (by intro h;injection h with _ h;exact e h)];exact h1⟩
def Ho (w:World) (n:Nat) (v:Value) (gn:List (Nat × Nat)) (ob k:Nat) (W:World):Prop:=
 W.cell? ⟨w.heap.size,0,none⟩=some (U zd n)/\W.cell? ⟨w.heap.size,1,none⟩=some v/\Jl W ob n/\CF W ob n gn k/\Ov w W/\w.heap.size < ob/\ob < W.heap.size
theorem Ho.over {w W W':World} {n ob k:Nat} {v:Value} {gn:List (Nat × Nat)} (h:Ho w n v gn ob k W) (hb:Ov W W'):Ho w n v gn ob k W':=by
 obtain ⟨h0,h1,h2,h3,h4,h5,h6⟩:=h
 obtain ⟨hc,hf⟩:=Am hb
 refine ⟨?_,?_,Jn h2 hb,Ea h3 hb,h4.trans (hb.mono h4.size),h5,Nat.lt_of_lt_of_le h6 hb.size⟩
 ·rw [hc _ _ (bL h0)];exact h0
 ·rw [hc _ _ (bL h1)];exact h1
theorem Ni (n:Nat) (h1:1<=n) (hn:n<=6) (v:Value) (gn:List (Nat × Nat)) (w:World) (hv:AF w v (gn.map toI)) (hlen:gn.length<=20) (hb:∀ g∈gn,g.1 < n/\g.2 < n) (hE:AL n (gn.map toI)=0) :
  Calls Tryz.prog 69 #[zh #[U zd n,v]] w fun e w'=>∃ ob,e=zj (zk #[O (some ⟨ob,0,none⟩) n n,U zd 0])/\CF w' ob n gn n/\Ov w w':=by
 have hmk:=fun w=>Qg n hn w
 have hbel:Ov w (w.alloc (ze #[U zd n,v] 24)):=bA w _
 have hC:=check_any n v (gn.map toI) (w.alloc (ze #[U zd n,v] 24)) (Af hv hbel)
 rw [hE] at hC
 have HC:=Aa hC
 have HA:=Aa fun (who:Nat) (hw:who < n) (W:World) (hW:Ov w W)=>Ji n who hn hw v gn W (Af hv hW) hlen hb
 clear hC hE hv
 go_enter Tryz.func69,Tryz.ntmps69
 go_wp2_with fail
 refine (HC.o).mono ?_
 rintro e w1 ⟨rfl,hb1⟩
 obtain ⟨hc,hf⟩:=Am hb1
 have c0:w1.cell? ⟨w.heap.size,0,none⟩=some (U zd n):=by rw [hc _ _ (by simp)];simp [go_sem]
 have c1:w1.cell? ⟨w.heap.size,1,none⟩=some v:=by rw [hc _ _ (by simp)];simp [go_sem]
 have hbel1:Ov w w1:=hbel.trans (hb1.mono (by simp))
 have hz:w.heap.size < w1.heap.size:=bL c0
 have hst:Ho w n v gn w1.heap.size 0 (w1.alloc (.cells (List.replicate n (Value.slice none 0 0)).toArray 48)):=by
  have hal:Ov w1 (w1.alloc (.cells (List.replicate n (Value.slice none 0 0)).toArray 48)):=bA w1 _
  refine ⟨?_,?_,fun i hi=>⟨⟨O none 0 0,by simp [go_sem,hi]⟩,by simp [go_sem]⟩,fun i hi=>absurd hi (Nat.not_lt_zero _),hbel1.trans (hal.mono (by omega)),hz,by simp⟩
  ·rw [(Am hal).1 _ _ hz];exact c0
  ·rw [(Am hal).1 _ _ hz];exact c1
 clear HC hc hf hb1 hbel
 go_wp2_with fail
 go_loopw [17] (fun i wr=>∃ k:Nat,k<=n/\i=U zd k/\Ho w n v gn w1.heap.size k wr) (fun i _=>n - (intOf i).toNat)
 case atStart=>exact ⟨0,Nat.zero_le _,rfl,by simpa using hst⟩
 case round=>
  clear hst hmk c0 c1
  obtain ⟨k,hk,rfl,hs1⟩:=hrel
  by_cases hkn:k < n
  ·have HS:=Aa hs1
   obtain ⟨s0,s1,-,-,s4,-,s6⟩:=hs1
   go_wp2_with fail
   refine (HA.o k hkn _ s4).mono ?_
   rintro e w2 ⟨kb,hkb,hkb2,rfl,hkn2,hb2⟩
   have hs2:=HS.o.over hb2
   clear s0 s1 s4
   obtain ⟨⟨u,d1⟩,d2⟩:=hs2.2.2.1 k hkn
   have hne:kb≠w1.heap.size:=by omega
   have hs3:Ho w n v gn w1.heap.size (k+1) (w2.setCell ⟨w1.heap.size,k,none⟩ (O (some ⟨kb,0,none⟩) n n)):=by
    obtain ⟨r0,r1,r2,r3,r4,r5,r6⟩:=hs2
    refine ⟨?_,?_,Le r2 hkn _,ML r3 d1 hne hkn2,r4.setCell (by simp;omega) _,r5,by simpa using r6⟩
    ·rw [World.cell?_setCell_other _ _ _ _ (by simp)];exact r0
    ·rw [World.cell?_setCell_other _ _ _ _ (by simp)];exact r1
   clear hs2 HS hkn2
   go_wp2_with fail
   exact ⟨⟨k+1,by omega,by go_num,hs3⟩,by simp [intOf];omega⟩
  ·have hke:k=n:=by omega
   subst hke
   obtain ⟨-,-,-,s3,s4,-,-⟩:=hs1
   go_wp2_with fail
   go_ret2
   exact ⟨w1.heap.size,rfl,s3,s4⟩
def AH (w:World) (v:Value) (l:List Bool):Prop:=
 ∃ ao cap,v=O ao l.length cap/\(l≠[]->∃ b off,ao=some ⟨b,off,none⟩/\∀ i (h:i < l.length),w.cell? ⟨b,off+i,none⟩=some (zg l[i]))
theorem AA {w w':World} {v:Value} {l:List Bool} (h:AH w v l) (hb:Ov w w'):AH w' v l:=by
 obtain ⟨ao,cap,rfl,hc⟩:=h
 refine ⟨ao,cap,rfl,fun hne=>?_⟩
 obtain ⟨b,off,rfl,hcl⟩:=hc hne
 refine ⟨b,off,rfl,fun i hi=>?_⟩
 have h1:=hcl i hi
 rw [(Am hb).1 _ _ (bL h1)]
 exact h1
theorem Gj {w:World} {v:Value} {l:List Bool} (h:AH w v l) {i:Nat} (hi:i < l.length):∃ b off cap,v=O (some ⟨b,off,none⟩) l.length cap/\w.cell? ⟨b,off+i,none⟩=some (zg l[i]):=by
 obtain ⟨ao,cap,rfl,hc⟩:=h
 obtain ⟨b,off,rfl,hcl⟩:=hc (by rintro rfl;simp at hi)
 exact ⟨b,off,cap,rfl,hcl i hi⟩
theorem Hs {a b:List Bool} {k:Nat} (hka:k < a.length) (hkb:k < b.length) (hne:a[k]≠b[k]):a≠b:=by
 rintro rfl
 exact hne rfl
theorem GJ (va vb:Value) (a b:List Bool) (w:World) (ha:AH w va a) (hb:AH w vb b) (hla:a.length<=9223372036854775807) :
  Calls Tryz.prog 43 #[va,vb] w fun e w'=>e=zj (zg (decide (a=b)))/\∃ n,w'=w.drewN n:=by
 have HA:=Aa ha
 have HB:=Aa hb
 obtain ⟨ao,ca,rfl,-⟩:=ha
 obtain ⟨bo,cb,rfl,-⟩:=hb
 by_cases hl:a.length=b.length
 ·have hl2:((a.length:Int) != b.length)=false:=by simp [hl]
  have HL:=Aa hl
  clear hl
  go_enter Tryz.func43,Tryz.ntmps43
  go_wp2_with fail
  go_loopw [5] (fun i wr=>∃ k n:Nat,k<=a.length/\i=U zd k/\a.take k=b.take k/\wr=w.drewN n) (fun i _=>a.length - (intOf i).toNat)
  case atStart=>exact ⟨0,0,Nat.zero_le _,rfl,rfl,rfl⟩
  case round=>
   obtain ⟨k,n,hk,rfl,heq,rfl⟩:=hrel
   by_cases hkl:k < a.length
   ·have hkb:k < b.length:=by have:=HL.o;omega
    obtain ⟨b1,o1,c1,e1,q1⟩:=Gj HA.o hkl
    obtain ⟨b2,o2,c2,e2,q2⟩:=Gj HB.o hkb
    injection e1 with e1a e1b e1c
    injection e2 with e2a e2b e2c
    subst e1a e1c e2a e2c
    have htk:a[k]=b[k]->a.take (k+1)=b.take (k+1):=fun h=>by
     rw [List.take_succ_eq_append_getElem hkl,List.take_succ_eq_append_getElem hkb,heq,h]
    have hne:a[k]≠b[k]->decide (a=b)=false:=fun h=>decide_eq_false (Hs hkl hkb h)
    obtain ⟨x,hx⟩:=nm (a[k])
    obtain ⟨y,hy⟩:=nm (b[k])
    rw [<-hx] at q1
    rw [<-hy] at q2
    rw [<-hx,<-hy] at htk hne
    have HT:=Aa htk
    have HN:=Aa hne
    clear htk hne heq hx hy e1b e2b
    cases x <;> cases y
    all_goals go_wp2_with fail
    all_goals go_region
    all_goals go_wp2_with fail
    all_goals first
     | exact ⟨⟨k+1,n+1,by omega,by go_num,HT.o (by first | rfl | trivial),by first | rfl | trivial⟩,by simp [intOf];omega⟩
     | (go_ret;exact ⟨by rw [HN.o (by decide)];rfl,n+1,rfl⟩)
   ·have hke:k=a.length:=by omega
    have hab:a=b:=by
     have h2:k=b.length:=by have:=HL.o;omega
     rw [hke,List.take_length] at heq
     rw [heq,<-hke,h2,List.take_length]
    have hd:decide (a=b)=true:=decide_eq_true hab
    have HD:=Aa hd
    clear hd hab heq
    go_wp2_with fail
    go_ret
    exact ⟨by rw [HD.o];rfl,n,rfl⟩
 ·have hl2:((a.length:Int) != b.length)=true:=by simp;omega
  have hd:decide (a=b)=false:=decide_eq_false (fun h=>hl (by rw [h]))
  rw [hd]
  clear hd
  go_enter Tryz.func43,Tryz.ntmps43
  go_wp2_with fail
  go_ret
  exact ⟨rfl,0,rfl⟩
structure Lev where
 r:List Bool
 w:List Bool
def A5 (W:World) (v:Value) (l:Lev):Prop:=∃ vr vw,v=zh #[vr,vw]/\AH W vr l.r/\AH W vw l.w
theorem AJ {W W':World} {v:Value} {l:Lev} (h:A5 W v l) (hb:Ov W W'):A5 W' v l:=by
 obtain ⟨vr,vw,rfl,h1,h2⟩:=h
 exact ⟨vr,vw,rfl,AA h1 hb,AA h2 hb⟩
def Cu (m:Int) (l:Lev):Int:=if (l.r.length:Int)=m/\(l.w.length:Int)=m then 0 else 1
def Qc (l m:Lev) (i:Nat):Bool:=!((m.r[i]?.getD false && !(l.r[i]?.getD false)) || (l.w[i]?.getD false && !(m.w[i]?.getD false)))
def AE (l m:Lev) (n:Nat):Bool:=(List.range n).all (Qc l m)
theorem Gt {l m:Lev} {n:Nat}:AE l m n=true ↔ ∀ i,i < n->(m.r[i]?.getD false=true->l.r[i]?.getD false=true)/\(l.w[i]?.getD false=true->m.w[i]?.getD false=true):=by
 unfold AE
 rw [List.all_eq_true]
 constructor
 ·intro h i hi
  have:=h i (List.mem_range.2 hi)
  unfold Qc at this
  revert this
  cases m.r[i]?.getD false <;> cases l.r[i]?.getD false <;> cases l.w[i]?.getD false <;> cases m.w[i]?.getD false <;> simp
 ·intro h i hi
  have:=h i (List.mem_range.1 hi)
  unfold Qc
  revert this
  cases m.r[i]?.getD false <;> cases l.r[i]?.getD false <;> cases l.w[i]?.getD false <;> cases m.w[i]?.getD false <;> simp
theorem Co {w:World} {v:Value} {l:List Bool} {n:Nat} (h:AH w v l) (hl:l.length=n) (h1:1<=n) :
  ∃ b off cap,v=O (some ⟨b,off,none⟩) n cap/\∀ i,i < n->w.cell? ⟨b,off+i,none⟩=some (zg (l[i]?.getD false)):=by
 obtain ⟨ao,cap,rfl,hc⟩:=h
 obtain ⟨b,off,rfl,hcl⟩:=hc (by rintro rfl;simp at hl;omega)
 refine ⟨b,off,cap,by rw [hl],fun i hi=>?_⟩
 have hi':i < l.length:=by omega
 rw [hcl i hi']
 simp [hi']
def Lev.len (l:Lev) (n:Nat):Prop:=l.r.length=n/\l.w.length=n
def AQ (w:World) (v:Value) (l:List Int):Prop:=
 ∃ ao cap,v=O ao l.length cap/\(l≠[]->∃ b off,ao=some ⟨b,off,none⟩/\∀ i (h:i < l.length),w.cell? ⟨b,off+i,none⟩=some (U zd l[i]))
theorem BF {w w':World} {v:Value} {l:List Int} (h:AQ w v l) (hb:Ov w w'):AQ w' v l:=by
 obtain ⟨ao,cap,rfl,hc⟩:=h
 refine ⟨ao,cap,rfl,fun hne=>?_⟩
 obtain ⟨b,off,rfl,hcl⟩:=hc hne
 refine ⟨b,off,rfl,fun i hi=>?_⟩
 have h1:=hcl i hi
 rw [(Am hb).1 _ _ (bL h1)]
 exact h1
structure Pol where
 owner:Int
 names:List Int
def AN (w:World) (v:Value) (ps:List Pol):Prop:=
 ∃ ao cap,v=O ao ps.length cap/\(ps≠[]->∃ b off,ao=some ⟨b,off,none⟩/\∀ i (h:i < ps.length),w.cell? ⟨b,off+i*2,none⟩=some (U zd ps[i].owner)/\∃ nv,w.cell? ⟨b,off+i*2+1,none⟩=some nv/\AQ w nv ps[i].names)
theorem Ak {w w':World} {v:Value} {ps:List Pol} (h:AN w v ps) (hb:Ov w w'):AN w' v ps:=by
 obtain ⟨ao,cap,rfl,hc⟩:=h
 refine ⟨ao,cap,rfl,fun hne=>?_⟩
 obtain ⟨b,off,rfl,hcl⟩:=hc hne
 refine ⟨b,off,rfl,fun i hi=>?_⟩
 obtain ⟨h1,nv,h2,h3⟩:=hcl i hi
 exact ⟨by rw [(Am hb).1 _ _ (bL h1)];exact h1,nv,by rw [(Am hb).1 _ _ (bL h2)];exact h2,BF h3 hb⟩
def DI (gn:List (Nat × Nat)) (n who:Nat) (x:Int):Bool:=(acts gn n who)[x.toNat]?.getD false
def Rs (gn:List (Nat × Nat)) (n who:Nat) (p:Pol):Bool:=DI gn n who p.owner || p.names.any (DI gn n who)
def Fg (gn:List (Nat × Nat)) (n who:Nat) (ps:List Pol):Bool:=ps.all (Rs gn n who)
def ET (n:Nat) (p:Pol):Prop:=(0<=p.owner/\p.owner < n)/\p.names.length<=6/\∀ x∈p.names,0<=x/\x < (n:Int)
theorem Qp {w w0 w1:World} {b0 o0 b1 o1 b2 o2:Nat} {v0 v1 v2:Value} (h:w0.cell? ⟨b0,o0,none⟩=some v0/\w0.cell? ⟨b1,o1,none⟩=some v1/\w0.cell? ⟨b2,o2,none⟩=some v2/\Ov w w0)
  (hb:Ov w0 w1):w1.cell? ⟨b0,o0,none⟩=some v0/\w1.cell? ⟨b1,o1,none⟩=some v1/\w1.cell? ⟨b2,o2,none⟩=some v2/\Ov w w1:=by
 obtain ⟨h0,h1,h2,hB⟩:=h
 obtain ⟨hc,hf⟩:=Am hb
 refine ⟨?_,?_,?_,hB.trans (hb.mono hB.size)⟩
 ·rw [hc _ _ (bL h0)];exact h0
 ·rw [hc _ _ (bL h1)];exact h1
 ·rw [hc _ _ (bL h2)];exact h2
def DN:List Int->Bool
 | x::y::l=>decide (x < y) && DN (y::l)
 | _=>true
def CV (m:Int) (p:Pol):Int:=
 if Bw m p.owner=true then (if p.names.length<=6 then (if p.names.all (Bw m)=true then (if DN p.names=true then 0 else 4) else 5) else 2) else 5
def Cc (m:Int):List Pol->Int
 | []=>0
 | p::ps=>if CV m p=0 then Cc m ps else CV m p
def Cf (m:Int) (ps:List Pol):Int:=if ps.length<=4 then Cc m ps else 2
theorem GQ {m:Int} {ps:List Pol} {k:Nat} (hk:k < ps.length):Cc m (ps.drop k)=if CV m ps[k]=0 then Cc m (ps.drop (k+1)) else CV m ps[k]:=by
 rw [List.drop_eq_getElem_cons hk]
 rfl
theorem G6 (l:List Int):DN l=true ↔ ∀ i (h:i+1 < l.length),l[i] < l[i+1]:=by
 induction l with
 | nil=>simp [DN]
 | cons x l ih=>
  cases l with
  | nil=>simp [DN]
  | cons y l=>
   simp only [DN,Bool.and_eq_true,decide_eq_true_eq,ih]
   constructor
   ·rintro ⟨h1,h2⟩ i hi
    cases i with
    | zero=>exact h1
    | succ i=>exact h2 i (by simpa using hi)
   ·intro h
    exact ⟨h 0 (by simp),fun i hi=>h (i+1) (by simpa using hi)⟩
end Go.Proofs.YtfffpjkcfnekaaaGreat
