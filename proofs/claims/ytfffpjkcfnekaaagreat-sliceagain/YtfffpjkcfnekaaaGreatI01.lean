/- Regions that draw, in few words. -/
import Derived.Deep.RegionHeld3
import Derived.RowKit
import Derived.OpenShut
import Derived.Deep.Draws
import Derived.Lib.Builder
import Derived.Test.YtfffpjkcfnekaaaGreatRows
import Derived.ProofKit
import Derived.Deep.Strs
import Derived.Lib.SmallJoins
import Derived.WalkKit
import Derived.WalkSpells
import Derived.WalkLawsBesides
import Derived.WalkSmall
import Derived.Deep.AppendLies
import Derived.OwnWalk
import Derived.Deep.SlicePairs
set_option linter.unusedVariables false
set_option maxHeartbeats 8000000
set_option maxRecDepth 100000
namespace Go.Proofs.YtfffpjkcfnekaaaGreat
open Go.RowKit
open Go.Value renaming slice -> O, int -> zd, bool -> zg, agg -> zh, pointer -> zj, tuple -> zm
open Go.IntKind renaming i64 -> U
open Go.Obj renaming cells -> ze
open Go.Ending renaming returned -> zk
abbrev Ov (w w':World):Prop:=Below w.heap.size w w'
abbrev CE (w:World) (b i:Nat) (v:Value):Prop:=w.cell? ⟨b,i,none⟩=some v
theorem nm {α:Type} (x:α):∃ q,q=x:=⟨x,rfl⟩
theorem aqt:(∀ (l:List Oper) (i:Nat) (h:i < l.toArray.size),l.toArray[i]'h=l[i]'(by simpa using h))/\(∀ (a:Oper) (l:List Oper) (i:Nat) (h:i+1 < (a::l).length),(a::l)[i+1]'h=l[i]'(by simpa using h))/\(∀ (a:Oper) (l:List Oper) (h:0 < (a::l).length),(a::l)[0]'h=a)/\(∀ (a:Act) (d:Tmp) (v:Value),a.put (some d) v={ a with tmps:=a.tmps.setIfInBounds d v })/\(∀ (a:Act) (v:Value),a.put none v=a)/\(∀ (l:List Value) (i:Nat) (x:Value),l.toArray.setIfInBounds i x=(l.set i x).toArray)/\(∀ (l:List Value) (a x:Value),(a::l).set 0 x=x::l)/\(∀ (l:List Value) (a x:Value) (i:Nat),(a::l).set (i+1) x=a::l.set i x):=
 ⟨fun _ _ _=>by simp,fun _ _ _ _=>rfl,fun _ _ _=>rfl,fun _ _ _=>rfl,fun _ _=>rfl,fun _ _ _=>by simp,fun _ _ _=>rfl,fun _ _ _ _=>rfl⟩
theorem kT {P:Program} {ops:Array Oper} {Q:Exit->Act->World->Prop} {md:Region.Mode} {S:World->Prop} {oi:Oper} {v:Value} {fuel:Nat} {listed:Array Bool} {a:Act} {w:World} {Z:Prop} (i:Nat) (h:Z)
  (hi:ops[i]? = some oi:=by rfl) (hy:YieldsIf P ops S oi v a:=by (refine Or.inl ⟨by rfl,?_⟩;intro d b;(try dsimp only at b);go_simp;try with_reducible rfl)) (hS:S w:=by assumption)
  (hs:Region.noSelect ops=true:=by kernel_rfl) (hf:Region.free md ops listed i=true:=by kernel_rfl) (hr:(Region.ready md ops listed).contains i=true:=by kernel_rfl)
  (hQ:∀ c a w,Q (.panic c) (a.put oi.dst v) w->Q (.panic c) a w:=by exact fun _ _ _ h=>h)
  (hz:Z->wpAnyH P md ops Q S fuel (listed.setIfInBounds i true) (a.put oi.dst v) w:=by (intro hz;(try simp only [aqt]);exact hz)):wpAnyH P md ops Q S (fuel+1) listed a w:=
 wpAnyH_take hi hs hf hr hQ hy hS (hz h)
theorem kU {P:Program} {ops:Array Oper} {Q:Exit->Act->World->Prop} {md:Region.Mode} {S:World->Prop} {oi:Oper} {fuel:Nat} {listed:Array Bool} {a:Act} {w:World} {Z:Prop} (i:Nat) (h:Z)
  (hi:ops[i]? = some oi:=by rfl) (hy:YieldsIf P ops S oi undef a:=by exact Or.inr ⟨by kernel_rfl,rfl⟩) (hS:S w:=by assumption)
  (hs:Region.noSelect ops=true:=by kernel_rfl) (hf:Region.free md ops listed i=true:=by kernel_rfl) (hr:(Region.ready md ops listed).contains i=true:=by kernel_rfl)
  (hQ:∀ c a w,Q (.panic c) (a.put oi.dst undef) w->Q (.panic c) a w:=by exact fun _ _ _ h=>h)
  (hz:Z->wpAnyH P md ops Q S fuel (listed.setIfInBounds i true) (a.put oi.dst undef) w:=by (intro hz;(try simp only [aqt]);exact hz)):wpAnyH P md ops Q S (fuel+1) listed a w:=
 wpAnyH_take hi hs hf hr hQ hy hS (hz h)
abbrev IP (P:Program) (md:Region.Mode) (ops:Array Oper) (Q:Exit->Act->World->Prop) (S:World->Prop) (fuel:Nat) (listed:Array Bool) (a:Act) (w:World) (i:Nat) (o:Oper):Prop:=
 ∀ K':Act->World->Prop,Shut (∀ a w,S w->(S w->wpAnyH P md ops Q S fuel (listed.setIfInBounds i true) a w)->K' a w)->if Region.wanted o (yielded ops a.tmps)=true then Oper.wp P o a w K' Q else K' (a.put o.dst undef) w
theorem rdA {P:Program} {ops:Array Oper} {Q:Exit->Act->World->Prop} {md:Region.Mode} {S:World->Prop} {fuel:Nat} {listed:Array Bool} {a:Act} {w:World} (i:Nat) {o:Oper} (ho:ops[i]? = some o) (h:IP P md ops Q S fuel listed a w i o)
  (hr:Region.ready md ops listed=[i]:=by kernel_rfl):wpAnyH P md ops Q S (fuel+1) listed a w:=
 wpAnyH_ready hr (by simp) (AllReadyH.cons ho h AllReadyH.nil)
theorem rdB {P:Program} {ops:Array Oper} {Q:Exit->Act->World->Prop} {md:Region.Mode} {S:World->Prop} {fuel:Nat} {listed:Array Bool} {a:Act} {w:World} (i j:Nat) {o p:Oper} (ho:ops[i]? = some o) (h:IP P md ops Q S fuel listed a w i o) (hp:ops[j]? = some p) (h2:IP P md ops Q S fuel listed a w j p)
  (hr:Region.ready md ops listed=[i,j]:=by kernel_rfl):wpAnyH P md ops Q S (fuel+1) listed a w:=
 wpAnyH_ready hr (by simp) (AllReadyH.cons ho h (AllReadyH.cons hp h2 AllReadyH.nil))
theorem rdC {P:Program} {ops:Array Oper} {Q:Exit->Act->World->Prop} {md:Region.Mode} {S:World->Prop} {fuel:Nat} {listed:Array Bool} {a:Act} {w:World} (i j k:Nat) {o p q:Oper} (ho:ops[i]? = some o) (h:IP P md ops Q S fuel listed a w i o) (hp:ops[j]? = some p) (h2:IP P md ops Q S fuel listed a w j p) (hq:ops[k]? = some q) (h3:IP P md ops Q S fuel listed a w k q)
  (hr:Region.ready md ops listed=[i,j,k]:=by kernel_rfl):wpAnyH P md ops Q S (fuel+1) listed a w:=
 wpAnyH_ready hr (by simp) (AllReadyH.cons ho h (AllReadyH.cons hp h2 (AllReadyH.cons hq h3 AllReadyH.nil)))
theorem xK {S:World->Prop} {V:Act->World->Prop} {K':Act->World->Prop} {a:Act} {w:World} {Z:Prop} (hK:Shut (∀ a w,S w->(S w->V a w)->K' a w)) (hS:S w) (h:S w->Z) (hz:Z->V a w:=by (intro hz;(try simp only [aqt]);exact hz)):K' a w:=
 hK.out a w hS (fun b=>hz (h b))
theorem gS {P:Program} {ops:Array Oper} {Q:Exit->Act->World->Prop} (S:World->Prop) {id:Nat} {a:Act} {w:World} (hS:S w.drew)
  (h:S w.drew->wpAnyH P .any ops Q S ops.size (Array.replicate ops.size false) a w.drew) (hm:P.follows .mixedOrders=true:=by kernel_rfl):(Code.region id ops true).wp P Q a w:=
 wp_region_held_drew hm hS h
theorem gE {P:Program} {ops:Array Oper} {Q:Exit->Act->World->Prop} {md:Region.Mode} {S:World->Prop} {fuel:Nat} {listed:Array Bool} {a:Act} {w:World} (h:Q .normal a w) (hr:Region.ready md ops listed=[]:=by kernel_rfl):wpAnyH P md ops Q S fuel listed a w:=
 wpAnyH_done hr h fuel
theorem AP (w:World) (l:List Value) (T:Nat):∀ (j:Nat) (u:Value),l[j]? = some u->(w.alloc (.cells l.toArray T)).cell? ⟨w.heap.size,j,none⟩=some u:=fun j u hu=>by
 rw [Lib.cell_of_heap (show (w.heap.push (.cells l.toArray T))[w.heap.size]? = some (.cells l.toArray T) by simp)];simpa using hu
theorem Nz {w:World} {a:Addr} {u:Value} (h:w.cell? a=some u) (o:Obj):(w.alloc o).cell? a=some u:=by
 rw [World.cell?_alloc_some _ _ _ (by rw [h];rfl)];exact h
theorem alS (w:World) (o:Obj):(w.alloc o).heap.size=w.heap.size+1:=by simp
theorem Gt (w:World) (l:List Value) (T:Nat) (o1:Obj):∀ (j:Nat) (u:Value),l[j]? = some u->((w.alloc (.cells l.toArray T)).alloc o1).cell? ⟨w.heap.size,j,none⟩=some u:=fun j u hu=>by
 have h:=AP w l T j u hu;exact (Nz h _)
theorem Hw (w:World) (o0:Obj) (l:List Value) (T:Nat):∀ (j:Nat) (u:Value),l[j]? = some u->((w.alloc o0).alloc (.cells l.toArray T)).cell? ⟨w.heap.size+1,j,none⟩=some u:=fun j u hu=>by
 have h:=AP (w.alloc o0) l T j u hu;rw [alS] at h;exact h
theorem Sb (w:World) (l:List Value) (T:Nat) (o1:Obj) (o2:Obj):∀ (j:Nat) (u:Value),l[j]? = some u->(((w.alloc (.cells l.toArray T)).alloc o1).alloc o2).cell? ⟨w.heap.size,j,none⟩=some u:=fun j u hu=>by
 have h:=AP w l T j u hu;exact (Nz (Nz h _) _)
theorem Sa (w:World) (o0:Obj) (l:List Value) (T:Nat) (o2:Obj):∀ (j:Nat) (u:Value),l[j]? = some u->(((w.alloc o0).alloc (.cells l.toArray T)).alloc o2).cell? ⟨w.heap.size+1,j,none⟩=some u:=fun j u hu=>by
 have h:=AP (w.alloc o0) l T j u hu;rw [alS] at h;exact (Nz h _)
theorem SX (w:World) (o0:Obj) (o1:Obj) (l:List Value) (T:Nat):∀ (j:Nat) (u:Value),l[j]? = some u->(((w.alloc o0).alloc o1).alloc (.cells l.toArray T)).cell? ⟨w.heap.size+1+1,j,none⟩=some u:=fun j u hu=>by
 have h:=AP ((w.alloc o0).alloc o1) l T j u hu;rw [alS,alS] at h;exact h
theorem Tg (w:World) (o0:Obj) (o1:Obj) (o2:Obj) (o3:Obj) (l:List Value) (T:Nat):∀ (j:Nat) (u:Value),l[j]? = some u->(((((w.alloc o0).alloc o1).alloc o2).alloc o3).alloc (.cells l.toArray T)).cell? ⟨w.heap.size+1+1+1+1,j,none⟩=some u:=fun j u hu=>by
 have h:=AP ((((w.alloc o0).alloc o1).alloc o2).alloc o3) l T j u hu;rw [alS,alS,alS,alS] at h;exact h
theorem rc2 {P:Nat->Value->Prop} {a0 a1:Value} {l:List Value} (h:∀ (j:Nat) (u:Value),(a0::a1::l)[j]? = some u->P j u):P 0 a0/\P 1 a1:=⟨h 0 _ rfl,h 1 _ rfl⟩
theorem rc3 {P:Nat->Value->Prop} {a0 a1 a2:Value} {l:List Value} (h:∀ (j:Nat) (u:Value),(a0::a1::a2::l)[j]? = some u->P j u):P 0 a0/\P 1 a1/\P 2 a2:=⟨h 0 _ rfl,h 1 _ rfl,h 2 _ rfl⟩
theorem rc5 {P:Nat->Value->Prop} {a0 a1 a2 a3 a4:Value} {l:List Value} (h:∀ (j:Nat) (u:Value),(a0::a1::a2::a3::a4::l)[j]? = some u->P j u):P 0 a0/\P 1 a1/\P 2 a2/\P 3 a3/\P 4 a4:=⟨h 0 _ rfl,h 1 _ rfl,h 2 _ rfl,h 3 _ rfl,h 4 _ rfl⟩
theorem rc6 {P:Nat->Value->Prop} {a0 a1 a2 a3 a4 a5:Value} {l:List Value} (h:∀ (j:Nat) (u:Value),(a0::a1::a2::a3::a4::a5::l)[j]? = some u->P j u):P 0 a0/\P 1 a1/\P 2 a2/\P 3 a3/\P 4 a4/\P 5 a5:=⟨h 0 _ rfl,h 1 _ rfl,h 2 _ rfl,h 3 _ rfl,h 4 _ rfl,h 5 _ rfl⟩
theorem rc8 {P:Nat->Value->Prop} {a0 a1 a2 a3 a4 a5 a6 a7:Value} {l:List Value} (h:∀ (j:Nat) (u:Value),(a0::a1::a2::a3::a4::a5::a6::a7::l)[j]? = some u->P j u):P 0 a0/\P 1 a1/\P 2 a2/\P 3 a3/\P 4 a4/\P 5 a5/\P 6 a6/\P 7 a7:=⟨h 0 _ rfl,h 1 _ rfl,h 2 _ rfl,h 3 _ rfl,h 4 _ rfl,h 5 _ rfl,h 6 _ rfl,h 7 _ rfl⟩
theorem rc9 {P:Nat->Value->Prop} {a0 a1 a2 a3 a4 a5 a6 a7 a8:Value} {l:List Value} (h:∀ (j:Nat) (u:Value),(a0::a1::a2::a3::a4::a5::a6::a7::a8::l)[j]? = some u->P j u):P 0 a0/\P 1 a1/\P 2 a2/\P 3 a3/\P 4 a4/\P 5 a5/\P 6 a6/\P 7 a7/\P 8 a8:=⟨h 0 _ rfl,h 1 _ rfl,h 2 _ rfl,h 3 _ rfl,h 4 _ rfl,h 5 _ rfl,h 6 _ rfl,h 7 _ rfl,h 8 _ rfl⟩
theorem CA {P:Nat->Value->Prop} {a0 a1 a2 a3 a4 a5 a6 a7 a8 a9:Value} {l:List Value} (h:∀ (j:Nat) (u:Value),(a0::a1::a2::a3::a4::a5::a6::a7::a8::a9::l)[j]? = some u->P j u):P 0 a0/\P 1 a1/\P 2 a2/\P 3 a3/\P 4 a4/\P 5 a5/\P 6 a6/\P 7 a7/\P 8 a8/\P 9 a9:=⟨h 0 _ rfl,h 1 _ rfl,h 2 _ rfl,h 3 _ rfl,h 4 _ rfl,h 5 _ rfl,h 6 _ rfl,h 7 _ rfl,h 8 _ rfl,h 9 _ rfl⟩
theorem ovS {V W:World} (h:Below V.heap.size V W):∀ a:Addr,(V.cell? a).isSome=true->W.cell? a=V.cell? a:=fun a ha=>by
 obtain ⟨u,hu⟩:=Option.isSome_iff_exists.1 ha;exact h.cell (World.block_lt_of_cell? V _ hu)
theorem kO {P:Program} {ops:Array Oper} {Q:Exit->Act->World->Prop} {md:Region.Mode} {S:World->Prop} {oi:Oper} {v:Value} {fuel:Nat} {listed:Array Bool} {a:Act} {w:World} {Z:Prop} (i:Nat) (h:Z)
  (hi:ops[i]? = some oi:=by rfl) (hy:YieldsIf P ops S oi v a:=by (refine Or.inl ⟨by rfl,?_⟩;intro d b;have b:=ovS b;go_simp;try with_reducible rfl)) (hS:S w:=by assumption)
  (hs:Region.noSelect ops=true:=by kernel_rfl) (hf:Region.free md ops listed i=true:=by kernel_rfl) (hr:(Region.ready md ops listed).contains i=true:=by kernel_rfl)
  (hQ:∀ c a w,Q (.panic c) (a.put oi.dst v) w->Q (.panic c) a w:=by exact fun _ _ _ h=>h)
  (hz:Z->wpAnyH P md ops Q S fuel (listed.setIfInBounds i true) (a.put oi.dst v) w:=by (intro hz;(try simp only [aqt]);exact hz)):wpAnyH P md ops Q S (fuel+1) listed a w:=
 wpAnyH_take hi hs hf hr hQ hy hS (hz h)
def Hx (p:Prop):Prop:=p
theorem Hx.o {p:Prop} (h:Hx p):p:=h
theorem nO {q a1 a2 a3 a4 a5 a6 Z:Prop} (N1:Hx (a1->q)) (N2:Hx (a2->q)) (N3:Hx (a3->q)) (N4:Hx (a4->q)) (N5:Hx (a5->q)) (N6:Hx (a6->q)) (hz:Z)
  (h:Z->a1\/a2\/a3\/a4\/a5\/a6:=by (intro hz;first | exact Or.inl (by (try simp at hz);(try simp);omega) | exact Or.inr (Or.inl (by (try simp at hz);(try simp);omega)) | exact Or.inr (Or.inr (Or.inl (by (try simp at hz);(try simp);omega))) | exact Or.inr (Or.inr (Or.inr (Or.inl (by (try simp at hz);(try simp);omega)))) | exact Or.inr (Or.inr (Or.inr (Or.inr (Or.inl (by (try simp at hz);(try simp);omega))))) | exact Or.inr (Or.inr (Or.inr (Or.inr (Or.inr (by (try simp at hz);(try simp);omega))))))):Hx q:=
 (h hz).elim N1.o fun h=>h.elim N2.o fun h=>h.elim N3.o fun h=>h.elim N4.o fun h=>h.elim N5.o N6.o
theorem ce1 {w w':World} (hb:Below w.heap.size w w') {a:Addr} {u:Value} (h:w.cell? a=some u):w'.cell? a=some u:=by
 rw [hb.cell (World.block_lt_of_cell? w _ h)];exact h
theorem co2 {w w':World} (hb:Below w.heap.size w w') {a0 a1:Addr} {u0 u1:Value} (h0:w.cell? a0=some u0) (h1:w.cell? a1=some u1):w'.cell? a0=some u0/\w'.cell? a1=some u1:=⟨ce1 hb h0,ce1 hb h1⟩
theorem co3 {w w':World} (hb:Below w.heap.size w w') {a0 a1 a2:Addr} {u0 u1 u2:Value} (h0:w.cell? a0=some u0) (h1:w.cell? a1=some u1) (h2:w.cell? a2=some u2):w'.cell? a0=some u0/\w'.cell? a1=some u1/\w'.cell? a2=some u2:=⟨ce1 hb h0,ce1 hb h1,ce1 hb h2⟩
theorem co4 {w w':World} (hb:Below w.heap.size w w') {a0 a1 a2 a3:Addr} {u0 u1 u2 u3:Value} (h0:w.cell? a0=some u0) (h1:w.cell? a1=some u1) (h2:w.cell? a2=some u2) (h3:w.cell? a3=some u3):w'.cell? a0=some u0/\w'.cell? a1=some u1/\w'.cell? a2=some u2/\w'.cell? a3=some u3:=⟨ce1 hb h0,ce1 hb h1,ce1 hb h2,ce1 hb h3⟩
theorem co5 {w w':World} (hb:Below w.heap.size w w') {a0 a1 a2 a3 a4:Addr} {u0 u1 u2 u3 u4:Value} (h0:w.cell? a0=some u0) (h1:w.cell? a1=some u1) (h2:w.cell? a2=some u2) (h3:w.cell? a3=some u3) (h4:w.cell? a4=some u4):w'.cell? a0=some u0/\w'.cell? a1=some u1/\w'.cell? a2=some u2/\w'.cell? a3=some u3/\w'.cell? a4=some u4:=⟨ce1 hb h0,ce1 hb h1,ce1 hb h2,ce1 hb h3,ce1 hb h4⟩
theorem co7 {w w':World} (hb:Below w.heap.size w w') {a0 a1 a2 a3 a4 a5 a6:Addr} {u0 u1 u2 u3 u4 u5 u6:Value} (h0:w.cell? a0=some u0) (h1:w.cell? a1=some u1) (h2:w.cell? a2=some u2) (h3:w.cell? a3=some u3) (h4:w.cell? a4=some u4) (h5:w.cell? a5=some u5) (h6:w.cell? a6=some u6):w'.cell? a0=some u0/\w'.cell? a1=some u1/\w'.cell? a2=some u2/\w'.cell? a3=some u3/\w'.cell? a4=some u4/\w'.cell? a5=some u5/\w'.cell? a6=some u6:=⟨ce1 hb h0,ce1 hb h1,ce1 hb h2,ce1 hb h3,ce1 hb h4,ce1 hb h5,ce1 hb h6⟩
theorem co8 {w w':World} (hb:Below w.heap.size w w') {a0 a1 a2 a3 a4 a5 a6 a7:Addr} {u0 u1 u2 u3 u4 u5 u6 u7:Value} (h0:w.cell? a0=some u0) (h1:w.cell? a1=some u1) (h2:w.cell? a2=some u2) (h3:w.cell? a3=some u3) (h4:w.cell? a4=some u4) (h5:w.cell? a5=some u5) (h6:w.cell? a6=some u6) (h7:w.cell? a7=some u7):w'.cell? a0=some u0/\w'.cell? a1=some u1/\w'.cell? a2=some u2/\w'.cell? a3=some u3/\w'.cell? a4=some u4/\w'.cell? a5=some u5/\w'.cell? a6=some u6/\w'.cell? a7=some u7:=⟨ce1 hb h0,ce1 hb h1,ce1 hb h2,ce1 hb h3,ce1 hb h4,ce1 hb h5,ce1 hb h6,ce1 hb h7⟩
theorem co9 {w w':World} (hb:Below w.heap.size w w') {a0 a1 a2 a3 a4 a5 a6 a7 a8:Addr} {u0 u1 u2 u3 u4 u5 u6 u7 u8:Value} (h0:w.cell? a0=some u0) (h1:w.cell? a1=some u1) (h2:w.cell? a2=some u2) (h3:w.cell? a3=some u3) (h4:w.cell? a4=some u4) (h5:w.cell? a5=some u5) (h6:w.cell? a6=some u6) (h7:w.cell? a7=some u7) (h8:w.cell? a8=some u8):w'.cell? a0=some u0/\w'.cell? a1=some u1/\w'.cell? a2=some u2/\w'.cell? a3=some u3/\w'.cell? a4=some u4/\w'.cell? a5=some u5/\w'.cell? a6=some u6/\w'.cell? a7=some u7/\w'.cell? a8=some u8:=⟨ce1 hb h0,ce1 hb h1,ce1 hb h2,ce1 hb h3,ce1 hb h4,ce1 hb h5,ce1 hb h6,ce1 hb h7,ce1 hb h8⟩
theorem CY {w w':World} (hb:Below w.heap.size w w') {a0 a1 a2 a3 a4 a5 a6 a7 a8 a9:Addr} {u0 u1 u2 u3 u4 u5 u6 u7 u8 u9:Value} (h0:w.cell? a0=some u0) (h1:w.cell? a1=some u1) (h2:w.cell? a2=some u2) (h3:w.cell? a3=some u3) (h4:w.cell? a4=some u4) (h5:w.cell? a5=some u5) (h6:w.cell? a6=some u6) (h7:w.cell? a7=some u7) (h8:w.cell? a8=some u8) (h9:w.cell? a9=some u9):w'.cell? a0=some u0/\w'.cell? a1=some u1/\w'.cell? a2=some u2/\w'.cell? a3=some u3/\w'.cell? a4=some u4/\w'.cell? a5=some u5/\w'.cell? a6=some u6/\w'.cell? a7=some u7/\w'.cell? a8=some u8/\w'.cell? a9=some u9:=⟨ce1 hb h0,ce1 hb h1,ce1 hb h2,ce1 hb h3,ce1 hb h4,ce1 hb h5,ce1 hb h6,ce1 hb h7,ce1 hb h8,ce1 hb h9⟩
theorem cn3 {w:World} {n:Nat} {a0 a1 a2:Addr} {u0 u1 u2:Value} (h0:w.cell? a0=some u0) (h1:w.cell? a1=some u1) (h2:w.cell? a2=some u2):(w.drewN n).cell? a0=some u0/\(w.drewN n).cell? a1=some u1/\(w.drewN n).cell? a2=some u2:=⟨h0,h1,h2⟩
theorem Db {w:World} {n:Nat} {a0 a1 a2 a3 a4 a5 a6 a7 a8 a9:Addr} {u0 u1 u2 u3 u4 u5 u6 u7 u8 u9:Value} (h0:w.cell? a0=some u0) (h1:w.cell? a1=some u1) (h2:w.cell? a2=some u2) (h3:w.cell? a3=some u3) (h4:w.cell? a4=some u4) (h5:w.cell? a5=some u5) (h6:w.cell? a6=some u6) (h7:w.cell? a7=some u7) (h8:w.cell? a8=some u8) (h9:w.cell? a9=some u9):(w.drewN n).cell? a0=some u0/\(w.drewN n).cell? a1=some u1/\(w.drewN n).cell? a2=some u2/\(w.drewN n).cell? a3=some u3/\(w.drewN n).cell? a4=some u4/\(w.drewN n).cell? a5=some u5/\(w.drewN n).cell? a6=some u6/\(w.drewN n).cell? a7=some u7/\(w.drewN n).cell? a8=some u8/\(w.drewN n).cell? a9=some u9:=⟨h0,h1,h2,h3,h4,h5,h6,h7,h8,h9⟩
theorem bA (w:World) (o:Obj):Below w.heap.size w (w.alloc o):=(Below.refl _ w).alloc (Nat.le_refl _) o
theorem bD (w:World):Below w.heap.size w w.drew:=(Below.refl _ w).drew
theorem bL {w:World} {a:Addr} {u:Value} (h:w.cell? a=some u):a.block < w.heap.size:=World.block_lt_of_cell? w _ h
theorem orT {A B C E:Prop} (h:(A/\E)\/(B/\C)) (hb:¬ B:=by (intro h;cases h)):E:=h.elim (fun h=>h.2) (fun h=>absurd h.1 hb)
end Go.Proofs.YtfffpjkcfnekaaaGreat
namespace Go.Proofs.YtfffpjkcfnekaaaGreat.Ex
open Go.RowKit Go.ChangeShapes Go.WideShapes
open Go.Value renaming slice -> O, int -> zd, bool -> zg, agg -> zh, pointer -> zj, tuple -> zm
open Go.IntKind renaming i64 -> U
open Go.Obj renaming cells -> ze
open Go.Ending renaming returned -> zk
theorem Tryz.cellsX:Tryz.prog.cellsOf 94=3:=by kernel_rfl
theorem Tryz.cellsXs:Tryz.prog.cellsOf 92=1:=by kernel_rfl
theorem Tryz.cellsI:Tryz.prog.cellsOf 3=1:=by kernel_rfl
abbrev D:=DataW Empty
def xD (k n:Int) (args:List D):D:=.agg [.lit (.int U k),.lit (.int U n),.slice args []]
def XS (size:Nat) (R:List Value->D->Prop) (w:World) (v:Value) (ds:List D):Prop:=
 ds.length<=maxLen/\∃ ao cap,v=O ao ds.length cap/\(ds≠[]->∃ b off,ao=some ⟨b,off,none⟩ /\
  ∀ (i:Nat) (d:D),ds[i]? = some d->∃ cs:List Value,cs.length=size/\(∀ (j:Nat) (u:Value),cs[j]? = some u->w.cell? ⟨b,off+i*size+j,none⟩=some u)/\R cs d)
def Cq (n:Int):Prop:=-9223372036854775808<=n/\n<=9223372036854775807
theorem Q7 {n:Int} (h:(Lit.int U n).wf=true):Cq n:=by
 have b:(decide (IntKind.i64.min<=n) && decide (n<=IntKind.i64.max))=true:=h;rw [Bool.and_eq_true,decide_eq_true_iff,decide_eq_true_iff] at b;exact b
def RX (w:World):Nat->List Value->D->Prop
 | 0,_,_=>False
 | k+1,cs,d=>∃ (kd n:Int) (v:Value) (ds:List D),cs=[zd U kd,zd U n,v]/\d=xD kd n ds/\Cq kd/\Cq n/\XS 3 (RX w k) w v ds
theorem XS.mono {size:Nat} {R R':List Value->D->Prop} {w w':World} {v:Value} {ds:List D} (h:XS size R w v ds)
  (hw:∀ a u,w.cell? a=some u->w'.cell? a=some u) (hR:∀ cs d,d∈ds->R cs d->R' cs d):XS size R' w' v ds:=by
 obtain ⟨t,z,k,p,y⟩:=h;refine ⟨t,z,k,p,fun c=>?_⟩;obtain ⟨b,off,g,e⟩:=y c;refine ⟨b,off,g,fun i d l=>?_⟩;obtain ⟨cs,hl,f,s⟩:=e i d l;exact ⟨cs,hl,fun j u q=>hw _ _ (f j u q),hR cs d (List.mem_of_getElem? l) s⟩
theorem RX.mono {w w':World} (hw:∀ a u,w.cell? a=some u->w'.cell? a=some u) :
  ∀ (k m:Nat) (cs:List Value) (d:D),k<=m->RX w k cs d->RX w' m cs d:=by
 intro k
 induction k with
 | zero=>intro m cs d _ h;exact h.elim
 | succ k ih=>
  intro m cs d g h;obtain ⟨b,rfl⟩:∃ b,m=b + 1:=⟨m - 1,by omega⟩;obtain ⟨e,n,v,s,c,l,q,p,f⟩:=h;exact ⟨e,n,v,s,c,l,q,p,f.mono hw (fun cs d _ i=>ih b cs d (by omega) i)⟩
theorem FT {H:Type} {enc:TypeId × Value->H} {W:World}:∀ (fuel:Nat) (cs:List Value) (x:DataW H × List MemPlace),DataW.trod enc Tryz.prog W 0 (fun _=>true) true fuel 94 cs=some x->∃ d,RX W fuel cs d:=by
 intro fuel
 induction fuel using Nat.strongRecOn with
 | ind fuel ih=>
  intro cs x h;obtain ⟨R,n,rfl,hx,hl,E,k⟩:=DataW.trod_struct Tryz.underlying94 h;rw [Tryz.cellsX] at hl
  match cs,hl,R,E with
  | [c0,c1,c2],_,[y0,y1,y2],_=>
   have C:=k 0 _ rfl;have O:=k 1 _ rfl;have N:=k 2 _ rfl;simp [Tryz.cellsI,Tryz.cellsXs] at C O N;obtain ⟨a,Q,T⟩:=DataW.trod_int Tryz.underlying3 C;obtain ⟨b,P,S⟩:=DataW.trod_int Tryz.underlying3 O;simp at Q P;subst Q;subst P;have L:Cq a:=Q7 T.2;have K:Cq b:=Q7 S.2;rcases DataW.trod_slice Tryz.underlying92 N with ⟨c,-⟩ | ⟨A,len,J,I,M,m,rfl,c,-,-,Y,ab,aa,z,-,-⟩
   ·simp at c
    subst c;exact ⟨xD a b [],a,b,_,[],rfl,rfl,L,K,by simp,none,0,rfl,fun h=>absurd rfl h⟩
   ·simp at c
    subst c;rw [Tryz.cellsX] at z;have s:∀ i,i < len->∃ d:D,∃ cs:List Value,cs.length=3/\(∀ (j:Nat) (u:Value),cs[j]? = some u->W.cell? (A.add (i*3+j))=some u)/\RX W (m+1) cs d:=fun i B=>by
     have q:=z i B;rw [List.getElem?_eq_getElem (by omega),Option.bind_eq_some_iff] at q;obtain ⟨cs,y,U⟩:=q;obtain ⟨-,p,e⟩:=World.cells?_some y;obtain ⟨d,t⟩:=ih m (by omega) cs _ U;refine ⟨d,cs,p,fun j u g=>?_,RX.mono (fun _ _ h=>h) m (m+1) cs d (by omega) t⟩;have Z:j < 3:=by have:=(List.getElem?_eq_some_iff.1 g).1;omega
     have hk:=e j Z;rw [g] at hk;rw [Addr.add_add] at hk;exact hk
    obtain ⟨f,k⟩:=Deep.choose_lt s;refine ⟨xD a b ((List.range len).map f),a,b,_,(List.range len).map f,rfl,rfl,L,K,by simp;omega,some A,J,by simp,fun F=>?_⟩;have C:0 < len:=by
     rcases Nat.eq_zero_or_pos len with h | h
     ·subst h;simp at F
     ·exact h
    have X:∃ b off,A=⟨b,off,none⟩:=by
     obtain ⟨cs,hl,y,-⟩:=k 0 C;obtain ⟨u,g⟩:∃ u,cs[0]? = some u:=⟨cs[0]'(by omega),List.getElem?_eq_getElem (by omega)⟩;have hk:=y 0 u g;have l:A.spot=none:=by simpa [Addr.add] using World.cell?_spot hk
     obtain ⟨b,off,sp⟩:=A;simp only at l;subst l;exact ⟨b,off,rfl⟩
    obtain ⟨bb,off,rfl⟩:=X;refine ⟨bb,off,rfl,fun i d t=>?_⟩;have B:i < len:=by
     have:=(List.getElem?_eq_some_iff.1 t).1;simpa using this
    have G:d=f i:=by
     rw [List.getElem?_map,List.getElem?_range B] at t;simpa using t.symm
    subst G;obtain ⟨cs,hl,y,V⟩:=k i B;exact ⟨cs,hl,fun j u g=>by have:=y j u g;rw [Addr.add_lit] at this;simpa [Nat.add_assoc] using this,V⟩
end Go.Proofs.YtfffpjkcfnekaaaGreat.Ex
namespace Go.Proofs.YtfffpjkcfnekaaaGreat.Ex
open Go.RowKit
open Go.Value renaming slice -> O, int -> zd, bool -> zg, agg -> zh, pointer -> zj, tuple -> zm
open Go.IntKind renaming i64 -> U
open Go.Obj renaming cells -> ze
open Go.Ending renaming returned -> zk
theorem Aa {p:Prop} (h:p):Hx p:=h
theorem CQ (x a b:Int) (w:World) :
  Calls Tryz.prog 76 #[zd U x,zd U a,zd U b] w fun e w'=>e=zk (zg (decide (a<=x/\x<=b)))/\w'=w:=by
 by_cases h1:a<=x
 ·by_cases h2:x<=b
  ·go_enter Tryz.func76,Tryz.ntmps76
   go_wp2
   go_ret;exact ⟨by simp;omega,rfl⟩
  ·go_enter Tryz.func76,Tryz.ntmps76
   go_wp2
   go_ret;exact ⟨by simp;omega,rfl⟩
 ·go_enter Tryz.func76,Tryz.ntmps76
  go_wp2
  go_ret;exact ⟨by simp;omega,rfl⟩
theorem Am {W w1:World} (hb:Ov W w1):(∀ b o,b < W.heap.size->w1.cell? ⟨b,o,none⟩=W.cell? ⟨b,o,none⟩)/\(∀ b o,b < W.heap.size->w1.frozen? ⟨b,o,none⟩=W.frozen? ⟨b,o,none⟩):=
 ⟨fun b o h=>hb.cell (p:=⟨b,o,none⟩) h,fun b o h=>hb.frozen (p:=⟨b,o,none⟩) h⟩
theorem Ab {w w':World} (hb:Ov w w') (a:Addr) (u:Value) (h:w.cell? a=some u):w'.cell? a=some u:=by
 rw [hb.cell (bL h)];exact h
theorem RX.over {w w':World} {k:Nat} {cs:List Value} {d:D} (h:RX w k cs d) (hb:Ov w w'):RX w' k cs d:=RX.mono (Ab hb) k k cs d (Nat.le_refl _) h
def AC:D->List D
 | .agg [_,_,.slice l _]=>l
 | _=>[]
def AD:D->Int
 | .agg (.lit (.int _ n)::_)=>n
 | _=>0
def A5:D->Int
 | .agg (_::.lit (.int _ n)::_)=>n
 | _=>0
@[simp] theorem SW (k n:Int) (l:List D):AC (xD k n l)=l:=rfl
@[simp] theorem SC (k n:Int) (l:List D):AD (xD k n l)=k:=rfl
@[simp] theorem S8 (k n:Int) (l:List D):A5 (xD k n l)=n:=rfl
theorem RX.form {w:World} {k:Nat} {cs:List Value} {d:D} (h:RX w k cs d):∃ ao cap,cs=[zd U (AD d),zd U (A5 d),O ao (AC d).length cap]:=by
 cases k with
 | zero=>exact h.elim
 | succ k=>
  obtain ⟨b,n,v,c,rfl,rfl,-,-,-,ao,cap,rfl,-⟩:=h;exact ⟨ao,cap,rfl⟩
def Ba (f:D->Int->Int) (m:Int):List D->Int->Int
 | [],n=>n
 | a::l,n=>if n<=m then Ba f m l (n+f a (m - n)) else n
def Bm:Nat->D->Int->Int
 | 0,_,_=>1
 | k+1,d,m=>Ba (Bm k) m (AC d) 1
theorem Gl (f:D->Int->Int) (hf:∀ d m,0<=m->1<=f d m/\f d m<=m+1) (m:Int):∀ (l:List D) (n:Int),1<=n->n<=m+1->1<=Ba f m l n/\Ba f m l n<=m+1
 | [],n,h1,h2=>⟨h1,h2⟩
 | a::l,n,h1,h2=>by
  unfold Ba;split
  ·have:=hf a (m - n) (by omega)
   exact Gl f hf m l _ (by omega) (by omega)
  ·exact ⟨h1,h2⟩
theorem EK:∀ (k:Nat) (d:D) (m:Int),0<=m->1<=Bm k d m/\Bm k d m<=m+1
 | 0,_,m,h=>by unfold Bm;omega
 | k+1,d,m,h=>Gl _ (EK k) m _ 1 (by omega) (by omega)
theorem E4 (f:D->Int->Int) (m:Int) (l) (n:Int) (h:m < n):Ba f m l n=n:=by
 cases l with
 | nil=>rfl
 | cons a l=>unfold Ba;rw [if_neg (by omega)]
theorem E3 {f:D->Int->Int} {m n:Int} {l:List D} {j:Nat} (hj:j < l.length) (h:n<=m):Ba f m (l.drop j) n=Ba f m (l.drop (j+1)) (n+f l[j] (m - n)):=by
 rw [List.drop_eq_getElem_cons hj];rw [Ba,if_pos h]
theorem MZ:∀ (k:Nat) (cs:List Value) (d:D) (w:World) (m:Int),RX w k cs d->0<=m->m<=15 ->
  Calls Tryz.prog 159 #[.agg cs.toArray,zd U m] w fun e w'=>e=zk (zd U (Bm k d m))/\Ov w w':=by
 intro k
 induction k with
 | zero=>intro cs d w m h;exact h.elim
 | succ k ih=>
  intro cs d w m h m0 m1;obtain ⟨Q,n,v,l,rfl,rfl,S,hn,A,W,E,rfl,hc⟩:=h;have HC:=Aa hc;have IH:=Aa ih;have HL:l.length<=9223372036854775807:=A;have q:Bm (k+1) (xD Q n l) m=Ba (Bm k) m l 1:=rfl;rw [q];have B:Ov w (w.alloc (ze #[zd U Q,zd U n,O W l.length E] 94)):=bA w _;clear hc ih q S hn A;show Calls Tryz.prog 159 #[zh #[zd U Q,zd U n,O W l.length E],zd U m] w _;go_enter Tryz.func159,Tryz.ntmps159;go_wp2_with fail;go_loopw [5,6] (fun c i wr=>∃ (j:Nat) (t:Int),j<=l.length/\i=zd U j/\c=zd U t/\1<=t/\t<=m+1/\Ba (Bm k) m l 1=Ba (Bm k) m (l.drop j) t/\wr.cell? ⟨w.heap.size,2,none⟩=some (O W l.length E)/\Ov w wr) (fun _ i _=>l.length - (intOf i).toNat)
  case atStart=>exact ⟨0,1,Nat.zero_le _,rfl,rfl,by omega,by omega,rfl,by simp [go_sem],B⟩
  case round=>
   clear B;obtain ⟨j,t,hj,rfl,rfl,t1,t2,Z,c2,z⟩:=hrel;have X:=Aa Z;clear Z;by_cases hjl:j < l.length
   ·by_cases htm:t<=m
    ·obtain ⟨b,off,rfl,M⟩:=HC.o (by rintro rfl;simp at hjl)
     obtain ⟨cs,R,y,P⟩:=M j l[j] (List.getElem?_eq_getElem hjl);have g:=E3 (f:=Bm k) hjl htm;have I:=EK k l[j] (m - t) (by omega);obtain ⟨ai,ab,s⟩:=P.form;obtain ⟨N,K⟩:=nm (l[j]);rw [<-K] at g I P s;obtain ⟨kj,J⟩:=nm (AD N);obtain ⟨nj,G⟩:=nm (A5 N);obtain ⟨lj,H⟩:=nm ((AC N).length);rw [<-J,<-G,<-H] at s;subst s;have q0:wr.cell? ⟨b,off+j*3,none⟩=_:=Ab z _ _ (y 0 _ rfl);have q1:=Ab z _ _ (y 1 _ rfl);have q2:=Ab z _ _ (y 2 _ rfl);have p:=IH.o _ N wr (m - t) (P.over z) (by omega) (by omega);obtain ⟨r,F⟩:=nm (Bm k N (m - t));rw [<-F] at p g I;have u:=Aa p;have HN:=Aa g;clear p g F J G H P y M R K;go_wp2_with fail;refine (u.o).mono ?_;rintro e w1 ⟨rfl,C⟩;have V:=Ab C _ _ c2;have T:Ov w w1:=z.trans (C.mono z.size);clear c2 q0 q1 q2 z C u;go_wp2_with fail;exact ⟨⟨j+1,t+r,by omega,by go_num,by go_num,by omega,by omega,by rw [X.o,HN.o],V,T⟩,by simp [intOf];omega⟩
    ·have L:=E4 (Bm k) m (l.drop j) t (by omega)
     have Y:=Aa L;clear L;go_wp2_with fail;go_ret;exact ⟨by rw [X.o,Y.o];rfl,z⟩
   ·have L:Ba (Bm k) m (l.drop j) t=t:=by rw [List.drop_eq_nil_of_le (by omega)];rfl
    have Y:=Aa L;clear L;go_wp2_with fail;go_ret;exact ⟨by rw [X.o,Y.o];rfl,z⟩
def AQ (w:World) (v:Value) (l:List Int):Prop:=
 ∃ ao cap,v=O ao l.length cap/\(l≠[]->∃ b off,ao=some ⟨b,off,none⟩/\∀ i (h:i < l.length),w.cell? ⟨b,off+i,none⟩=some (zd U l[i]))
theorem AQ.over {w w':World} {v:Value} {l:List Int} (h:AQ w v l) (hb:Ov w w'):AQ w' v l:=by
 obtain ⟨q,f,g,p⟩:=h;refine ⟨q,f,g,fun c=>?_⟩;obtain ⟨b,off,e,d⟩:=p c;exact ⟨b,off,e,fun i k=>Ab hb _ _ (d i k)⟩
theorem below_drewN {W w:World} {n:Nat} (h:Below n W w) (k:Nat):Below n W (w.drewN k):=by
 induction k with
 | zero=>exact h
 | succ k ih=>exact ih.drew
theorem GN {W W':World} {B e s:Nat} {v:Value} {k:Nat} {xs:List Value} (h:W.ownsRow B e s v k xs) (hb:Ov W W'):W'.ownsRow B e s v k xs:=by
 obtain ⟨p,b⟩:=h;refine ⟨p,?_⟩;rcases b with b | ⟨g,d,c,i,l,f,r⟩
 ·exact Or.inl b
 ·refine Or.inr ⟨g,d,c,i,l,?_,r⟩
  rw [hb.block g (Array.getElem?_eq_some_iff.1 f).1];exact f
theorem OH {W:World} {B B' e s:Nat} {v:Value} {k:Nat} {xs:List Value} (h:W.ownsRow B e s v k xs) (hb:B'<=B):W.ownsRow B' e s v k xs:=by
 obtain ⟨l,b⟩:=h;refine ⟨l,?_⟩;rcases b with b | ⟨g,d,c,f,i,r⟩
 ·exact Or.inl b
 ·exact Or.inr ⟨g,d,c,f,Nat.le_trans hb i,r⟩
theorem E9 {W:World} {B e s:Nat} {v:Value} {k:Nat} {xs:List Value} (h:W.ownsRow B e s v k xs) {g:Nat} (hg:v.ownBlock=some g):B<=g/\g < W.heap.size:=by
 rcases h.2 with ⟨rfl,_⟩ | ⟨i,f,d,rfl,b,c,_⟩
 ·cases hg
 ·simp [Value.ownBlock] at hg
  subst hg;exact ⟨b,(Array.getElem?_eq_some_iff.1 c).1⟩
theorem Bz {B e s:Nat} {W W':World} {v:Value} {k:Nat} {xs:List Value} (h:W.ownsRow B e s v k xs) (hg:W.grownBy W' v.ownBlock) (hB:B<=W.heap.size):Below B W W':=
 ⟨hg.os,hg.tape,hg.output,hg.size,fun j hj=>hg.block j (Nat.lt_of_lt_of_le hj hB) (fun e=>by have:=(E9 h e.symm).1;omega)⟩
def Cw:List D->List Value->Prop
 | [],xs=>xs=[]
 | d::l,xs=>∃ (ao:Option Addr) (cap:Nat) (r:List Value),xs=zd U (AD d)::zd U (A5 d)::O ao (AC d).length cap::r/\Cw l r
theorem Cw.append:∀ {l l':List D} {xs xs':List Value},Cw l xs->Cw l' xs'->Cw (l++l') (xs++xs')
 | [],_,_,_,h,h'=>by have e:_=_:=h;subst e;exact h'
 | d::l,_,_,_,h,h'=>by
  obtain ⟨ao,cap,r,rfl,hr⟩:=h;exact ⟨ao,cap,r++_,rfl,hr.append h'⟩
theorem Cw.one:∀ {l:List D} {xs:List Value},Cw l xs->∀ u∈xs,u.oneCell'=true
 | [],_,h,u,hu=>by have e:_=_:=h;subst e;cases hu
 | d::l,_,h,u,hu=>by
  obtain ⟨ao,cap,r,rfl,hr⟩:=h;simp only [List.mem_cons] at hu;rcases hu with rfl | rfl | rfl | hu
  ·rfl
  ·rfl
  ·rfl
  ·exact hr.one u hu
theorem Cw.length:∀ {l:List D} {xs:List Value},Cw l xs->xs.length=l.length*3
 | [],_,h=>by have e:_=_:=h;subst e;rfl
 | d::l,_,h=>by
  obtain ⟨ao,cap,r,rfl,hr⟩:=h;have:=hr.length;simp;omega
def AO:Nat->D->List D
 | 0,_=>[]
 | k+1,d=>d::(AC d).flatMap (AO k)
theorem FX {w:World} {k:Nat} {cs:List Value} {d:D} (h:RX w k cs d):0 < (AO k d).length:=by
 cases k with
 | zero=>exact h.elim
 | succ k=>simp [AO]
theorem EL {W:World} {B e:Nat} {v:Value} {n:Nat} {xs:List Value} (h:W.ownsRow B e 3 v n xs) (hn:0 < n):∃ g cap,v=O (some ⟨g,0,none⟩) n cap/\B<=g/\g < W.heap.size/\∀ j u,xs[j]? = some u->W.cell? ((⟨g,0,none⟩:Addr).add j)=some u:=by
 rcases h.2 with ⟨_,s⟩ | ⟨g,cap,k,d,f,c,q,p,l,i⟩
 ·omega
 ·refine ⟨g,cap,d,f,(Array.getElem?_eq_some_iff.1 c).1,fun j u b=>?_⟩
  rw [Addr.add_lit,Lib.cell_of_heap c];rw [<-i,List.getElem?_take] at b;split at b
  ·simpa using b
  ·cases b
theorem Tryz.infoX:(Tryz.prog.info? 94).map (fun i=>(i.zero,i.size,i.bytes))=some (some (zh #[zd U 0,zd U 0,O none 0 0]),3,40):=by kernel_rfl
theorem M5 (w:World) (x y z:Value) (B:Nat) (hB:B<=w.heap.size):(w.alloc (ze #[x,y,z] 94)).ownsRow B 94 3 (O (some ⟨w.heap.size,0,none⟩) 1 1) 1 [x,y,z]:=
 ⟨rfl,Or.inr ⟨w.heap.size,1,#[x,y,z],rfl,hB,heap_alloc_new w _,Nat.le_refl _,by decide,rfl,rfl⟩⟩
theorem Qz:∀ (k:Nat) (cs:List Value) (d:D) (w:World),RX w k cs d->(AO k d).length<=15 ->
  Calls Tryz.prog 160 #[.agg cs.toArray] w fun e w'=>∃ v xs,e=zk v/\w'.ownsRow w.heap.size 94 3 v (AO k d).length xs/\Cw (AO k d) xs/\Ov w w':=by
 intro k
 induction k with
 | zero=>intro cs d w h;exact h.elim
 | succ k ih=>
  intro cs d w h hm;obtain ⟨y,n,v,c,rfl,rfl,a4,hn,R,N,l,rfl,hc⟩:=h;obtain ⟨i0,hi,a1,a0,az⟩:=info_parts Tryz.infoX;have HC:=Aa hc;have IH:=Aa ih;have HL:c.length<=9223372036854775807:=R;have B:AO (k+1) (xD y n c)=xD y n c::c.flatMap (AO k):=rfl;rw [B] at hm ⊢;have ak:∀ j,j<=c.length->(xD y n c::(c.take j).flatMap (AO k)).length<=15:=fun j hj=>by
   have h2:c.flatMap (AO k)=(c.take j).flatMap (AO k)++(c.drop j).flatMap (AO k):=by rw [<-List.flatMap_append,List.take_append_drop]
   rw [h2] at hm;simp only [List.length_cons,List.length_append] at hm ⊢;omega
  have HM:=Aa ak;clear hc ih B a4 hn R ak;obtain ⟨P,A⟩:=nm (w.alloc (ze #[zd U y,zd U n,O N c.length l] 94));have J:Ov w P:=by rw [A];exact bA w _
  have ag:P.heap.size=w.heap.size+1:=by rw [A];simp
  have ar:P.cell? ⟨w.heap.size,2,none⟩=some (O N c.length l):=by rw [A];simp [go_sem]
  have ad:Ov P (P.alloc (ze #[zd U y,zd U n,O N c.length l] 94)):=bA P _;have V:=Ab ad _ _ ar;have F:=M5 P (zd U y) (zd U n) (O N c.length l) (w.heap.size+1) (by omega);have au:Ov w (P.alloc (ze #[zd U y,zd U n,O N c.length l] 94)):=J.trans (ad.mono J.size);have HS:=Aa (And.intro F (And.intro V au));rw [A] at HS;clear ad ar V F au J ag A;show Calls Tryz.prog 160 #[zh #[zd U y,zd U n,O N c.length l]] w _;go_enter Tryz.func160,Tryz.ntmps160;go_wp2_with fail;go_loopw [3,4] (fun ay i wr=>∃ (j:Nat) (xs:List Value),j<=c.length/\i=zd U j/\wr.ownsRow (w.heap.size+1) 94 3 ay (xD y n c::(c.take j).flatMap (AO k)).length xs/\Cw (xD y n c::(c.take j).flatMap (AO k)) xs/\wr.cell? ⟨w.heap.size,2,none⟩=some (O N c.length l)/\Ov w wr) (fun _ i _=>c.length - (intOf i).toNat)
  case atStart=>
   obtain ⟨h1,h2,h3⟩:=HS.o;refine ⟨0,[zd U y,zd U n,O N c.length l],Nat.zero_le _,rfl,?_,⟨N,l,[],rfl,rfl⟩,h2,h3⟩;simpa using h1
  case round=>
   clear HS;obtain ⟨j,xs,hj,rfl,f,z,c2,W⟩:=hrel;by_cases hjl:j < c.length
   ·obtain ⟨b,off,rfl,an⟩:=HC.o (by rintro rfl;simp at hjl)
    obtain ⟨cs,a3,L,hr⟩:=an j c[j] (List.getElem?_eq_getElem hjl);have aa:=HM.o (j+1) hjl;have Z:(c.take (j+1)).flatMap (AO k)=(c.take j).flatMap (AO k)++AO k c[j]:=by
     rw [List.take_succ_eq_append_getElem hjl,List.flatMap_append];simp
    rw [Z] at aa;have af:=Aa Z;have Q:=FX hr;obtain ⟨b3,bl,G⟩:=hr.form;obtain ⟨dj,aq⟩:=nm (c[j]);rw [<-aq] at hr G Q aa af;obtain ⟨ax,q⟩:=nm (xD y n c::(c.take j).flatMap (AO k));rw [<-List.cons_append,<-q,List.length_append] at aa;rw [<-q] at f z;obtain ⟨kj,am⟩:=nm (AD dj);obtain ⟨nj,aj⟩:=nm (A5 dj);obtain ⟨lj,al⟩:=nm ((AC dj).length);rw [<-am,<-aj,<-al] at G;subst G;have q0:wr.cell? ⟨b,off+j*3,none⟩=_:=Ab W _ _ (L 0 _ rfl);have q1:=Ab W _ _ (L 1 _ rfl);have q2:=Ab W _ _ (L 2 _ rfl);have H:=IH.o _ dj wr (hr.over W) (by omega);have K:=Aa H;have X:=Aa q;have Y:=Aa f;have s:0 < ax.length:=by rw [q];simp
    obtain ⟨g,gc,ab,a6,a5,ac⟩:=EL f s;clear H am aj al hr L an a3 aq Z q f ac;subst ab;go_wp2_with fail;refine (K.o).mono ?_;rintro e w1 ⟨v1,ys,rfl,E,u,M⟩;obtain ⟨g1,a9,rfl,bi,bh,T⟩:=EL E Q;have ae:=Ab M _ _ c2;have av:Ov w w1:=W.trans (M.mono W.size);have t:=GN Y.o M;have ah:w.heap.size+1<=w1.heap.size:=bL ae;clear c2 q0 q1 q2 W M K Y;go_wp2_with (at_builtin;refine wpList_append_own _ rfl _ _ 92 rfl (w.heap.size+1) 94 i0 (zh #[zd U 0,zd U 0,O none 0 0]) 3 40 Tryz.underlying92 hi a1 a0 az rfl (by decide) _ _ _ rfl t ⟨g1,0,none⟩ (AO k dj).length a9 ys rfl u.length T u.one (by unfold maxLen;omega) (by omega) ah ?_);intro v2 w2 C S _;have I:=Bz t S ah;have c3:w2.cell? ⟨w.heap.size,2,none⟩=some (O (some ⟨b,off,none⟩) c.length l):=by
     rw [I.cell (p:=⟨w.heap.size,2,none⟩) (Nat.lt_succ_self _)];exact ae
    have a7:Ov w w2:=av.trans (I.mono (Nat.le_succ _));have HF:=Aa (And.intro C (z.append u));clear ae t C S I av E u T z;go_wp2_with fail;refine ⟨⟨j+1,xs++ys,by omega,by go_num,?_,?_,c3,a7⟩,by simp [intOf];omega⟩
    ·rw [af.o,<-List.cons_append,<-X.o,List.length_append]
     exact HF.o.1
    ·rw [af.o,<-List.cons_append,<-X.o]
     exact HF.o.2
   ·have hd:(c.take j).flatMap (AO k)=c.flatMap (AO k):=by rw [List.take_of_length_le (by omega)]
    rw [hd] at f z;have HO:=Aa f;have bd:=Aa z;have s:0 < (xD y n c::c.flatMap (AO k)).length:=by simp
    obtain ⟨g,gc,ab,a6,a5,ac⟩:=EL f s;subst ab;clear hd f z ac;go_wp2_with fail;go_ret;exact ⟨_,xs,rfl,OH HO.o (by omega),bd.o,W⟩
def BC (vars k n:Int) (l:Nat):Int:=
 if ¬ (1<=k/\k<=7) then 7 else if k<=2/\l≠0\/2 < k/\l≠2 then 1 else if k=1/\¬ (-9999999<=n/\n<=9999999)\/2 < k/\n≠0 then 3 else if k=2/\¬ (0<=n/\n<=vars - 1) then 5 else 0
def Bf (vars:Int):List D->Int
 | []=>0
 | d::l=>if BC vars (AD d) (A5 d) (AC d).length=0 then Bf vars l else BC vars (AD d) (A5 d) (AC d).length
def AF (vars:Int) (k:Nat) (d:D):Int:=if 15 < Bm k d 15 then 2 else Bf vars (AO k d)
theorem Kd {vars:Int} {l:List D} {j:Nat} (hj:j < l.length):Bf vars (l.drop j)=if BC vars (AD l[j]) (A5 l[j]) (AC l[j]).length=0 then Bf vars (l.drop (j+1)) else BC vars (AD l[j]) (A5 l[j]) (AC l[j]).length:=by
 rw [List.drop_eq_getElem_cons hj];rfl
theorem Cw.at:∀ {l:List D} {xs:List Value},Cw l xs->∀ (j:Nat) (hj:j < l.length),∃ (ao:Option Addr) (cap:Nat),xs[j*3]? = some (zd U (AD l[j]))/\xs[j*3+1]? = some (zd U (A5 l[j]))/\xs[j*3+2]? = some (O ao (AC l[j]).length cap)
 | d::l,_,h,0,hj=>by
  obtain ⟨ao,cap,r,rfl,hr⟩:=h;exact ⟨ao,cap,rfl,rfl,rfl⟩
 | d::l,_,h,j+1,hj=>by
  obtain ⟨ao,cap,r,rfl,hr⟩:=h;obtain ⟨ao',cap',h0,h1,h2⟩:=hr.at j (by simpa using hj);refine ⟨ao',cap',?_,?_,?_⟩
  ·rw [Nat.succ_mul];exact h0
  ·rw [Nat.succ_mul];exact h1
  ·rw [Nat.succ_mul];exact h2
theorem FM (f:D->Int->Int) (g:D->List D) (hf:∀ d m,0<=m->f d m<=m->((g d).length:Int)<=f d m) (m:Int):∀ (l:List D) (n:Int),Ba f m l n<=m->((l.flatMap g).length:Int)+n<=Ba f m l n
 | [],n,_=>by simp [Ba]
 | a::l,n,h=>by
  rw [Ba] at h ⊢;split at h
  ·rename_i hn
   rw [if_pos hn];have h1:=FM f g hf m l _ h;have h2:(((a::l).flatMap g).length:Int)=((g a).length:Int)+((l.flatMap g).length:Int):=by simp
   have b:=hf a (m - n) (by omega) (by omega);omega
  ·omega
theorem FY:∀ (k:Nat) (d:D) (m:Int),0<=m->Bm k d m<=m->((AO k d).length:Int)<=Bm k d m
 | 0,_,m,_,h=>by simp [AO,Bm]
 | k+1,d,m,h0,h=>by
  have h1:=FM (Bm k) (AO k) (FY k) m (AC d) 1 h;have h2:((AO (k+1) d).length:Int)=(((AC d).flatMap (AO k)).length:Int)+1:=by simp [AO]
  rw [h2];exact h1
theorem btw {x a b:Int} {r:Bool} (h:decide (a<=x/\x<=b)=r):Hx (∀ W,Calls Tryz.prog 76 #[zd U x,zd U a,zd U b] W fun e w'=>e=zk (zg r)/\w'=W):=fun W=>h ▸ CQ x a b W
theorem BL (k:Nat) (cs:List Value) (d) (w:World) (vars:Int) (v0:0<=vars) (v1:vars<=9223372036854775807) (h:RX w k cs d) :
  Calls Tryz.prog 97 #[.agg cs.toArray,zd U vars] w fun e w'=>e=zk (zd U (AF vars k d))/\Ov w w':=by
 obtain ⟨ao,aa,rfl⟩:=h.form;obtain ⟨kd,ag⟩:=nm (AD d);obtain ⟨n,z⟩:=nm (A5 d);obtain ⟨dl,ai⟩:=nm ((AC d).length);rw [<-ag,<-z,<-ai] at h ⊢;clear ag z ai;obtain ⟨w0,B⟩:=nm (w.alloc (ze #[zd U kd,zd U n,O ao dl aa] 94));have A:Ov w w0:=by rw [B];exact bA w _
 have b0:w0.cell? ⟨w.heap.size,0,none⟩=some (zd U kd):=by rw [B];simp [go_sem]
 have b1:w0.cell? ⟨w.heap.size,1,none⟩=some (zd U n):=by rw [B];simp [go_sem]
 have b2:w0.cell? ⟨w.heap.size,2,none⟩=some (O ao dl aa):=by rw [B];simp [go_sem]
 have HP:=Aa (MZ k _ d w0 15 (h.over A) (by omega) (by omega));have HA:=Aa fun (W:World) (hB:Ov w W)=>Qz k _ d W (h.over hB);have M:=Aa (FY k d 15 (by omega));obtain ⟨pc,T⟩:=nm (Bm k d 15);have Z:AF vars k d=if 15 < pc then 2 else Bf vars (AO k d):=by rw [T];rfl
 have N:=FX h;obtain ⟨L,hL⟩:=nm (AO k d);rw [<-hL] at HA M N Z;rw [<-T] at HP M;rw [Z];clear Z T h hL;show Calls Tryz.prog 97 #[zh #[zd U kd,zd U n,O ao dl aa],zd U vars] w _;by_cases hp:15 < pc
 ·rw [if_pos hp]
  have HW:=Aa B;clear B;go_enter Tryz.func97,Tryz.ntmps97;go_wp2_with fail;rw [<-HW.o];refine (HP.o).mono ?_;rintro e w1 ⟨rfl,I⟩;have H:Ov w w1:=A.trans (I.mono A.size);go_wp2_with fail;go_ret;exact ⟨rfl,H⟩
 ·rw [if_neg hp]
  have HW:=Aa B;have af:=M.o (by omega);clear B M;go_enter Tryz.func97,Tryz.ntmps97;go_wp2_with fail;rw [<-HW.o];refine (HP.o).mono ?_;rintro e w1 ⟨rfl,I⟩;have H:Ov w w1:=A.trans (I.mono A.size);obtain ⟨d0,d1,d2⟩:=co3 I b0 b1 b2;have al:=Aa (HA.o w1 H (by omega));clear b0 b1 b2 A I HP HA HW w0;go_wp2_with fail;refine (al.o).mono ?_;rintro e w2 ⟨lv,xs,rfl,P,aj,ak⟩;have K:Ov w w2:=H.trans (ak.mono H.size);have a7:L.length<=15:=by omega
  ·obtain ⟨g,gc,rfl,bg,bf,ah⟩:=EL P N
   have az:=Aa aj;have ac:=Aa ah;clear P aj ah d0 d1 d2 H ak al af;go_wp2_with fail;go_loopw [6] (fun i wr=>∃ j:Nat,j<=L.length/\i=zd U j/\Bf vars L=Bf vars (L.drop j)/\Ov w2 wr) (fun i _=>L.length - (intOf i).toNat)
   case atStart=>exact ⟨0,Nat.zero_le _,rfl,rfl,Below.refl _ _⟩
   case round=>
    obtain ⟨j,hj,rfl,F,C⟩:=hrel;by_cases hjl:j < L.length
    ·rw [Kd hjl] at F
     obtain ⟨pa,ae,x0,x1,x2⟩:=az.o.at j hjl;obtain ⟨G,Y⟩:=nm (AD L[j]);obtain ⟨E,V⟩:=nm (A5 L[j]);obtain ⟨J,X⟩:=nm ((AC L[j]).length);rw [<-Y,<-V,<-X] at F;rw [<-Y] at x0;rw [<-V] at x1;rw [<-X] at x2;have y0:=Ab C _ _ (ac.o _ _ x0);have y1:=Ab C _ _ (ac.o _ _ x1);have y2:=Ab C _ _ (ac.o _ _ x2);rw [Addr.add_lit] at y0 y1 y2;have R:∀ wf,Ov wr wf->Ov w wf:=fun wf hb=>by
      have S:=K.trans (C.mono K.size);exact S.trans (hb.mono S.size)
     have Q:∀ wf,Ov wr wf->Ov w2 wf:=fun wf hb=>C.trans (hb.mono C.size);have p:Hx (∀ r,BC vars G E J=r->r≠0->Bf vars L=r):=fun r S h2=>by rw [F,S,if_neg h2]
     have s:Hx (BC vars G E J=0->Bf vars L=Bf vars (L.drop (j+1))):=fun S=>by rw [F,if_pos S]
     have y:=Aa R;have f:=Aa Q;clear F x0 x1 x2 Y V X R Q C;simp only [Nat.zero_add] at y0 y1 y2;by_cases hk:1<=G/\G<=7
     ·have u:=fun (q:Int) (S:1<=q/\q<=7)=>btw (x:=q) (a:=1) (b:=7) (r:=true) (decide_eq_true S)
      have l:Hx (Ov wr (wr.alloc (Obj.cells #[Value.int IntKind.i64 G,Value.int IntKind.i64 E,Value.slice pa J ae] 94))):=bA wr _;have u:=u G hk;rcases (by omega:G=1\/G=2\/G=3\/G=4\/G=5\/G=6\/G=7) with rfl | rfl | rfl | rfl | rfl | rfl | rfl
      ·by_cases hl:J=0
       ·subst hl
        by_cases z:-9999999<=E/\E<=9999999
        ·have K2:=btw (x:=E) (a:=-9999999) (b:=9999999) (r:=true) (decide_eq_true z)
         have c:=Aa (s.o (by simp [BC,z]));clear p s y;go_wp2_with fail;refine (u.o _).mono ?_;rintro e t ⟨rfl,rfl⟩;go_wp2_with fail;refine (K2.o _).mono ?_;rintro e t ⟨rfl,rfl⟩;go_wp2_with fail;exact ⟨⟨j+1,by omega,by go_num,c.o,f.o _ l.o⟩,by simp [intOf];omega⟩
        ·have K2:=btw (x:=E) (a:=-9999999) (b:=9999999) (r:=false) (decide_eq_false z)
         have c:=Aa (p.o 3 (by unfold BC;rw [if_neg (by omega),if_neg (by omega),if_pos (Or.inl ⟨rfl,z⟩)]) (by omega));clear p s f;go_wp2_with fail;refine (u.o _).mono ?_;rintro e t ⟨rfl,rfl⟩;go_wp2_with fail;refine (K2.o _).mono ?_;rintro e t ⟨rfl,rfl⟩;go_wp2_with fail;go_ret;exact ⟨by rw [c.o];rfl,y.o _ l.o⟩
       ·have c:=Aa (p.o 1 (by unfold BC;rw [if_neg (by omega),if_pos (by omega)]) (by omega))
        clear p s f;go_wp2_with fail;refine (u.o _).mono ?_;rintro e t ⟨rfl,rfl⟩;go_wp2_with fail;go_ret;exact ⟨by rw [c.o];rfl,y.o _ l.o⟩
      ·by_cases hl:J=0
       ·subst hl
        by_cases z:0<=E/\E<=vars - 1
        ·have K2:=btw (x:=E) (a:=0) (b:=vars - 1) (r:=true) (decide_eq_true z)
         have c:=Aa (s.o (by unfold BC;rw [if_neg (by omega),if_neg (by omega),if_neg (by omega),if_neg (by omega)]));clear p s y;go_wp2_with fail;refine (u.o _).mono ?_;rintro e t ⟨rfl,rfl⟩;go_wp2_with fail;refine (K2.o _).mono ?_;rintro e t ⟨rfl,rfl⟩;go_wp2_with fail;exact ⟨⟨j+1,by omega,by go_num,c.o,f.o _ l.o⟩,by simp [intOf];omega⟩
        ·have K2:=btw (x:=E) (a:=0) (b:=vars - 1) (r:=false) (decide_eq_false z)
         have c:=Aa (p.o 5 (by unfold BC;rw [if_neg (by omega),if_neg (by omega),if_neg (by omega),if_pos ⟨rfl,z⟩]) (by omega));clear p s f;go_wp2_with fail;refine (u.o _).mono ?_;rintro e t ⟨rfl,rfl⟩;go_wp2_with fail;refine (K2.o _).mono ?_;rintro e t ⟨rfl,rfl⟩;go_wp2_with fail;go_ret;exact ⟨by rw [c.o];rfl,y.o _ l.o⟩
       ·have c:=Aa (p.o 1 (by unfold BC;rw [if_neg (by omega),if_pos (by omega)]) (by omega))
        clear p s f;go_wp2_with fail;refine (u.o _).mono ?_;rintro e t ⟨rfl,rfl⟩;go_wp2_with fail;go_ret;exact ⟨by rw [c.o];rfl,y.o _ l.o⟩
      ·by_cases hl:J=2
       ·subst hl
        by_cases z:E=0
        ·subst z
         have c:=Aa (s.o (by unfold BC;rw [if_neg (by omega),if_neg (by omega),if_neg (by omega),if_neg (by omega)]));clear p s y;go_wp2_with fail;refine (u.o _).mono ?_;rintro e t ⟨rfl,rfl⟩;go_wp2_with fail;exact ⟨⟨j+1,by omega,by go_num,c.o,f.o _ l.o⟩,by simp [intOf];omega⟩
        ·have c:=Aa (p.o 3 (by unfold BC;rw [if_neg (by omega),if_neg (by omega),if_pos (by omega)]) (by omega))
         clear p s f;go_wp2_with fail;refine (u.o _).mono ?_;rintro e t ⟨rfl,rfl⟩;go_wp2_with fail;go_ret;exact ⟨by rw [c.o];rfl,y.o _ l.o⟩
       ·have c:=Aa (p.o 1 (by unfold BC;rw [if_neg (by omega),if_pos (by omega)]) (by omega))
        clear p s f;go_wp2_with fail;refine (u.o _).mono ?_;rintro e t ⟨rfl,rfl⟩;go_wp2_with fail;go_ret;exact ⟨by rw [c.o];rfl,y.o _ l.o⟩
      ·by_cases hl:J=2
       ·subst hl
        by_cases z:E=0
        ·subst z
         have c:=Aa (s.o (by unfold BC;rw [if_neg (by omega),if_neg (by omega),if_neg (by omega),if_neg (by omega)]));clear p s y;go_wp2_with fail;refine (u.o _).mono ?_;rintro e t ⟨rfl,rfl⟩;go_wp2_with fail;exact ⟨⟨j+1,by omega,by go_num,c.o,f.o _ l.o⟩,by simp [intOf];omega⟩
        ·have c:=Aa (p.o 3 (by unfold BC;rw [if_neg (by omega),if_neg (by omega),if_pos (by omega)]) (by omega))
         clear p s f;go_wp2_with fail;refine (u.o _).mono ?_;rintro e t ⟨rfl,rfl⟩;go_wp2_with fail;go_ret;exact ⟨by rw [c.o];rfl,y.o _ l.o⟩
       ·have c:=Aa (p.o 1 (by unfold BC;rw [if_neg (by omega),if_pos (by omega)]) (by omega))
        clear p s f;go_wp2_with fail;refine (u.o _).mono ?_;rintro e t ⟨rfl,rfl⟩;go_wp2_with fail;go_ret;exact ⟨by rw [c.o];rfl,y.o _ l.o⟩
      ·by_cases hl:J=2
       ·subst hl
        by_cases z:E=0
        ·subst z
         have c:=Aa (s.o (by unfold BC;rw [if_neg (by omega),if_neg (by omega),if_neg (by omega),if_neg (by omega)]));clear p s y;go_wp2_with fail;refine (u.o _).mono ?_;rintro e t ⟨rfl,rfl⟩;go_wp2_with fail;exact ⟨⟨j+1,by omega,by go_num,c.o,f.o _ l.o⟩,by simp [intOf];omega⟩
        ·have c:=Aa (p.o 3 (by unfold BC;rw [if_neg (by omega),if_neg (by omega),if_pos (by omega)]) (by omega))
         clear p s f;go_wp2_with fail;refine (u.o _).mono ?_;rintro e t ⟨rfl,rfl⟩;go_wp2_with fail;go_ret;exact ⟨by rw [c.o];rfl,y.o _ l.o⟩
       ·have c:=Aa (p.o 1 (by unfold BC;rw [if_neg (by omega),if_pos (by omega)]) (by omega))
        clear p s f;go_wp2_with fail;refine (u.o _).mono ?_;rintro e t ⟨rfl,rfl⟩;go_wp2_with fail;go_ret;exact ⟨by rw [c.o];rfl,y.o _ l.o⟩
      ·by_cases hl:J=2
       ·subst hl
        by_cases z:E=0
        ·subst z
         have c:=Aa (s.o (by unfold BC;rw [if_neg (by omega),if_neg (by omega),if_neg (by omega),if_neg (by omega)]));clear p s y;go_wp2_with fail;refine (u.o _).mono ?_;rintro e t ⟨rfl,rfl⟩;go_wp2_with fail;exact ⟨⟨j+1,by omega,by go_num,c.o,f.o _ l.o⟩,by simp [intOf];omega⟩
        ·have c:=Aa (p.o 3 (by unfold BC;rw [if_neg (by omega),if_neg (by omega),if_pos (by omega)]) (by omega))
         clear p s f;go_wp2_with fail;refine (u.o _).mono ?_;rintro e t ⟨rfl,rfl⟩;go_wp2_with fail;go_ret;exact ⟨by rw [c.o];rfl,y.o _ l.o⟩
       ·have c:=Aa (p.o 1 (by unfold BC;rw [if_neg (by omega),if_pos (by omega)]) (by omega))
        clear p s f;go_wp2_with fail;refine (u.o _).mono ?_;rintro e t ⟨rfl,rfl⟩;go_wp2_with fail;go_ret;exact ⟨by rw [c.o];rfl,y.o _ l.o⟩
      ·by_cases hl:J=2
       ·subst hl
        by_cases z:E=0
        ·subst z
         have c:=Aa (s.o (by unfold BC;rw [if_neg (by omega),if_neg (by omega),if_neg (by omega),if_neg (by omega)]));clear p s y;go_wp2_with fail;refine (u.o _).mono ?_;rintro e t ⟨rfl,rfl⟩;go_wp2_with fail;exact ⟨⟨j+1,by omega,by go_num,c.o,f.o _ l.o⟩,by simp [intOf];omega⟩
        ·have c:=Aa (p.o 3 (by unfold BC;rw [if_neg (by omega),if_neg (by omega),if_pos (by omega)]) (by omega))
         clear p s f;go_wp2_with fail;refine (u.o _).mono ?_;rintro e t ⟨rfl,rfl⟩;go_wp2_with fail;go_ret;exact ⟨by rw [c.o];rfl,y.o _ l.o⟩
       ·have c:=Aa (p.o 1 (by unfold BC;rw [if_neg (by omega),if_pos (by omega)]) (by omega))
        clear p s f;go_wp2_with fail;refine (u.o _).mono ?_;rintro e t ⟨rfl,rfl⟩;go_wp2_with fail;go_ret;exact ⟨by rw [c.o];rfl,y.o _ l.o⟩
     ·have u:=btw (x:=G) (a:=1) (b:=7) (r:=false) (by simpa using hk)
      have hr:=p.o 7 (by unfold BC;rw [if_pos hk]) (by omega);have c:=Aa hr;clear hr;go_wp2_with fail;refine (u.o _).mono ?_;rintro e t ⟨rfl,rfl⟩;go_wp2_with fail;go_ret;exact ⟨by rw [c.o];rfl,y.o _ (bA wr _)⟩
    ·have hz:Bf vars (L.drop j)=0:=by rw [List.drop_eq_nil_of_le (by omega)];rfl
     have ay:Hx (Bf vars L=0):=by rw [F];exact hz
     clear hz F;go_wp2_with fail;go_ret;exact ⟨by rw [ay.o];rfl,K.trans (C.mono K.size)⟩
theorem Gk {vars:Int}:∀ {l:List D},Bf vars l=0->∀ d∈l,BC vars (AD d) (A5 d) (AC d).length=0
 | [],_,d,hd=>by cases hd
 | a::l,h,d,hd=>by
  rw [Bf] at h;split at h
  ·rename_i h0
   rcases List.mem_cons.1 hd with rfl | hd
   ·exact h0
   ·exact Gk h d hd
  ·rename_i h0
   exact absurd h h0
theorem F7 {vars k n:Int} {l:Nat} (h:BC vars k n l=0):(k=1/\-9999999<=n/\n<=9999999)\/(k=2/\0<=n/\n < vars)\/(3<=k/\k<=7/\l=2):=by
 unfold BC at h;split at h
 ·omega
 ·split at h
  ·omega
  ·split at h
   ·omega
   ·split at h
    ·omega
    ·omega
theorem OY:∀ (k:Nat) (cs:List Value) (d:D) (w:World) (m:Int),RX w k cs d->0<=m->m<=15 ->
  Calls Tryz.prog 162 #[.agg cs.toArray,zd U m] w fun e w'=>e=zk (zd U (m - Bm k d m))/\Ov w w':=by
 intro k
 induction k with
 | zero=>intro cs d w m h;exact h.elim
 | succ k ih=>
  intro cs d w m h m0 m1;obtain ⟨W,n,v,p,rfl,rfl,X,hn,B,ao,T,rfl,hc⟩:=h;have HC:=Aa hc;have IH:=Aa ih;have HL:p.length<=9223372036854775807:=B;have q:Bm (k+1) (xD W n p) m=Ba (Bm k) m p 1:=rfl;rw [q];have C:Ov w (w.alloc (ze #[zd U W,zd U n,O ao p.length T] 94)):=bA w _;clear hc ih q X hn B;show Calls Tryz.prog 162 #[zh #[zd U W,zd U n,O ao p.length T],zd U m] w _;go_enter Tryz.func162,Tryz.ntmps162;go_wp2_with fail;go_loopw [1,12] (fun c i wr=>∃ (j:Nat) (t:Int),j<=p.length/\i=zd U j/\c=zd U (m - t)/\1<=t/\t<=m+1/\Ba (Bm k) m p 1=Ba (Bm k) m (p.drop j) t/\Ov w wr) (fun _ i _=>p.length - (intOf i).toNat)
  case atStart=>exact ⟨0,1,Nat.zero_le _,rfl,rfl,by omega,by omega,rfl,C⟩
  case round=>
   clear C;obtain ⟨j,t,hj,rfl,rfl,t1,t2,hp,K⟩:=hrel;have Z:=Aa hp;clear hp;by_cases hjl:j < p.length
   ·obtain ⟨b,off,rfl,J⟩:=HC.o (by rintro rfl;simp at hjl)
    obtain ⟨cs,N,y,M⟩:=J j p[j] (List.getElem?_eq_getElem hjl);obtain ⟨V,E,u⟩:=M.form;have g:=fun h=>E3 (f:=Bm k) (m:=m) (n:=t) hjl h;have s:=fun h=>EK k p[j] (m - t) h;obtain ⟨S,I⟩:=nm (p[j]);rw [<-I] at g s M u;obtain ⟨kj,H⟩:=nm (AD S);obtain ⟨nj,F⟩:=nm (A5 S);obtain ⟨lj,G⟩:=nm ((AC S).length);rw [<-H,<-F,<-G] at u;subst u;have q0:wr.cell? ⟨b,off+j*3,none⟩=_:=Ab K _ _ (y 0 _ rfl);have q1:=Ab K _ _ (y 1 _ rfl);have q2:=Ab K _ _ (y 2 _ rfl);have Q:Ov wr (wr.alloc (ze #[zd U kj,zd U nj,O V lj E] 94)):=bA wr _;have z:Ov w (wr.alloc (ze #[zd U kj,zd U nj,O V lj E] 94)):=K.trans (Q.mono K.size);by_cases htm:t<=m
    ·have g:=g htm
     have s:=s (by omega);have l:=IH.o _ S _ (m - t) (M.over z) (by omega) (by omega);obtain ⟨r,L⟩:=nm (Bm k S (m - t));rw [<-L] at l g s;have A:=Aa l;have HN:=Aa g;clear l g L H F G M y J N I;go_wp2_with fail;refine (A.o).mono ?_;rintro e w1 ⟨rfl,R⟩;have Y:Ov w w1:=z.trans (R.mono z.size);clear q0 q1 q2 K R A Q z;go_wp2_with fail;exact ⟨⟨j+1,t+r,by omega,by go_num,by go_num,by omega,by omega,by rw [Z.o,HN.o],Y⟩,by simp [intOf];omega⟩
    ·have P:=E4 (Bm k) m (p.drop j) t (by omega)
     have HD:=Aa P;have af:m - t < 0:=by omega
     clear P g s M y J N I H F G htm;go_wp2_with fail;go_ret;exact ⟨by rw [Z.o,HD.o];rfl,z⟩
   ·have P:Ba (Bm k) m (p.drop j) t=t:=by rw [List.drop_eq_nil_of_le (by omega)];rfl
    have HD:=Aa P;clear P;go_wp2_with fail;go_ret;exact ⟨by rw [Z.o,HD.o];rfl,K⟩
def DC (k:Int):Int:=if k=1\/k=2 then 0 else 2
theorem Hu (k:Int) (w:World):Calls Tryz.prog 209 #[zd U k] w fun e w'=>e=zk (zd U (DC k))/\w'=w:=by
 by_cases h1:k=1
 ·subst h1
  go_enter Tryz.func209,Tryz.ntmps209
  go_wp2
  go_ret;exact ⟨rfl,rfl⟩
 ·by_cases h2:k=2
  ·subst h2
   go_enter Tryz.func209,Tryz.ntmps209
   go_wp2
   go_ret;exact ⟨rfl,rfl⟩
  ·have c:(k == 1)=false:=by simpa using h1
   have b:(k == 2)=false:=by simpa using h2
   go_enter Tryz.func209,Tryz.ntmps209
   go_wp2
   go_ret;exact ⟨by simp [DC,h1,h2],rfl⟩
theorem EZ (vars:Int):∀ (l m:List D),Bf vars (l++m)=if Bf vars l=0 then Bf vars m else Bf vars l
 | [],m=>by simp [Bf]
 | a::l,m=>by
  rw [List.cons_append,Bf,Bf];split
  ·exact EZ vars l m
  ·rfl
def Gd (vars:Int) (k:Nat):List D->Int
 | []=>0
 | a::l=>if Bf vars (AO k a)=0 then Gd vars k l else Bf vars (AO k a)
theorem GK (vars:Int) (k:Nat):∀ l:List D,Gd vars k l=Bf vars (l.flatMap (AO k))
 | []=>rfl
 | a::l=>by rw [Gd,List.flatMap_cons,EZ,GK vars k l]
theorem Lc {vars:Int} {k:Nat} {l:List D} {j:Nat} (hj:j < l.length):Gd vars k (l.drop j)=if Bf vars (AO k l[j])=0 then Gd vars k (l.drop (j+1)) else Bf vars (AO k l[j]):=by
 rw [List.drop_eq_getElem_cons hj];rfl
theorem M4 (vars kd n:Int) (dl cap:Nat) (ao:Option Addr) (w:World) (v0:0<=vars) (v1:vars<=9223372036854775807) (HL:dl<=9223372036854775807) (hkd:Cq kd) (hn:Cq n) (hE:BC vars kd n dl≠0) :
  Calls Tryz.prog 163 #[zh #[zd U kd,zd U n,O ao dl cap],zd U vars] w fun e w'=>e=zk (zd U (BC vars kd n dl))/\Ov w w':=by
 have b:Ov w (w.alloc (ze #[zd U kd,zd U n,O ao dl cap] 94)):=bA w _;have f:=Aa fun W=>Hu kd W;obtain ⟨B,A⟩:=hkd;obtain ⟨z,y⟩:=hn;by_cases c1:kd < 1\/7 < kd
 ·have c:BC vars kd n dl=7:=by unfold BC;rw [if_pos (by omega)]
  rw [c];clear c hE;rcases c1 with c1 | c1
  ·go_enter Tryz.func163,Tryz.ntmps163
   go_wp2_with fail;go_ret;exact ⟨rfl,b⟩
  ·have c0:¬ kd < 1:=by omega
   go_enter Tryz.func163,Tryz.ntmps163;go_wp2_with fail;go_ret;exact ⟨rfl,b⟩
 ·have E:1<=kd:=by omega
  have C:kd<=7:=by omega
  clear c1;obtain ⟨i,h,g⟩:=rc3 (AP w [zd U kd,zd U n,O ao dl cap] 94);by_cases c4:(dl:Int)=DC kd
  ·by_cases c5:kd=1
   ·subst c5
    have t:dl=0:=by simpa [DC] using c4
    subst t;have ka:DC 1=0:=rfl;rw [ka] at f;have c:BC vars 1 n 0=3/\(n < -9999999\/9999999 < n):=by
     unfold BC at hE ⊢;rw [if_neg (by omega),if_neg (by omega)] at hE ⊢;by_cases q:n < -9999999\/9999999 < n
     ·exact ⟨by rw [if_pos (by omega)],q⟩
     ·rw [if_neg (by omega),if_neg (by omega)] at hE
      exact absurd rfl hE
    obtain ⟨c,c5⟩:=c;rw [c];clear c hE c4 ka;rcases c5 with c5 | c5
    ·go_enter Tryz.func163,Tryz.ntmps163
     go_wp2_with fail;go_region_held3 (fun W=>W.cell? ⟨w.heap.size,0,none⟩=some (zd U 1)/\W.cell? ⟨w.heap.size,1,none⟩=some (zd U n)/\W.cell? ⟨w.heap.size,2,none⟩=some (O ao 0 cap)/\Ov w W) (first | assumption | exact ⟨i,h,g,below_drewN b 1⟩ | fail) (first | (go_at_call 209;refine (f.o _).mono ?_;rintro e k ⟨rfl,rfl⟩));obtain ⟨s,p,l,d⟩:=(by assumption:_/\_/\_/\Below _ _ _);go_wp2_with fail;go_ret;exact ⟨rfl,d⟩
    ·have t:¬ n < -9999999:=by omega
     go_enter Tryz.func163,Tryz.ntmps163;go_wp2_with fail;go_region_held3 (fun W=>W.cell? ⟨w.heap.size,0,none⟩=some (zd U 1)/\W.cell? ⟨w.heap.size,1,none⟩=some (zd U n)/\W.cell? ⟨w.heap.size,2,none⟩=some (O ao 0 cap)/\Ov w W) (first | assumption | exact ⟨i,h,g,below_drewN b 1⟩ | fail) (first | (go_at_call 209;refine (f.o _).mono ?_;rintro e k ⟨rfl,rfl⟩));obtain ⟨s,p,l,d⟩:=(by assumption:_/\_/\_/\Below _ _ _);go_wp2_with fail;go_ret;exact ⟨rfl,d⟩
   ·by_cases c7:kd=2
    ·subst c7
     have t:dl=0:=by simpa [DC] using c4
     subst t;have ka:DC 2=0:=rfl;rw [ka] at f;have c:BC vars 2 n 0=5/\(n < 0\/vars<=n):=by
      unfold BC at hE ⊢;rw [if_neg (by omega),if_neg (by omega),if_neg (by omega)] at hE ⊢;by_cases q:n < 0\/vars<=n
      ·exact ⟨by rw [if_pos (by omega)],q⟩
      ·rw [if_neg (by omega)] at hE
       exact absurd rfl hE
     obtain ⟨c,c5⟩:=c;rw [c];clear c hE c4 ka;rcases c5 with c5 | c5
     ·go_enter Tryz.func163,Tryz.ntmps163
      go_wp2_with fail;go_region_held3 (fun W=>W.cell? ⟨w.heap.size,0,none⟩=some (zd U 2)/\W.cell? ⟨w.heap.size,1,none⟩=some (zd U n)/\W.cell? ⟨w.heap.size,2,none⟩=some (O ao 0 cap)/\Ov w W) (first | assumption | exact ⟨i,h,g,below_drewN b 1⟩ | fail) (first | (go_at_call 209;refine (f.o _).mono ?_;rintro e k ⟨rfl,rfl⟩));obtain ⟨s,p,l,d⟩:=(by assumption:_/\_/\_/\Below _ _ _);go_wp2_with fail;go_ret;exact ⟨rfl,d⟩
     ·have t:¬ n < 0:=by omega
      go_enter Tryz.func163,Tryz.ntmps163;go_wp2_with fail;go_region_held3 (fun W=>W.cell? ⟨w.heap.size,0,none⟩=some (zd U 2)/\W.cell? ⟨w.heap.size,1,none⟩=some (zd U n)/\W.cell? ⟨w.heap.size,2,none⟩=some (O ao 0 cap)/\Ov w W) (first | assumption | exact ⟨i,h,g,below_drewN b 1⟩ | fail) (first | (go_at_call 209;refine (f.o _).mono ?_;rintro e k ⟨rfl,rfl⟩));obtain ⟨s,p,l,d⟩:=(by assumption:_/\_/\_/\Below _ _ _);go_wp2_with fail;go_ret;exact ⟨rfl,d⟩
    ·have ka:DC kd=2:=by unfold DC;rw [if_neg (by omega)]
     rw [ka] at f c4;have u:dl=2:=by omega
     subst u;have c:BC vars kd n 2=3/\n≠0:=by
      unfold BC at hE ⊢;rw [if_neg (by omega),if_neg (by omega)] at hE ⊢;by_cases q:n=0
      ·rw [if_neg (by omega),if_neg (by omega)] at hE
       exact absurd rfl hE
      ·exact ⟨by rw [if_pos (by omega)],q⟩
     obtain ⟨c,c9⟩:=c;rw [c];clear c hE c4 ka;go_enter Tryz.func163,Tryz.ntmps163;go_wp2_with fail;go_region_held3 (fun W=>W.cell? ⟨w.heap.size,0,none⟩=some (zd U kd)/\W.cell? ⟨w.heap.size,1,none⟩=some (zd U n)/\W.cell? ⟨w.heap.size,2,none⟩=some (O ao 2 cap)/\Ov w W) (first | assumption | exact ⟨i,h,g,below_drewN b 1⟩ | fail) (first | (go_at_call 209;refine (f.o _).mono ?_;rintro e k ⟨rfl,rfl⟩));obtain ⟨s,p,l,d⟩:=(by assumption:_/\_/\_/\Below _ _ _);go_wp2_with fail;go_ret;exact ⟨rfl,d⟩
  ·have c:BC vars kd n dl=1:=by
    unfold BC;unfold DC at c4;rw [if_neg (by omega)];split at c4
    ·rw [if_pos (by omega)]
    ·rw [if_pos (by omega)]
   rw [c];clear c hE;go_enter Tryz.func163,Tryz.ntmps163;go_wp2_with fail;go_region_held3 (fun W=>W.cell? ⟨w.heap.size,0,none⟩=some (zd U kd)/\W.cell? ⟨w.heap.size,1,none⟩=some (zd U n)/\W.cell? ⟨w.heap.size,2,none⟩=some (O ao dl cap)/\Ov w W) (first | assumption | exact ⟨i,h,g,below_drewN b 1⟩ | fail) (first | (go_at_call 209;refine (f.o _).mono ?_;rintro e k ⟨rfl,rfl⟩));obtain ⟨s,p,l,d⟩:=(by assumption:_/\_/\_/\Below _ _ _);go_wp2_with fail;go_ret;exact ⟨rfl,d⟩
theorem M0 (vars kd n:Int) (cap:Nat) (ao:Option Addr) (w:World) (v0:0<=vars) (v1:vars<=9223372036854775807) (hE:BC vars kd n 0=0) :
  Calls Tryz.prog 163 #[zh #[zd U kd,zd U n,O ao 0 cap],zd U vars] w fun e w'=>e=zk (zd U 0)/\Ov w w':=by
 have d:=Aa fun W=>Hu kd W;rcases F7 hE with ⟨rfl,c1,y⟩ | ⟨rfl,c1,y⟩ | ⟨_,_,l⟩
 ·have b:Ov w (w.alloc (ze #[zd U 1,zd U n,O ao 0 cap] 94)):=bA w _
  obtain ⟨k,h,g⟩:=rc3 (AP w [zd U 1,zd U n,O ao 0 cap] 94);have ka:DC 1=0:=rfl;rw [ka] at d;clear hE ka;have l:¬ n < -9999999:=by omega
  have u:¬ 9999999 < n:=by omega
  go_enter Tryz.func163,Tryz.ntmps163;go_wp2_with fail;go_region_held3 (fun W=>W.cell? ⟨w.heap.size,0,none⟩=some (zd U 1)/\W.cell? ⟨w.heap.size,1,none⟩=some (zd U n)/\W.cell? ⟨w.heap.size,2,none⟩=some (O ao 0 cap)/\Ov w W) (first | assumption | exact ⟨k,h,g,below_drewN b 1⟩ | fail) (first | (go_at_call 209;refine (d.o _).mono ?_;rintro e p ⟨rfl,rfl⟩));obtain ⟨t,s,q,f⟩:=(by assumption:_/\_/\_/\Below _ _ _);go_wp2_with fail;go_loopw [67] (fun i wr=>i=zd U 0/\Ov w wr) (fun _ _=>0)
  case atStart=>exact ⟨rfl,f⟩
  case round=>
   obtain ⟨rfl,c⟩:=hrel;go_wp2_with fail;go_ret;exact ⟨rfl,c⟩
 ·have b:Ov w (w.alloc (ze #[zd U 2,zd U n,O ao 0 cap] 94)):=bA w _
  obtain ⟨k,h,g⟩:=rc3 (AP w [zd U 2,zd U n,O ao 0 cap] 94);have ka:DC 2=0:=rfl;rw [ka] at d;clear hE ka;have l:¬ n < 0:=by omega
  have u:¬ vars<=n:=by omega
  go_enter Tryz.func163,Tryz.ntmps163;go_wp2_with fail;go_region_held3 (fun W=>W.cell? ⟨w.heap.size,0,none⟩=some (zd U 2)/\W.cell? ⟨w.heap.size,1,none⟩=some (zd U n)/\W.cell? ⟨w.heap.size,2,none⟩=some (O ao 0 cap)/\Ov w W) (first | assumption | exact ⟨k,h,g,below_drewN b 1⟩ | fail) (first | (go_at_call 209;refine (d.o _).mono ?_;rintro e p ⟨rfl,rfl⟩));obtain ⟨t,s,q,f⟩:=(by assumption:_/\_/\_/\Below _ _ _);go_wp2_with fail;go_loopw [67] (fun i wr=>i=zd U 0/\Ov w wr) (fun _ _=>0)
  case atStart=>exact ⟨rfl,f⟩
  case round=>
   obtain ⟨rfl,c⟩:=hrel;go_wp2_with fail;go_ret;exact ⟨rfl,c⟩
 ·omega
theorem OE (vars:Int) (v0:0<=vars) (v1:vars<=9223372036854775807):∀ (k:Nat) (cs:List Value) (d:D) (w:World),RX w k cs d ->
  Calls Tryz.prog 163 #[.agg cs.toArray,zd U vars] w fun e w'=>e=zk (zd U (Bf vars (AO k d)))/\Ov w w':=by
 intro k
 induction k with
 | zero=>intro cs d w h;exact h.elim
 | succ k ih=>
  intro cs d w h;obtain ⟨g,n,v,s,rfl,rfl,P,hn,E,J,t,rfl,hc⟩:=h;have u:Bf vars (AO (k+1) (xD g n s))=if BC vars g n s.length=0 then Gd vars k s else BC vars g n s.length:=by
   rw [GK];rfl
  rw [u];show Calls Tryz.prog 163 #[zh #[zd U g,zd U n,O J s.length t],zd U vars] w _;by_cases hE:BC vars g n s.length=0
  ·rw [if_pos hE]
   have hz:=F7 hE
   cases s with
   | nil=>exact M0 vars g n t J w v0 v1 hE
   | cons d0 dr=>
    have ad:3<=g/\g<=7/\(d0::dr).length=2/\n=0:=by
     rcases hz with ⟨rfl,_,_⟩ | ⟨rfl,_,_⟩ | ⟨z1,z2,G⟩
     ·exfalso
      unfold BC at hE;rw [if_neg (by omega),if_pos (by simp)] at hE;omega
     ·exfalso
      unfold BC at hE;rw [if_neg (by omega),if_pos (by simp)] at hE;omega
     ·refine ⟨z1,z2,G,?_⟩
      rw [G] at hE;unfold BC at hE;rw [if_neg (by omega),if_neg (by omega)] at hE;by_cases q:n=0
      ·exact q
      ·rw [if_pos (by omega)] at hE
       omega
    obtain ⟨k1,k2,G,rfl⟩:=ad;obtain ⟨s,Q⟩:=nm (d0::dr);rw [<-Q] at hc G ⊢;rw [G];have HC:=Aa hc;have IH:=Aa ih;have KA:=Aa fun W=>Hu g W;have ka:DC g=2:=by unfold DC;rw [if_neg (by omega)]
    rw [ka] at KA;have V:Ov w (w.alloc (ze #[zd U g,zd U 0,O J 2 t] 94)):=bA w _;obtain ⟨e0,e1,e2⟩:=rc3 (AP w [zd U g,zd U 0,O J 2 t] 94);have n1:g≠1:=by omega
    have n2:g≠2:=by omega
    obtain ⟨R,hR⟩:=nm (Gd vars k s);have HR:=Aa hR;have HZ:=Aa G;rw [<-hR];clear hc ih u hE hz E P hn ka Q G hR;go_enter Tryz.func163,Tryz.ntmps163;go_wp2_with fail;go_region_held3 (fun W=>W.cell? ⟨w.heap.size,0,none⟩=some (zd U g)/\W.cell? ⟨w.heap.size,1,none⟩=some (zd U 0)/\W.cell? ⟨w.heap.size,2,none⟩=some (O J 2 t)/\Ov w W) (first | assumption | exact ⟨e0,e1,e2,below_drewN V 1⟩ | fail) (first | (go_at_call 209;refine (KA.o _).mono ?_;rintro e wp ⟨rfl,rfl⟩));obtain ⟨g0,g1,g2,A⟩:=(by assumption:_/\_/\_/\Below _ _ _);go_wp2_with fail;go_loopw [67] (fun i wr=>∃ (j:Nat),j<=2/\i=zd U j/\R=Gd vars k (s.drop j)/\Ov w wr) (fun i _=>2 - (intOf i).toNat)
    case atStart=>exact ⟨0,Nat.zero_le _,rfl,HR.o,A⟩
    case round=>
     clear A g0 g1 g2;obtain ⟨j,hj,rfl,hp,A⟩:=hrel;have Z:=Aa hp;clear hp;by_cases hjl:j < 2
     ·have B:j < s.length:=by rw [HZ.o];exact hjl
      obtain ⟨b,off,rfl,T⟩:=HC.o (by rintro rfl;simp at B);obtain ⟨cs,ac,C,hr⟩:=T j s[j] (List.getElem?_eq_getElem B);obtain ⟨Y,F,y⟩:=hr.form;have c:=Lc (vars:=vars) (k:=k) B;obtain ⟨X,S⟩:=nm (s[j]);rw [<-S] at c hr y;obtain ⟨kj,N⟩:=nm (AD X);obtain ⟨nj,L⟩:=nm (A5 X);obtain ⟨lj,M⟩:=nm ((AC X).length);rw [<-N,<-L,<-M] at y;subst y;have q0:wr.cell? ⟨b,off+j*3,none⟩=_:=Ab A _ _ (C 0 _ rfl);have q1:=Ab A _ _ (C 1 _ rfl);have q2:=Ab A _ _ (C 2 _ rfl);have H:Ov wr (wr.alloc (ze #[zd U kj,zd U nj,O Y lj F] 94)):=bA wr _;have p:Ov w (wr.alloc (ze #[zd U kj,zd U nj,O Y lj F] 94)):=A.trans (H.mono A.size);have l:=IH.o _ X _ (hr.over p);obtain ⟨r,K⟩:=nm (Bf vars (AO k X));rw [<-K] at l c;have f:=Aa l;have HN:=Aa c;clear l c K N L M hr C T ac S B;by_cases hr0:r=0
      ·subst hr0
       go_wp2_with fail;refine (f.o).mono ?_;rintro e w1 ⟨rfl,z⟩;have I:Ov w w1:=p.trans (z.mono p.size);clear q0 q1 q2 A z f H p;go_wp2_with fail;exact ⟨⟨j+1,by omega,by go_num,by rw [Z.o,HN.o];rfl,I⟩,by simp [intOf];omega⟩
      ·have hd:R=r:=by rw [Z.o,HN.o,if_neg hr0]
       subst hd;clear Z HN HR;go_wp2_with fail;refine (f.o).mono ?_;rintro e w1 ⟨rfl,z⟩;have I:Ov w w1:=p.trans (z.mono p.size);clear q0 q1 q2 A z f H p;go_wp2_with fail;go_ret;exact ⟨rfl,I⟩
     ·have hd:R=0:=by
       rw [Z.o,List.drop_eq_nil_of_le (by rw [HZ.o];omega)];rfl
      subst hd;clear Z HR;go_wp2_with fail;go_ret;exact ⟨rfl,A⟩
  ·rw [if_neg hE]
   exact M4 vars g n s.length t J w v0 v1 E P hn hE
theorem check_any (k:Nat) (cs:List Value) (d) (w:World) (vars:Int) (v0:0<=vars) (v1:vars<=9223372036854775807) (h:RX w k cs d) :
  Calls Tryz.prog 102 #[.agg cs.toArray,zd U vars] w fun e w'=>e=zk (zd U (AF vars k d))/\Ov w w':=by
 have q:=Aa fun W J=>OY k cs d W 15 (h.over J) (by omega) (by omega);have A:=Aa fun W J=>OE vars v0 v1 k cs d W (h.over J);obtain ⟨F,l,rfl⟩:=h.form;obtain ⟨B,t⟩:=nm (AD d);obtain ⟨n,K⟩:=nm (A5 d);obtain ⟨E,u⟩:=nm ((AC d).length);rw [<-t,<-K,<-u] at q A ⊢;clear t K u;obtain ⟨p,C⟩:=nm (Bm k d 15);have c:AF vars k d=if 15 < p then 2 else Bf vars (AO k d):=by rw [C];rfl
 rw [<-C] at q;have g:=EK k d 15 (by omega);rw [<-C] at g;obtain ⟨z,H⟩:=nm (15 - p);rw [<-H] at q;clear C;obtain ⟨P,N,M⟩:=rc3 (AP w [zd U B,zd U n,O F E l] 94);have b:Ov w (w.alloc (ze #[zd U B,zd U n,O F E l] 94)):=bA w _;by_cases hq:15 < p
 ·rw [c,if_pos hq]
  have s:z < 0:=by omega
  clear c A hq H g;show Calls Tryz.prog 102 #[zh #[zd U B,zd U n,O F E l],zd U vars] w _;go_enter Tryz.func102,Tryz.ntmps102;go_wp2_with fail;refine (q.o _ b).mono ?_;rintro e G ⟨rfl,f⟩;have i:Ov w G:=b.trans (f.mono b.size);clear f q;go_wp2_with fail;go_ret;exact ⟨rfl,i⟩
 ·rw [c,if_neg hq]
  have s:¬ z < 0:=by omega
  obtain ⟨R,L⟩:=nm (Bf vars (AO k d));rw [<-L] at A ⊢;clear c hq L H g;show Calls Tryz.prog 102 #[zh #[zd U B,zd U n,O F E l],zd U vars] w _;go_enter Tryz.func102,Tryz.ntmps102;go_wp2_with fail;refine (q.o _ b).mono ?_;rintro e G ⟨rfl,f⟩;have i:Ov w G:=b.trans (f.mono b.size);obtain ⟨V,T,S⟩:=co3 f P N M;clear f q P N M;go_wp2_with fail;refine (A.o _ i).mono ?_;rintro e Q ⟨rfl,y⟩;have I:Ov w Q:=i.trans (y.mono i.size);clear y A;go_wp2_with fail;go_ret;exact ⟨rfl,I⟩
theorem Nb (at' why:Int) (w:World):Calls Tryz.prog 215 #[zd U at',zg true,zd U why] w fun e w'=>e=zk (zm #[])/\w'=w:=by
 go_enter Tryz.func215,Tryz.ntmps215;go_wp2_with fail;go_end0;exact ⟨rfl,rfl⟩
theorem BU (why:Int) (w:World):Calls Tryz.prog 172 #[zg true,zd U why] w fun e w'=>e=zk (zm #[])/\w'=w:=by
 have K:=Aa fun W=>Nb 0 why W;go_enter Tryz.func172,Tryz.ntmps172;go_wp2_with fail;refine (K.o _).mono ?_;rintro e b ⟨rfl,rfl⟩;go_wp2_with fail;go_end0;exact ⟨rfl,rfl⟩
theorem PV (w:World):Calls Tryz.prog 171 #[zd U 0] w fun e w'=>e=zk (zm #[])/\w'=w:=by
 have K:=Aa fun W=>BU 0 W;go_enter Tryz.func171,Tryz.ntmps171;go_wp2_with fail;refine (K.o _).mono ?_;rintro e b ⟨rfl,rfl⟩;go_wp2_with fail;go_end0;exact ⟨rfl,rfl⟩
theorem Bq (x m:Int) (w:World):Calls Tryz.prog 173 #[zd U x,zd U m] w fun e w'=>e=zk (zg (decide (0<=x/\x < m)))/\w'=w:=by
 by_cases h1:0<=x
 ·by_cases h2:x < m
  ·go_enter Tryz.func173,Tryz.ntmps173
   go_wp2
   go_ret;exact ⟨by simp;omega,rfl⟩
  ·go_enter Tryz.func173,Tryz.ntmps173
   go_wp2
   go_ret;exact ⟨by simp;omega,rfl⟩
 ·go_enter Tryz.func173,Tryz.ntmps173
  go_wp2
  go_ret;exact ⟨by simp;omega,rfl⟩
theorem Ac {w0 w1 w2:World} (h:Ov w0 w1) (h2:Ov w1 w2):Ov w0 w2:=h.trans (h2.mono h.size)
end Go.Proofs.YtfffpjkcfnekaaaGreat.Ex
