/- Regions that draw, in few words. -/
import Derived.Deep.RegionHeld3
import Derived.RowKit
import Derived.OpenShut
import Derived.Deep.Draws
import Derived.Lib.Builder
import Derived.Test.YtipngnjffjajpaaGreatDoorRows
import Derived.WalkKit
import Derived.WalkSpells
import Derived.WalkLawsBesides
import Derived.Test.YtipngnjffjajpaaGreatDoorShelf
import Derived.Lib.Strings
import Derived.Lib.Bytealg
set_option linter.unusedVariables false
set_option maxHeartbeats 8000000
set_option maxRecDepth 100000
namespace Go.Proofs.YtipngnjffjajpaaGreatDoor
open Go.RowKit
open Go.Value renaming int -> M, slice -> U, bool -> zc, pointer -> zd, agg -> zf, tuple -> zh
open Go.IntKind renaming i64 -> O
open Go.Obj renaming cells -> ze
open Go.Ending renaming returned -> zg
abbrev Ov (w w':World):Prop:=Below w.heap.size w w'
theorem nm {α:Type} (x:α):∃ q,q=x:=⟨x,rfl⟩
theorem aqt:(∀ (l:List Oper) (i:Nat) (h:i < l.toArray.size),l.toArray[i]'h=l[i]'(by simpa using h))/\(∀ (a:Oper) (l:List Oper) (i:Nat) (h:i+1 < (a::l).length),(a::l)[i+1]'h=l[i]'(by simpa using h))/\(∀ (a:Oper) (l:List Oper) (h:0 < (a::l).length),(a::l)[0]'h=a)/\(∀ (a:Act) (d:Tmp) (v:Value),a.put (some d) v={ a with tmps:=a.tmps.setIfInBounds d v })/\(∀ (a:Act) (v:Value),a.put none v=a)/\(∀ (l:List Value) (i:Nat) (x:Value),l.toArray.setIfInBounds i x=(l.set i x).toArray)/\(∀ (l:List Value) (a x:Value),(a::l).set 0 x=x::l)/\(∀ (l:List Value) (a x:Value) (i:Nat),(a::l).set (i+1) x=a::l.set i x):=
 ⟨fun _ _ _=>by simp,fun _ _ _ _=>rfl,fun _ _ _=>rfl,fun _ _ _=>rfl,fun _ _=>rfl,fun _ _ _=>by simp,fun _ _ _=>rfl,fun _ _ _ _=>rfl⟩
theorem kT {P:Program} {ops:Array Oper} {Q:Exit->Act->World->Prop} {md:Region.Mode} {S:World->Prop} {oi:Oper} {v:Value} {fuel:Nat} {listed:Array Bool} {a:Act} {w:World} {Z:Prop} (i:Nat) (h:Z)
  (hi:ops[i]? = some oi:=by rfl) (hy:YieldsIf P ops S oi v a:=by (refine Or.inl ⟨by rfl,?_⟩;intro f b;(try dsimp only at b);go_simp;try with_reducible rfl)) (hS:S w:=by assumption)
  (hs:Region.noSelect ops=true:=by kernel_rfl) (hf:Region.free md ops listed i=true:=by kernel_rfl) (hr:(Region.ready md ops listed).contains i=true:=by kernel_rfl)
  (hQ:∀ c a w,Q (.panic c) (a.put oi.dst v) w->Q (.panic c) a w:=by exact fun _ _ _ h=>h)
  (hz:Z->wpAnyH P md ops Q S fuel (listed.setIfInBounds i true) (a.put oi.dst v) w:=by (intro hz;(try simp only [aqt]);exact hz)):wpAnyH P md ops Q S (fuel+1) listed a w:=
 wpAnyH_take hi hs hf hr hQ hy hS (hz h)
abbrev Gv (P:Program) (md:Region.Mode) (ops:Array Oper) (Q:Exit->Act->World->Prop) (S:World->Prop) (fuel:Nat) (listed:Array Bool) (a:Act) (w:World) (i:Nat) (o:Oper):Prop:=
 ∀ K':Act->World->Prop,Shut (∀ a w,S w->(S w->wpAnyH P md ops Q S fuel (listed.setIfInBounds i true) a w)->K' a w)->if Region.wanted o (yielded ops a.tmps)=true then Oper.wp P o a w K' Q else K' (a.put o.dst undef) w
theorem rdA {P:Program} {ops:Array Oper} {Q:Exit->Act->World->Prop} {md:Region.Mode} {S:World->Prop} {fuel:Nat} {listed:Array Bool} {a:Act} {w:World} (i:Nat) {o:Oper} (ho:ops[i]? = some o) (h:Gv P md ops Q S fuel listed a w i o)
  (hr:Region.ready md ops listed=[i]:=by kernel_rfl):wpAnyH P md ops Q S (fuel+1) listed a w:=
 wpAnyH_ready hr (by simp) (AllReadyH.cons ho h AllReadyH.nil)
theorem rdB {P:Program} {ops:Array Oper} {Q:Exit->Act->World->Prop} {md:Region.Mode} {S:World->Prop} {fuel:Nat} {listed:Array Bool} {a:Act} {w:World} (i j:Nat) {o p:Oper} (ho:ops[i]? = some o) (h:Gv P md ops Q S fuel listed a w i o) (hp:ops[j]? = some p) (h2:Gv P md ops Q S fuel listed a w j p)
  (hr:Region.ready md ops listed=[i,j]:=by kernel_rfl):wpAnyH P md ops Q S (fuel+1) listed a w:=
 wpAnyH_ready hr (by simp) (AllReadyH.cons ho h (AllReadyH.cons hp h2 AllReadyH.nil))
theorem rdC {P:Program} {ops:Array Oper} {Q:Exit->Act->World->Prop} {md:Region.Mode} {S:World->Prop} {fuel:Nat} {listed:Array Bool} {a:Act} {w:World} (i j k:Nat) {o p q:Oper} (ho:ops[i]? = some o) (h:Gv P md ops Q S fuel listed a w i o) (hp:ops[j]? = some p) (h2:Gv P md ops Q S fuel listed a w j p) (hq:ops[k]? = some q) (h3:Gv P md ops Q S fuel listed a w k q)
  (hr:Region.ready md ops listed=[i,j,k]:=by kernel_rfl):wpAnyH P md ops Q S (fuel+1) listed a w:=
 wpAnyH_ready hr (by simp) (AllReadyH.cons ho h (AllReadyH.cons hp h2 (AllReadyH.cons hq h3 AllReadyH.nil)))
theorem xK {S:World->Prop} {V:Act->World->Prop} {K':Act->World->Prop} {a:Act} {w:World} {Z:Prop} (hK:Shut (∀ a w,S w->(S w->V a w)->K' a w)) (hS:S w) (h:S w->Z) (hz:Z->V a w:=by (intro hz;(try simp only [aqt]);exact hz)):K' a w:=
 hK.out a w hS (fun b=>hz (h b))
theorem gS {P:Program} {ops:Array Oper} {Q:Exit->Act->World->Prop} (S:World->Prop) {id:Nat} {a:Act} {w:World} (hS:S w.drew)
  (h:S w.drew->wpAnyH P .any ops Q S ops.size (Array.replicate ops.size false) a w.drew) (hm:P.follows .mixedOrders=true:=by kernel_rfl):(Code.region id ops true).wp P Q a w:=
 wp_region_held_drew hm hS h
theorem gE {P:Program} {ops:Array Oper} {Q:Exit->Act->World->Prop} {md:Region.Mode} {S:World->Prop} {fuel:Nat} {listed:Array Bool} {a:Act} {w:World} (h:Q .normal a w) (hr:Region.ready md ops listed=[]:=by kernel_rfl):wpAnyH P md ops Q S fuel listed a w:=
 wpAnyH_done hr h fuel
theorem AW (w:World) (l:List Value) (T:Nat):∀ (j:Nat) (u:Value),l[j]? = some u->(w.alloc (.cells l.toArray T)).cell? ⟨w.heap.size,j,none⟩=some u:=fun j u hu=>by
 rw [Lib.cell_of_heap (show (w.heap.push (.cells l.toArray T))[w.heap.size]? = some (.cells l.toArray T) by simp)];simpa using hu
theorem Mr {w:World} {a:Addr} {u:Value} (h:w.cell? a=some u) (o:Obj):(w.alloc o).cell? a=some u:=by
 rw [World.cell?_alloc_some _ _ _ (by rw [h];rfl)];exact h
theorem alS (w:World) (o:Obj):(w.alloc o).heap.size=w.heap.size+1:=by simp
theorem GZ (w:World) (l:List Value) (T:Nat) (o1:Obj):∀ (j:Nat) (u:Value),l[j]? = some u->((w.alloc (.cells l.toArray T)).alloc o1).cell? ⟨w.heap.size,j,none⟩=some u:=fun j u hu=>by
 have h:=AW w l T j u hu;exact (Mr h _)
theorem GY (w:World) (o0:Obj) (l:List Value) (T:Nat):∀ (j:Nat) (u:Value),l[j]? = some u->((w.alloc o0).alloc (.cells l.toArray T)).cell? ⟨w.heap.size+1,j,none⟩=some u:=fun j u hu=>by
 have h:=AW (w.alloc o0) l T j u hu;rw [alS] at h;exact h
theorem rc2 {P:Nat->Value->Prop} {a0 a1:Value} {l:List Value} (h:∀ (j:Nat) (u:Value),(a0::a1::l)[j]? = some u->P j u):P 0 a0/\P 1 a1:=⟨h 0 _ rfl,h 1 _ rfl⟩
theorem rc4 {P:Nat->Value->Prop} {a0 a1 a2 a3:Value} {l:List Value} (h:∀ (j:Nat) (u:Value),(a0::a1::a2::a3::l)[j]? = some u->P j u):P 0 a0/\P 1 a1/\P 2 a2/\P 3 a3:=⟨h 0 _ rfl,h 1 _ rfl,h 2 _ rfl,h 3 _ rfl⟩
theorem rc5 {P:Nat->Value->Prop} {a0 a1 a2 a3 a4:Value} {l:List Value} (h:∀ (j:Nat) (u:Value),(a0::a1::a2::a3::a4::l)[j]? = some u->P j u):P 0 a0/\P 1 a1/\P 2 a2/\P 3 a3/\P 4 a4:=⟨h 0 _ rfl,h 1 _ rfl,h 2 _ rfl,h 3 _ rfl,h 4 _ rfl⟩
theorem rc6 {P:Nat->Value->Prop} {a0 a1 a2 a3 a4 a5:Value} {l:List Value} (h:∀ (j:Nat) (u:Value),(a0::a1::a2::a3::a4::a5::l)[j]? = some u->P j u):P 0 a0/\P 1 a1/\P 2 a2/\P 3 a3/\P 4 a4/\P 5 a5:=⟨h 0 _ rfl,h 1 _ rfl,h 2 _ rfl,h 3 _ rfl,h 4 _ rfl,h 5 _ rfl⟩
theorem AC {P:Nat->Value->Prop} {a0 a1 a2 a3 a4 a5 a6 a7 a8 a9 a10 a11:Value} {l:List Value} (h:∀ (j:Nat) (u:Value),(a0::a1::a2::a3::a4::a5::a6::a7::a8::a9::a10::a11::l)[j]? = some u->P j u):P 0 a0/\P 1 a1/\P 2 a2/\P 3 a3/\P 4 a4/\P 5 a5/\P 6 a6/\P 7 a7/\P 8 a8/\P 9 a9/\P 10 a10/\P 11 a11:=⟨h 0 _ rfl,h 1 _ rfl,h 2 _ rfl,h 3 _ rfl,h 4 _ rfl,h 5 _ rfl,h 6 _ rfl,h 7 _ rfl,h 8 _ rfl,h 9 _ rfl,h 10 _ rfl,h 11 _ rfl⟩
theorem Ap {P:Nat->Value->Prop} {a0 a1 a2 a3 a4 a5 a6 a7 a8 a9 a10 a11 a12:Value} {l:List Value} (h:∀ (j:Nat) (u:Value),(a0::a1::a2::a3::a4::a5::a6::a7::a8::a9::a10::a11::a12::l)[j]? = some u->P j u):P 0 a0/\P 1 a1/\P 2 a2/\P 3 a3/\P 4 a4/\P 5 a5/\P 6 a6/\P 7 a7/\P 8 a8/\P 9 a9/\P 10 a10/\P 11 a11/\P 12 a12:=⟨h 0 _ rfl,h 1 _ rfl,h 2 _ rfl,h 3 _ rfl,h 4 _ rfl,h 5 _ rfl,h 6 _ rfl,h 7 _ rfl,h 8 _ rfl,h 9 _ rfl,h 10 _ rfl,h 11 _ rfl,h 12 _ rfl⟩
theorem ovS {V W:World} (h:Below V.heap.size V W):∀ a:Addr,(V.cell? a).isSome=true->W.cell? a=V.cell? a:=fun a ha=>by
 obtain ⟨u,hu⟩:=Option.isSome_iff_exists.1 ha;exact h.cell (World.block_lt_of_cell? V _ hu)
theorem kO {P:Program} {ops:Array Oper} {Q:Exit->Act->World->Prop} {md:Region.Mode} {S:World->Prop} {oi:Oper} {v:Value} {fuel:Nat} {listed:Array Bool} {a:Act} {w:World} {Z:Prop} (i:Nat) (h:Z)
  (hi:ops[i]? = some oi:=by rfl) (hy:YieldsIf P ops S oi v a:=by (refine Or.inl ⟨by rfl,?_⟩;intro f b;have b:=ovS b;go_simp;try with_reducible rfl)) (hS:S w:=by assumption)
  (hs:Region.noSelect ops=true:=by kernel_rfl) (hf:Region.free md ops listed i=true:=by kernel_rfl) (hr:(Region.ready md ops listed).contains i=true:=by kernel_rfl)
  (hQ:∀ c a w,Q (.panic c) (a.put oi.dst v) w->Q (.panic c) a w:=by exact fun _ _ _ h=>h)
  (hz:Z->wpAnyH P md ops Q S fuel (listed.setIfInBounds i true) (a.put oi.dst v) w:=by (intro hz;(try simp only [aqt]);exact hz)):wpAnyH P md ops Q S (fuel+1) listed a w:=
 wpAnyH_take hi hs hf hr hQ hy hS (hz h)
def Hx (p:Prop):Prop:=p
theorem Hx.o {p:Prop} (h:Hx p):p:=h
theorem ce1 {w w':World} (hb:Below w.heap.size w w') {a:Addr} {u:Value} (h:w.cell? a=some u):w'.cell? a=some u:=by
 rw [hb.cell (World.block_lt_of_cell? w _ h)];exact h
theorem bA (w:World) (o:Obj):Below w.heap.size w (w.alloc o):=(Below.refl _ w).alloc (Nat.le_refl _) o
theorem bD (w:World):Below w.heap.size w w.drew:=(Below.refl _ w).drew
theorem bL {w:World} {a:Addr} {u:Value} (h:w.cell? a=some u):a.block < w.heap.size:=World.block_lt_of_cell? w _ h
end Go.Proofs.YtipngnjffjajpaaGreatDoor
namespace Go.Proofs.YtipngnjffjajpaaGreatDoor
open Go.RowKit
open Go.Value renaming int -> M, slice -> U, bool -> zc, pointer -> zd, agg -> zf, tuple -> zh
open Go.IntKind renaming i64 -> O
open Go.Obj renaming cells -> ze
open Go.Ending renaming returned -> zg
theorem Aa {p:Prop} (h:p):Hid p:=h
def isL (c:UInt8):Bool:=decide (97<=c.toNat/\c.toNat<=122)
def isD (c:UInt8):Bool:=decide (48<=c.toNat/\c.toNat<=57)
def isN (c:UInt8):Bool:=isL c || isD c
def Dc (c:UInt8):Bool:=decide (¬ c.toNat=10)
theorem BH (c:UInt8) (w:World) :
  Calls Tryz.prog 116 #[M .u8 (c.toNat:Int)] w fun e w'=>e=zg (zc (isL c))/\w'=w:=by
 by_cases h1:(97:Int)<=(c.toNat:Int)
 ·by_cases h2:(c.toNat:Int)<=122
  ·go_enter Tryz.func116,Tryz.ntmps116
   go_wp2
   go_ret;exact ⟨by simp [isL];omega,rfl⟩
  ·go_enter Tryz.func116,Tryz.ntmps116
   go_wp2
   go_ret;exact ⟨by simp [isL];omega,rfl⟩
 ·go_enter Tryz.func116,Tryz.ntmps116
  go_wp2
  go_ret;exact ⟨by simp [isL];omega,rfl⟩
theorem BR (c:UInt8) (w:World) :
  Calls Tryz.prog 118 #[M .u8 (c.toNat:Int)] w fun e w'=>e=zg (zc (isD c))/\w'=w:=by
 by_cases h1:(48:Int)<=(c.toNat:Int)
 ·by_cases h2:(c.toNat:Int)<=57
  ·go_enter Tryz.func118,Tryz.ntmps118
   go_wp2
   go_ret;exact ⟨by simp [isD];omega,rfl⟩
  ·go_enter Tryz.func118,Tryz.ntmps118
   go_wp2
   go_ret;exact ⟨by simp [isD];omega,rfl⟩
 ·go_enter Tryz.func118,Tryz.ntmps118
  go_wp2
  go_ret;exact ⟨by simp [isD];omega,rfl⟩
theorem J0 (c:UInt8) (w:World) :
  Calls Tryz.prog 115 #[M .u8 (c.toNat:Int)] w fun e w'=>e=zg (zc (Dc c))/\w'=w:=by
 go_enter Tryz.func115,Tryz.ntmps115
 go_wp2
 go_ret;exact ⟨congrArg (fun b=>Ending.returned (zc b)) (by rw [Bool.eq_iff_iff];simp [Dc];omega),rfl⟩
theorem EH (c:UInt8) (w:World) :
  Calls Tryz.prog 141 #[M .u8 (c.toNat:Int)] w fun e w'=>e=zg (zc (isN c))/\w'=w:=by
 by_cases h:isL c=true
 ·go_enter Tryz.func141,Tryz.ntmps141
  go_wp2_with fail;refine (BH c _).mono ?_;rintro e w' ⟨rfl,rfl⟩;go_wp2_with fail;go_ret;exact ⟨by simp [isN,h],rfl⟩
 ·go_enter Tryz.func141,Tryz.ntmps141
  go_wp2_with fail;refine (BH c _).mono ?_;rintro e w' ⟨rfl,rfl⟩;go_wp2_with fail;refine (BR c _).mono ?_;rintro e w' ⟨rfl,rfl⟩;go_wp2_with fail;go_ret;exact ⟨by simp [isN,h],rfl⟩
def AG (p:UInt8->Bool) (l:List UInt8) (i:Nat):Nat:=i+((l.drop i).takeWhile p).length
theorem C3 {p:UInt8->Bool} {l:List UInt8} {i:Nat} (h:i < l.length) (hp:p l[i]=true):AG p l i=AG p l (i+1):=by
 unfold AG;rw [List.drop_eq_getElem_cons h,List.takeWhile_cons,if_pos hp];simp;omega
theorem Ei {p:UInt8->Bool} {l:List UInt8} {i:Nat} (h:i < l.length) (hp:p l[i]=false):AG p l i=i:=by
 unfold AG;rw [List.drop_eq_getElem_cons h,List.takeWhile_cons,if_neg (by simp [hp])];simp
theorem EQ {p:UInt8->Bool} {l:List UInt8} {i:Nat} (h:l.length<=i):AG p l i=i:=by
 unfold AG;rw [List.drop_of_length_le h];simp
theorem Dm (F:FuncId) (p:UInt8->Bool) (hF:Hid (∀ (c:UInt8) (w:World),Calls Tryz.prog F #[M .u8 (c.toNat:Int)] w fun e w'=>e=zg (zc (p c))/\w'=w))
  (hC:∀ (args:Array Value) (w:World),(callFunc F args).run Tryz.prog w=.ok (.enter F args) w) (s:ByteArray) (a:Nat) (ha:a<=s.size) (hs:s.size<=6000) (w:World) :
  Calls Tryz.prog 114 #[.string s,M O (a:Int),.func (.func F) #[] #[]] w fun e w'=>e=zg (M O (AG p s.data.toList a:Nat))/\w'=w:=by
 go_enter Tryz.func114,Tryz.ntmps114
 go_wp2
 go_loop [1] (fun i=>∃ k:Nat,k<=s.size/\i=M O k/\AG p s.data.toList k=AG p s.data.toList a) (fun i=>s.size - (intOf i).toNat)
 case atStart=>exact ⟨a,ha,rfl,rfl⟩
 case round=>
  obtain ⟨k,l,rfl,b⟩:=hrel;have g:=Aa b;clear b;by_cases hlt:k < s.size
  ·go_wp2_with fail
   refine (hF.out _ _).mono ?_;rintro e w' ⟨rfl,rfl⟩;by_cases hp:p s[k]=true
   ·go_wp2_with fail
    refine ⟨⟨k+1,by omega,by go_num,?_⟩,by simp [intOf];omega⟩;rw [<-g.out];exact (C3 (by simpa using hlt) hp).symm
   ·have f:p s[k]=false:=by simpa using hp
    go_wp2_with fail;go_ret;refine ⟨?_,rfl⟩;have:=g.out;rw [Ei (by simpa using hlt) f] at this;simp [<-this]
  ·go_wp2_with fail
   go_ret;have j:k=s.size:=by omega
   refine ⟨?_,rfl⟩;have:=g.out;rw [EQ (by simp;omega)] at this;simp [<-this]
def CI (c:UInt8):Bool:=decide (c.toNat=32\/c.toNat=9\/c.toNat=10)
def Cn:Bool->List UInt8->Nat
 | _,[]=>0
 | true,c::l=>1+Cn (Dc c) l
 | false,c::l=>if c.toNat=35 then 1+Cn true l else if CI c=true then 1+Cn false l else 0
def AR (note:Bool) (l:List UInt8) (i:Nat):Nat:=i+Cn note (l.drop i)
theorem Lc (note:Bool) (l:List UInt8):Cn note l<=l.length:=by
 induction l generalizing note with
 | nil=>cases note <;> simp [Cn]
 | cons c l ih=>
  cases note with
  | true=>simp only [Cn,List.length_cons];have:=ih (Dc c);omega
  | false=>
   have b:=ih true;have a:=ih false;simp only [Cn,List.length_cons];split
   ·omega
   ·split <;> omega
theorem Ld {note:Bool} {l:List UInt8} {i:Nat} (h:i<=l.length):AR note l i<=l.length:=by
 have:=Lc note (l.drop i);simp only [List.length_drop] at this;unfold AR;omega
theorem Iy (l:List UInt8):Cn true l=(l.takeWhile Dc).length+Cn false (l.drop (l.takeWhile Dc).length):=by
 induction l with
 | nil=>simp [Cn]
 | cons c l ih=>
  by_cases h:Dc c=true
  ·rw [List.takeWhile_cons,if_pos h]
   simp only [Cn,h,List.length_cons,List.drop_succ_cons];omega
  ·have b:Dc c=false:=by simpa using h
   rw [List.takeWhile_cons,if_neg h];simp only [Cn,b,List.length_nil,List.drop_zero];have a:c.toNat=10:=by simpa [Dc] using h
   rw [if_neg (by omega),if_pos (by simp [CI,a])];omega
theorem Fh {l:List UInt8} {i:Nat} (h:i < l.length) (h35:¬ l[i].toNat=35) (hb:CI l[i]=true):AR false l i=AR false l (i+1):=by
 unfold AR;rw [List.drop_eq_getElem_cons h];simp only [Cn,h35,hb,if_true,if_false];omega
theorem Iz {l:List UInt8} {i:Nat} (h:i < l.length) (h35:l[i].toNat=35):AR false l i=AR false l (AG Dc l i):=by
 unfold AR AG;have e:Cn false (l.drop i)=Cn true (l.drop i):=by
  rw [List.drop_eq_getElem_cons h];simp [Cn,h35,Dc]
 rw [e,Iy,List.drop_drop];omega
theorem Ej {l:List UInt8} {i:Nat} (h:i < l.length) (h35:¬ l[i].toNat=35) (hb:CI l[i]=false):AR false l i=i:=by
 unfold AR;rw [List.drop_eq_getElem_cons h];simp [Cn,h35,hb]
theorem Gf {note:Bool} {l:List UInt8} {i:Nat} (h:l.length<=i):AR note l i=i:=by
 unfold AR;rw [List.drop_of_length_le h];simp [Cn]
theorem FE {p:UInt8->Bool} {l:List UInt8} {i:Nat} (h:i < l.length) (hp:p l[i]=true):i < AG p l i:=by
 unfold AG;rw [List.drop_eq_getElem_cons h,List.takeWhile_cons,if_pos hp];simp
theorem Cm {p:UInt8->Bool} {l:List UInt8} {i:Nat} (h:i<=l.length):AG p l i<=l.length:=by
 unfold AG;have:=(List.takeWhile_sublist p (l:=l.drop i)).length_le;simp only [List.length_drop] at this;omega
theorem MY (args:Array Value) (w:World):(callFunc 115 args).run Tryz.prog w=.ok (.enter 115 args) w:=by simp [go_sem]
theorem I6 (args:Array Value) (w:World):(callFunc 118 args).run Tryz.prog w=.ok (.enter 118 args) w:=by simp [go_sem]
theorem LN (args:Array Value) (w:World):(callFunc 141 args).run Tryz.prog w=.ok (.enter 141 args) w:=by simp [go_sem]
theorem Hb (s:ByteArray) (a:Nat) (ha:a<=s.size) (hs:s.size<=6000) (w:World) :
  Calls Tryz.prog 81 #[.string s,M O (a:Int)] w fun e w'=>e=zg (M O (AR false s.data.toList a:Nat))/\w'=w:=by
 go_enter Tryz.func81,Tryz.ntmps81
 go_wp2
 go_loop [1] (fun i=>∃ k:Nat,k<=s.size/\i=M O k/\AR false s.data.toList k=AR false s.data.toList a) (fun i=>s.size - (intOf i).toNat)
 case atStart=>exact ⟨a,ha,rfl,rfl⟩
 case round=>
  obtain ⟨k,G,rfl,m⟩:=hrel;have u:=Aa m;clear m;by_cases hlt:k < s.size
  ·have f:¬ s[k].toNat=35->CI s[k]=true->AR false s.data.toList (k+1)=AR false s.data.toList a:=fun b I=>by
    rw [<-u.out];exact (Fh (by simpa using hlt) b I).symm
   have c:=Aa f;clear f;by_cases h32:s[k].toNat=32
   ·have j:((s[k].toNat:Int) == 32)=true:=by simp;omega
    have n:=Aa h32;clear h32;go_wp2_with fail;exact ⟨⟨k+1,by omega,by go_num,c.out (by have:=n.out;omega) (by simp [CI,n.out])⟩,by simp [intOf];omega⟩
   by_cases h9:s[k].toNat=9
   ·have C:((s[k].toNat:Int) == 9)=true:=by simp;omega
    have j:((s[k].toNat:Int) == 32)=false:=by simp;omega
    have F:=Aa h9;clear h9 h32;go_wp2_with fail;exact ⟨⟨k+1,by omega,by go_num,c.out (by have:=F.out;omega) (by simp [CI,F.out])⟩,by simp [intOf];omega⟩
   by_cases h10:s[k].toNat=10
   ·have y:((s[k].toNat:Int) == 10)=true:=by simp;omega
    have j:((s[k].toNat:Int) == 32)=false:=by simp;omega
    have C:((s[k].toNat:Int) == 9)=false:=by simp;omega
    have r:=Aa h10;clear h9 h32 h10;go_wp2_with fail;exact ⟨⟨k+1,by omega,by go_num,c.out (by have:=r.out;omega) (by simp [CI,r.out])⟩,by simp [intOf];omega⟩
   have j:((s[k].toNat:Int) == 32)=false:=by simp;omega
   have C:((s[k].toNat:Int) == 9)=false:=by simp;omega
   have y:((s[k].toNat:Int) == 10)=false:=by simp;omega
   have B:CI s[k]=false:=by simp [CI];omega
   have J:=Aa B;clear B h32 h9;by_cases b:s[k].toNat=35
   ·have x:((s[k].toNat:Int) == 35)=true:=by simp;omega
    have H:k < AG Dc s.data.toList k:=FE (by simpa using hlt) (by simp [Dc];exact h10);have v:AG Dc s.data.toList k<=s.size:=by have:=Cm (p:=Dc) (l:=s.data.toList) (i:=k) (by simp;omega);simpa using this
    have e:AR false s.data.toList (AG Dc s.data.toList k)=AR false s.data.toList a:=by
     rw [<-u.out];exact (Iz (by simpa using hlt) b).symm
    have E:=Aa e;clear e b h10;go_wp2_with fail;refine (Dm 115 Dc (Aa J0) MY s k G hs _).mono ?_;rintro e w' ⟨rfl,rfl⟩;go_wp2_with fail;exact ⟨⟨_,v,rfl,E.out⟩,by simp [intOf];omega⟩
   ·have x:((s[k].toNat:Int) == 35)=false:=by simp;omega
    have g:AR false s.data.toList k=k:=Ej (by simpa using hlt) b J.out;have A:=Aa g;clear b g h10;go_wp2_with fail;go_ret;refine ⟨?_,rfl⟩;have:=u.out;rw [A.out] at this;simp [<-this]
  ·go_wp2_with fail
   go_ret;refine ⟨?_,rfl⟩;have:=u.out;rw [Gf (by simp;omega)] at this;simp [<-this]
end Go.Proofs.YtipngnjffjajpaaGreatDoor
namespace Go.Proofs.YtipngnjffjajpaaGreatDoor
open Go.RowKit
open Go.Value renaming int -> M, slice -> U, bool -> zc, pointer -> zd, agg -> zf, tuple -> zh
open Go.IntKind renaming i64 -> O
open Go.Obj renaming cells -> ze
open Go.Ending renaming returned -> zg
theorem DI {W w1:World} (hb:Below W.heap.size W w1):(∀ b o,b < W.heap.size->w1.cell? ⟨b,o,none⟩=W.cell? ⟨b,o,none⟩)/\(∀ b o,b < W.heap.size->w1.frozen? ⟨b,o,none⟩=W.frozen? ⟨b,o,none⟩):=
 ⟨fun b o h=>hb.cell (p:=⟨b,o,none⟩) h,fun b o h=>hb.frozen (p:=⟨b,o,none⟩) h⟩
theorem Tryz.info5:(Tryz.prog.info? 5).map (fun i=>(i.zero,i.size,i.bytes))=some (some (M .u8 0),1,1):=by kernel_rfl
theorem Kp (s:ByteArray) (w:World) (hlim:s.size<=6000) :
  Calls Tryz.prog 158 #[.string s] w fun e w'=>e=zg (.string s)/\Below w.heap.size w w':=by
 go_enter Tryz.func158,Tryz.ntmps158;go_wp2_with fail;refine (Tryz.stringslite_Clone s _ (by omega)).mono ?_;rintro e w' ⟨rfl,a⟩;go_wp2_with fail;go_ret;exact ⟨rfl,a⟩
theorem EK (s:ByteArray) (k:Int) (a b:Nat) (hs:s.size<=6000) (hab:a<=b) (hb:b<=s.size) (w:World) :
  Calls Tryz.prog 142 #[.string s,M O k,M O (a:Int),M O (b:Int)] w fun e w'=>
   e=zg (zf #[M O k,M O (a:Int),.string (s.extract a b)])/\Below w.heap.size w w':=by
 go_enter Tryz.func142,Tryz.ntmps142;go_wp2_with fail;refine (Kp (s.extract a b) _ (by simp;omega)).mono ?_;rintro e f ⟨rfl,c⟩;have i:Below (w.heap.size+1) (w.alloc (Obj.cells #[Value.int IntKind.i64 0,Value.int IntKind.i64 0,Value.string { data:=#[] }] 44)) f:=by simpa using c
 obtain ⟨j,m⟩:=DI c;have l:w.heap.size < f.heap.size:=by have:=c.size;simp at this;omega
 go_wp2_with fail;refine bodyPost_ret (v:=zf #[M O k,M O (a:Int),.string (s.extract a b)]) (by simp [results,Tryz.results142,go_sem,j]) rfl ⟨rfl,?_⟩;have g:Below w.heap.size w f:=((Below.refl _ w).alloc (Nat.le_refl _) _).trans (c.mono (by simp));exact ((g.setCell (by simp) _).setCell (by simp) _).setCell (by simp) _
theorem EJ (s t:ByteArray) (hs:s.size<=6000) (ht:t.size<=6000) (w:World) :
  Calls Tryz.prog 159 #[.string s,.string t] w fun e w'=>e=zg (zc (decide (t.size<=s.size) && ((s.extract 0 t.size).toList == t.toList)))/\w'=w:=by
 by_cases h:t.size<=s.size
 ·go_enter Tryz.func159,Tryz.ntmps159
  go_wp2
  go_ret;exact ⟨by simp [h],rfl⟩
 ·go_enter Tryz.func159,Tryz.ntmps159
  go_wp2
  go_ret;exact ⟨by simp [h],rfl⟩
theorem Di (s t:ByteArray) (hs:s.size<=6000) (ht:t.size<=6000) (w:World) :
  Calls Tryz.prog 143 #[.string s,.string t] w fun e w'=>e=zg (zc (decide (t.size<=s.size) && ((s.extract 0 t.size).toList == t.toList)))/\w'=w:=by
 go_enter Tryz.func143,Tryz.ntmps143;go_wp2_with fail;refine (EJ s t hs ht _).mono ?_;rintro e w' ⟨rfl,rfl⟩;go_wp2_with fail;go_ret;exact ⟨rfl,rfl⟩
theorem Tryz.run44 (args:Array Value) (w:World):(callFunc 171 args).run Tryz.prog w=((Extern.BytealgIndexByte.indexByte args).run Tryz.prog w).andThen fun v w'=>.ok (.value v) w':=
 run_callFunc_indexByte Tryz.func171 (by kernel_rfl) (by kernel_rfl) (by kernel_rfl) (by kernel_rfl) args w
theorem EI (s:ByteArray) (c:UInt8) (w:World) :
  Calls Tryz.prog 160 #[.string s,M .u8 (c.toNat:Int)] w fun e w'=>e=zg (M O (Lib.indexByte s.data.toList c))/\w'=w:=by
 have a:∀ w,(callFunc 171 #[.string s,M .u8 (c.toNat:Int)]).run Tryz.prog w=.ok (.value (M O (Lib.indexByte s.data.toList c))) w:=fun w=>by
  rw [Tryz.run44,Lib.run_indexByteString];simp [Result.andThen]
 go_enter Tryz.func160,Tryz.ntmps160
 go_wp2
 go_ret;exact ⟨rfl,rfl⟩
theorem Eh (s:ByteArray) (c:UInt8) (w:World) :
  Calls Tryz.prog 144 #[.string s,M .u8 (c.toNat:Int)] w fun e w'=>e=zg (M O (Lib.indexByte s.data.toList c))/\w'=w:=by
 go_enter Tryz.func144,Tryz.ntmps144;go_wp2_with fail;refine (EI s c _).mono ?_;rintro e w' ⟨rfl,rfl⟩;go_wp2_with fail;go_ret;exact ⟨rfl,rfl⟩
def BU (a e:Int):Ending:=.panicked [{ v:=.iface 116 (zf #[M O a,M O e]),recovered:=false }]
def AI (k a:Int) (t:ByteArray):Value:=zf #[M O k,M O a,.string t]
theorem L8 (s:ByteArray) (a:Nat) (ha:a<=s.size) (hs:s.size<=6000) (h:AG isN s.data.toList a - a<=12) (w:World) :
  Calls Tryz.prog 117 #[.string s,M O (a:Int)] w fun e w'=>e=zg (AI 1 a (s.extract a (AG isN s.data.toList a)))/\Below w.heap.size w w':=by
 have g:AG isN s.data.toList a<=s.size:=by have:=Cm (p:=isN) (l:=s.data.toList) (i:=a) (by simpa using ha);simpa using this
 have j:a<=AG isN s.data.toList a:=by unfold AG;omega
 obtain ⟨b,m⟩:∃ b,b=AG isN s.data.toList a:=⟨_,rfl⟩;rw [<-m] at h g j ⊢;have c:=Dm 141 isN (Aa EH) LN s a ha hs;rw [<-m] at c;have n:=Aa c;clear m c;go_enter Tryz.func117,Tryz.ntmps117;go_wp2_with fail;refine (n.out _).mono ?_;rintro e w' ⟨rfl,rfl⟩;go_wp2_with fail;refine (EK s 1 a b hs j g _).mono ?_;rintro e r ⟨rfl,f⟩;obtain ⟨u,y⟩:=DI f;have x:w.heap.size < r.heap.size:=by have:=f.size;simp at this;omega
 go_wp2_with fail;refine bodyPost_ret (v:=AI 1 a (s.extract a b)) (by simp [AI,results,Tryz.results117,go_sem,u]) rfl ⟨rfl,?_⟩;have k:Below w.heap.size w r:=((Below.refl _ w).alloc (Nat.le_refl _) _).trans (f.mono (by simp));exact ((k.setCell (by simp) _).setCell (by simp) _).setCell (by simp) _
theorem LB (s:ByteArray) (a:Nat) (ha:a<=s.size) (hs:s.size<=6000) (h:12 < AG isN s.data.toList a - a) (w:World) :
  Calls Tryz.prog 117 #[.string s,M O (a:Int)] w fun e w'=>e=BU a 2/\Below w.heap.size w w':=by
 have f:AG isN s.data.toList a<=s.size:=by have:=Cm (p:=isN) (l:=s.data.toList) (i:=a) (by simpa using ha);simpa using this
 have g:a<=AG isN s.data.toList a:=by unfold AG;omega
 obtain ⟨b,j⟩:∃ b,b=AG isN s.data.toList a:=⟨_,rfl⟩;rw [<-j] at h f g;have c:=Dm 141 isN (Aa EH) LN s a ha hs;rw [<-j] at c;have k:=Aa c;clear j c;go_enter Tryz.func117,Tryz.ntmps117;go_wp2_with fail;refine (k.out _).mono ?_;rintro e w' ⟨rfl,rfl⟩;go_wp2_with fail;exact ⟨rfl,rfl,(Below.refl _ w).alloc (Nat.le_refl _) _⟩
theorem JW (s:ByteArray) (a:Nat) (ha:a < s.size) (hs:s.size<=6000) (h:AG isD s.data.toList a - a<=7) (h2:s[a].toNat=48->AG isD s.data.toList a - a<=1) (w:World) :
  Calls Tryz.prog 119 #[.string s,M O (a:Int)] w fun e w'=>e=zg (AI 2 a (s.extract a (AG isD s.data.toList a)))/\Below w.heap.size w w':=by
 have g:AG isD s.data.toList a<=s.size:=by have:=Cm (p:=isD) (l:=s.data.toList) (i:=a) (by simp;omega);simpa using this
 have j:a<=AG isD s.data.toList a:=by unfold AG;omega
 obtain ⟨b,u⟩:∃ b,b=AG isD s.data.toList a:=⟨_,rfl⟩;rw [<-u] at h h2 g j ⊢;have f:=Dm 118 isD (Aa BR) I6 s a (by omega) hs;rw [<-u] at f;have n:=Aa f;clear u f;by_cases h48:s[a].toNat=48
 ·have x:((s[a].toNat:Int) == 48)=true:=by simp;omega
  have B:=h2 h48;clear h2 h48;go_enter Tryz.func119,Tryz.ntmps119;go_wp2_with fail;refine (n.out _).mono ?_;rintro e w' ⟨rfl,rfl⟩;go_wp2_with fail;refine (EK s 2 a b hs j g _).mono ?_;rintro e m ⟨rfl,c⟩;obtain ⟨r,A⟩:=DI c;have y:w.heap.size < m.heap.size:=by have:=c.size;simp at this;omega
  go_wp2_with fail;refine bodyPost_ret (v:=AI 2 a (s.extract a b)) (by simp [AI,results,Tryz.results119,go_sem,r]) rfl ⟨rfl,?_⟩;have k:Below w.heap.size w m:=((Below.refl _ w).alloc (Nat.le_refl _) _).trans (c.mono (by simp));exact ((k.setCell (by simp) _).setCell (by simp) _).setCell (by simp) _
 ·have x:((s[a].toNat:Int) == 48)=false:=by simp;omega
  clear h2 h48;go_enter Tryz.func119,Tryz.ntmps119;go_wp2_with fail;refine (n.out _).mono ?_;rintro e w' ⟨rfl,rfl⟩;go_wp2_with fail;refine (EK s 2 a b hs j g _).mono ?_;rintro e m ⟨rfl,c⟩;obtain ⟨r,A⟩:=DI c;have y:w.heap.size < m.heap.size:=by have:=c.size;simp at this;omega
  go_wp2_with fail;refine bodyPost_ret (v:=AI 2 a (s.extract a b)) (by simp [AI,results,Tryz.results119,go_sem,r]) rfl ⟨rfl,?_⟩;have k:Below w.heap.size w m:=((Below.refl _ w).alloc (Nat.le_refl _) _).trans (c.mono (by simp));exact ((k.setCell (by simp) _).setCell (by simp) _).setCell (by simp) _
theorem Hy (s:ByteArray) (a:Nat) (ha:a < s.size) (hs:s.size<=6000) (h:7 < AG isD s.data.toList a - a) (w:World) :
  Calls Tryz.prog 119 #[.string s,M O (a:Int)] w fun e w'=>e=BU a 2/\Below w.heap.size w w':=by
 have f:AG isD s.data.toList a<=s.size:=by have:=Cm (p:=isD) (l:=s.data.toList) (i:=a) (by simp;omega);simpa using this
 have g:a<=AG isD s.data.toList a:=by unfold AG;omega
 obtain ⟨b,j⟩:∃ b,b=AG isD s.data.toList a:=⟨_,rfl⟩;rw [<-j] at h f g;have c:=Dm 118 isD (Aa BR) I6 s a (by omega) hs;rw [<-j] at c;have k:=Aa c;clear j c;go_enter Tryz.func119,Tryz.ntmps119;go_wp2_with fail;refine (k.out _).mono ?_;rintro e w' ⟨rfl,rfl⟩;go_wp2_with fail;exact ⟨rfl,rfl,(Below.refl _ w).alloc (Nat.le_refl _) _⟩
theorem F8 (s:ByteArray) (a:Nat) (ha:a < s.size) (hs:s.size<=6000) (h:AG isD s.data.toList a - a<=7) (h1:1 < AG isD s.data.toList a - a) (h48:s[a].toNat=48) (w:World) :
  Calls Tryz.prog 119 #[.string s,M O (a:Int)] w fun e w'=>e=BU a 1/\Below w.heap.size w w':=by
 have f:AG isD s.data.toList a<=s.size:=by have:=Cm (p:=isD) (l:=s.data.toList) (i:=a) (by simp;omega);simpa using this
 have g:a<=AG isD s.data.toList a:=by unfold AG;omega
 obtain ⟨b,j⟩:∃ b,b=AG isD s.data.toList a:=⟨_,rfl⟩;rw [<-j] at h h1 f g;have c:=Dm 118 isD (Aa BR) I6 s a (by omega) hs;rw [<-j] at c;have k:=Aa c;have m:((s[a].toNat:Int) == 48)=true:=by simp;omega
 clear j c h48;go_enter Tryz.func119,Tryz.ntmps119;go_wp2_with fail;refine (k.out _).mono ?_;rintro e w' ⟨rfl,rfl⟩;go_wp2_with fail;exact ⟨rfl,rfl,(Below.refl _ w).alloc (Nat.le_refl _) _⟩
def Dk:ByteArray:=⟨#[61,61]⟩
def Dw:ByteArray:=⟨#[123,125,40,41,59,58,33,44,61,43,45,42,60]⟩
def FV (s:ByteArray) (a:Nat):Bool:=decide (Dk.size<=(s.extract a s.size).size) && (((s.extract a s.size).extract 0 Dk.size).toList == Dk.toList)
def isS (c:UInt8):Bool:=decide (0<=Lib.indexByte Dw.data.toList c)
theorem E5 {s:ByteArray} {a:Nat} (h:FV s a=true):a+2<=s.size:=by
 simp only [FV,Bool.and_eq_true,decide_eq_true_eq] at h;have b:=h.1;simp [Dk] at b;have:(ByteArray.mk #[61,61]).size=2:=rfl;omega
theorem Lj (s:ByteArray) (a:Nat) (ha:a < s.size) (hs:s.size<=6000) (h:FV s a=true) (w:World) :
  Calls Tryz.prog 120 #[.string s,M O (a:Int)] w fun e w'=>e=zg (AI 3 a (s.extract a (a+2)))/\Below w.heap.size w w':=by
 have j:=E5 h;have c:=Di (s.extract a s.size) Dk (by simp;omega) (by decide);have e:(decide (Dk.size<=(s.extract a s.size).size) && (((s.extract a s.size).extract 0 Dk.size).toList == Dk.toList))=true:=h;rw [e] at c;unfold Dk at c;have k:=Aa c;clear c e h;go_enter Tryz.func120,Tryz.ntmps120;go_wp2_with fail;refine (k.out _).mono ?_;rintro e w' ⟨rfl,rfl⟩;go_wp2_with fail;refine (EK s 3 a (a+2) hs (by omega) j _).mono ?_;rintro e g ⟨rfl,b⟩;obtain ⟨i,m⟩:=DI b;have l:w.heap.size < g.heap.size:=by have:=b.size;simp at this;omega
 go_wp2_with fail;refine bodyPost_ret (v:=AI 3 a (s.extract a (a+2))) (by simp [AI,results,Tryz.results120,go_sem,i]) rfl ⟨rfl,?_⟩;have f:Below w.heap.size w g:=((Below.refl _ w).alloc (Nat.le_refl _) _).trans (b.mono (by simp));exact ((f.setCell (by simp) _).setCell (by simp) _).setCell (by simp) _
theorem Lk (s:ByteArray) (a:Nat) (ha:a < s.size) (hs:s.size<=6000) (h:FV s a=false) (hS:isS s[a]=true) (w:World) :
  Calls Tryz.prog 120 #[.string s,M O (a:Int)] w fun e w'=>e=zg (AI 3 a (s.extract a (a+1)))/\Below w.heap.size w w':=by
 have c:=Di (s.extract a s.size) Dk (by simp;omega) (by decide);have e:(decide (Dk.size<=(s.extract a s.size).size) && (((s.extract a s.size).extract 0 Dk.size).toList == Dk.toList))=false:=h;rw [e] at c;unfold Dk at c;have m:=Aa c;have f:=Eh Dw s[a];obtain ⟨q,g⟩:∃ q,q=Lib.indexByte Dw.data.toList s[a]:=⟨_,rfl⟩;rw [<-g] at f;have k:0<=q:=by rw [g];simpa [isS] using hS
 unfold Dw at f;have n:=Aa f;clear c e h f g hS;go_enter Tryz.func120,Tryz.ntmps120;go_wp2_with fail;refine (m.out _).mono ?_;rintro e w' ⟨rfl,rfl⟩;go_wp2_with fail;refine (n.out _).mono ?_;rintro e w' ⟨rfl,rfl⟩;go_wp2_with fail;refine (EK s 3 a (a+1) hs (by omega) (by omega) _).mono ?_;rintro e j ⟨rfl,b⟩;obtain ⟨l,u⟩:=DI b;have r:w.heap.size < j.heap.size:=by have:=b.size;simp at this;omega
 go_wp2_with fail;refine bodyPost_ret (v:=AI 3 a (s.extract a (a+1))) (by simp [AI,results,Tryz.results120,go_sem,l]) rfl ⟨rfl,?_⟩;have i:Below w.heap.size w j:=((Below.refl _ w).alloc (Nat.le_refl _) _).trans (b.mono (by simp));exact ((i.setCell (by simp) _).setCell (by simp) _).setCell (by simp) _
theorem JL (s:ByteArray) (a:Nat) (ha:a < s.size) (hs:s.size<=6000) (h:FV s a=false) (hS:isS s[a]=false) (w:World) :
  Calls Tryz.prog 120 #[.string s,M O (a:Int)] w fun e w'=>e=BU a 1/\Below w.heap.size w w':=by
 have b:=Di (s.extract a s.size) Dk (by simp;omega) (by decide);have e:(decide (Dk.size<=(s.extract a s.size).size) && (((s.extract a s.size).extract 0 Dk.size).toList == Dk.toList))=false:=h;rw [e] at b;unfold Dk at b;have i:=Aa b;have c:=Eh Dw s[a];obtain ⟨q,f⟩:∃ q,q=Lib.indexByte Dw.data.toList s[a]:=⟨_,rfl⟩;rw [<-f] at c;have g:q < 0:=by rw [f];simpa [isS] using hS
 unfold Dw at c;have j:=Aa c;clear b e h c f hS;go_enter Tryz.func120,Tryz.ntmps120;go_wp2_with fail;refine (i.out _).mono ?_;rintro e w' ⟨rfl,rfl⟩;go_wp2_with fail;refine (j.out _).mono ?_;rintro e w' ⟨rfl,rfl⟩;go_wp2_with fail;exact ⟨rfl,rfl,(Below.refl _ w).alloc (Nat.le_refl _) _⟩
def Cs (s:ByteArray) (a:Nat):Bool:=(s.data.toList.drop a).take 2 == [61,61]
theorem DX (s:ByteArray) (a:Nat):FV s a=Cs s a:=by
 have f:(s.extract a s.size).data.toList=s.data.toList.drop a:=by
  rw [Lib.extract_data,List.take_of_length_le];rw [List.length_drop,Array.length_toList];exact Nat.le_refl _
 have k:Dk.size=2:=rfl;have j:Dk.toList=[61,61]:=by rw [ByteArray.toList_eq];rfl
 have i:((s.extract a s.size).extract 0 2).toList=(s.data.toList.drop a).take 2:=by rw [Lib.extract_toList,f];rfl
 have g:(s.extract a s.size).size=(s.data.toList.drop a).length:=by rw [<-f];rfl
 simp only [FV,Cs,k,j,i,g];by_cases h:(List.take 2 (List.drop a s.data.toList) == [61,61])=true
 ·have c:=beq_iff_eq.1 h
  have b:=congrArg List.length c;rw [List.length_take] at b;simp only [List.length_cons,List.length_nil] at b;rw [h];simp;simp at b;omega
 ·have c:(List.take 2 (List.drop a s.data.toList) == [61,61])=false:=by simpa using h
  rw [c];simp
def AA (s:ByteArray) (i:Nat):Nat × Nat:=
 if h:i < s.size then
  if isL s[i]=true then (1,AG isN s.data.toList i)
  else if isD s[i]=true then (2,AG isD s.data.toList i)
  else if Cs s i=true then (3,i+2)
  else if isS s[i]=true then (3,i+1)
  else (0,i)
 else (0,i)
def AH (s:ByteArray) (i:Nat):Nat:=
 if (AA s i).1=0 then 1
 else if (AA s i).1=1/\12 < (AA s i).2 - i\/(AA s i).1=2/\7 < (AA s i).2 - i then 2
 else if (AA s i).1=2/\1 < (AA s i).2 - i/\s.data.toList[i]? = some 48 then 1
 else 0
def Bk (s:ByteArray) (a:Nat):Ending:=
 if AH s a=0 then zg (AI (AA s a).1 a (s.extract a (AA s a).2)) else BU a (AH s a)
theorem Bg (c d:UInt8):c=d ↔ c.toNat=d.toNat:=by
 constructor
 ·intro h;rw [h]
 ·intro h;exact UInt8.toNat_inj.1 h
theorem Mf {s:ByteArray} {a:Nat} (ha:a < s.size):s.data.toList[a]? = some s[a]:=by
 rw [List.getElem?_eq_getElem (by simpa using ha)];rfl
theorem GI (s:ByteArray) (a:Nat) (ha:a < s.size) (x:ByteArray) (hL:isL s[a]=true)
  (HN:Hid (∀ w,Calls Tryz.prog 117 #[.string s,M O (a:Int)] w fun e w'=>e=zg (AI 1 a x)/\Below w.heap.size w w')) (w:World) :
  Calls Tryz.prog 82 #[.string s,M O (a:Int)] w fun e w'=>e=zg (AI 1 a x)/\Below w.heap.size w w':=by
 have c:=BH s[a];rw [hL] at c;have j:=Aa c;clear c hL;go_enter Tryz.func82,Tryz.ntmps82;go_wp2_with fail;refine (j.out _).mono ?_;rintro e w' ⟨rfl,rfl⟩;go_wp2_with fail;refine (HN.out _).mono ?_;rintro e g ⟨rfl,b⟩;unfold AI;obtain ⟨i,l⟩:=DI b;have k:w.heap.size < g.heap.size:=by have:=b.size;simp at this;omega
 go_wp2_with fail;refine bodyPost_ret (v:=AI 1 a x) (by simp [AI,results,Tryz.results82,go_sem,i]) rfl ⟨rfl,?_⟩;have f:Below w.heap.size w g:=((Below.refl _ w).alloc (Nat.le_refl _) _).trans (b.mono (by simp));exact ((f.setCell (by simp) _).setCell (by simp) _).setCell (by simp) _
theorem Ga (s:ByteArray) (a:Nat) (ha:a < s.size) (x:Int) (hL:isL s[a]=true)
  (HN:Hid (∀ w,Calls Tryz.prog 117 #[.string s,M O (a:Int)] w fun e w'=>e=BU a x/\Below w.heap.size w w')) (w:World) :
  Calls Tryz.prog 82 #[.string s,M O (a:Int)] w fun e w'=>e=BU a x/\Below w.heap.size w w':=by
 have b:=BH s[a];rw [hL] at b;have i:=Aa b;clear b hL;go_enter Tryz.func82,Tryz.ntmps82;go_wp2_with fail;refine (i.out _).mono ?_;rintro e w' ⟨rfl,rfl⟩;go_wp2_with fail;refine (HN.out _).mono ?_;rintro e g ⟨rfl,c⟩;have f:Below w.heap.size w g:=((Below.refl _ w).alloc (Nat.le_refl _) _).trans (c.mono (by simp));unfold BU;go_wp2_with fail;exact ⟨rfl,rfl,f⟩
theorem FO (s:ByteArray) (a:Nat) (ha:a < s.size) (x:ByteArray) (hL:isL s[a]=false) (hD:isD s[a]=true)
  (HN:Hid (∀ w,Calls Tryz.prog 119 #[.string s,M O (a:Int)] w fun e w'=>e=zg (AI 2 a x)/\Below w.heap.size w w')) (w:World) :
  Calls Tryz.prog 82 #[.string s,M O (a:Int)] w fun e w'=>e=zg (AI 2 a x)/\Below w.heap.size w w':=by
 have c:=BH s[a];rw [hL] at c;have k:=Aa c;clear c hL;have f:=BR s[a];rw [hD] at f;have l:=Aa f;clear f hD;go_enter Tryz.func82,Tryz.ntmps82;go_wp2_with fail;refine (k.out _).mono ?_;rintro e w' ⟨rfl,rfl⟩;go_wp2_with fail;refine (l.out _).mono ?_;rintro e w' ⟨rfl,rfl⟩;go_wp2_with fail;refine (HN.out _).mono ?_;rintro e i ⟨rfl,b⟩;unfold AI;obtain ⟨j,n⟩:=DI b;have m:w.heap.size < i.heap.size:=by have:=b.size;simp at this;omega
 go_wp2_with fail;refine bodyPost_ret (v:=AI 2 a x) (by simp [AI,results,Tryz.results82,go_sem,j]) rfl ⟨rfl,?_⟩;have g:Below w.heap.size w i:=((Below.refl _ w).alloc (Nat.le_refl _) _).trans (b.mono (by simp));exact ((g.setCell (by simp) _).setCell (by simp) _).setCell (by simp) _
theorem DE (s:ByteArray) (a:Nat) (ha:a < s.size) (x:Int) (hL:isL s[a]=false) (hD:isD s[a]=true)
  (HN:Hid (∀ w,Calls Tryz.prog 119 #[.string s,M O (a:Int)] w fun e w'=>e=BU a x/\Below w.heap.size w w')) (w:World) :
  Calls Tryz.prog 82 #[.string s,M O (a:Int)] w fun e w'=>e=BU a x/\Below w.heap.size w w':=by
 have b:=BH s[a];rw [hL] at b;have j:=Aa b;clear b hL;have c:=BR s[a];rw [hD] at c;have k:=Aa c;clear c hD;go_enter Tryz.func82,Tryz.ntmps82;go_wp2_with fail;refine (j.out _).mono ?_;rintro e w' ⟨rfl,rfl⟩;go_wp2_with fail;refine (k.out _).mono ?_;rintro e w' ⟨rfl,rfl⟩;go_wp2_with fail;refine (HN.out _).mono ?_;rintro e i ⟨rfl,f⟩;have g:Below w.heap.size w i:=((Below.refl _ w).alloc (Nat.le_refl _) _).trans (f.mono (by simp));unfold BU;go_wp2_with fail;exact ⟨rfl,rfl,g⟩
theorem EG (s:ByteArray) (a:Nat) (ha:a < s.size) (x:ByteArray) (hL:isL s[a]=false) (hD:isD s[a]=false)
  (HN:Hid (∀ w,Calls Tryz.prog 120 #[.string s,M O (a:Int)] w fun e w'=>e=zg (AI 3 a x)/\Below w.heap.size w w')) (w:World) :
  Calls Tryz.prog 82 #[.string s,M O (a:Int)] w fun e w'=>e=zg (AI 3 a x)/\Below w.heap.size w w':=by
 have c:=BH s[a];rw [hL] at c;have k:=Aa c;clear c hL;have f:=BR s[a];rw [hD] at f;have l:=Aa f;clear f hD;go_enter Tryz.func82,Tryz.ntmps82;go_wp2_with fail;refine (k.out _).mono ?_;rintro e w' ⟨rfl,rfl⟩;go_wp2_with fail;refine (l.out _).mono ?_;rintro e w' ⟨rfl,rfl⟩;go_wp2_with fail;refine (HN.out _).mono ?_;rintro e i ⟨rfl,b⟩;unfold AI;obtain ⟨j,n⟩:=DI b;have m:w.heap.size < i.heap.size:=by have:=b.size;simp at this;omega
 go_wp2_with fail;refine bodyPost_ret (v:=AI 3 a x) (by simp [AI,results,Tryz.results82,go_sem,j]) rfl ⟨rfl,?_⟩;have g:Below w.heap.size w i:=((Below.refl _ w).alloc (Nat.le_refl _) _).trans (b.mono (by simp));exact ((g.setCell (by simp) _).setCell (by simp) _).setCell (by simp) _
theorem F9 (s:ByteArray) (a:Nat) (ha:a < s.size) (x:Int) (hL:isL s[a]=false) (hD:isD s[a]=false)
  (HN:Hid (∀ w,Calls Tryz.prog 120 #[.string s,M O (a:Int)] w fun e w'=>e=BU a x/\Below w.heap.size w w')) (w:World) :
  Calls Tryz.prog 82 #[.string s,M O (a:Int)] w fun e w'=>e=BU a x/\Below w.heap.size w w':=by
 have b:=BH s[a];rw [hL] at b;have j:=Aa b;clear b hL;have c:=BR s[a];rw [hD] at c;have k:=Aa c;clear c hD;go_enter Tryz.func82,Tryz.ntmps82;go_wp2_with fail;refine (j.out _).mono ?_;rintro e w' ⟨rfl,rfl⟩;go_wp2_with fail;refine (k.out _).mono ?_;rintro e w' ⟨rfl,rfl⟩;go_wp2_with fail;refine (HN.out _).mono ?_;rintro e i ⟨rfl,f⟩;have g:Below w.heap.size w i:=((Below.refl _ w).alloc (Nat.le_refl _) _).trans (f.mono (by simp));unfold BU;go_wp2_with fail;exact ⟨rfl,rfl,g⟩
theorem Lz (s:ByteArray) (a:Nat) (ha:a < s.size) (hs:s.size<=6000) (w:World) :
  Calls Tryz.prog 82 #[.string s,M O (a:Int)] w fun e w'=>e=Bk s a/\Below w.heap.size w w':=by
 by_cases hL:isL s[a]=true
 ·have c:AA s a=(1,AG isN s.data.toList a):=by simp [AA,ha,hL]
  by_cases h12:AG isN s.data.toList a - a<=12
  ·have f:Bk s a=zg (AI 1 a (s.extract a (AG isN s.data.toList a))):=by
    have:AH s a=0:=by simp [AH,c];omega
    simp [Bk,this,c]
   rw [f];exact GI s a ha _ hL (Aa (L8 s a (by omega) hs h12)) w
  ·have f:Bk s a=BU a 2:=by
    have:AH s a=2:=by simp [AH,c];omega
    simp [Bk,this]
   rw [f];exact Ga s a ha _ hL (Aa (LB s a (by omega) hs (by omega))) w
 have b:isL s[a]=false:=by simpa using hL
 by_cases hD:isD s[a]=true
 ·have c:AA s a=(2,AG isD s.data.toList a):=by simp [AA,ha,b,hD]
  by_cases h7:AG isD s.data.toList a - a<=7
  ·by_cases h48:s[a].toNat=48/\1 < AG isD s.data.toList a - a
   ·have f:Bk s a=BU a 1:=by
     have k:s[a]=48:=(Bg _ _).2 h48.1;have:AH s a=1:=by
      simp only [AH,c,Mf ha,k];rw [if_neg (by omega),if_neg (by omega),if_pos ⟨trivial,h48.2,trivial⟩]
     simp [Bk,this]
    rw [f];exact DE s a ha _ b hD (Aa (F8 s a ha hs h7 h48.2 h48.1)) w
   ·have f:Bk s a=zg (AI 2 a (s.extract a (AG isD s.data.toList a))):=by
     have:AH s a=0:=by
      simp only [AH,c,Mf ha];rw [if_neg (by omega),if_neg (by omega),if_neg];rintro ⟨_,m,l⟩;exact h48 ⟨(Bg _ _).1 (Option.some.inj l),m⟩
     simp [Bk,this,c]
    rw [f];exact FO s a ha _ b hD (Aa (JW s a ha hs h7 (fun h=>by omega))) w
  ·have f:Bk s a=BU a 2:=by
    have:AH s a=2:=by simp [AH,c];omega
    simp [Bk,this]
   rw [f];exact DE s a ha _ b hD (Aa (Hy s a ha hs (by omega))) w
 have g:isD s[a]=false:=by simpa using hD
 by_cases hE:Cs s a=true
 ·have c:AA s a=(3,a+2):=by simp [AA,ha,b,g,hE]
  have f:Bk s a=zg (AI 3 a (s.extract a (a+2))):=by
   have:AH s a=0:=by simp [AH,c]
   simp [Bk,this,c]
  rw [f];exact EG s a ha _ b g (Aa (Lj s a ha hs (by rw [DX];exact hE))) w
 have i:Cs s a=false:=by simpa using hE
 by_cases hS:isS s[a]=true
 ·have c:AA s a=(3,a+1):=by simp [AA,ha,b,g,i,hS]
  have f:Bk s a=zg (AI 3 a (s.extract a (a+1))):=by
   have:AH s a=0:=by simp [AH,c]
   simp [Bk,this,c]
  rw [f];exact EG s a ha _ b g (Aa (Lk s a ha hs (by rw [DX];exact i) hS)) w
 have j:isS s[a]=false:=by simpa using hS
 have c:AA s a=(0,a):=by simp [AA,ha,b,g,i,j]
 have f:Bk s a=BU a 1:=by
  have:AH s a=1:=by simp [AH,c]
  simp [Bk,this]
 rw [f];exact F9 s a ha _ b g (Aa (JL s a ha hs (by rw [DX];exact i) j)) w
structure Tok where
 kind:Int
 pos:Int
 text:ByteArray
def DL (t:Tok):List Value:=[M O t.kind,M O t.pos,.string t.text]
def AQ (ts:List Tok):List Value:=ts.flatMap DL
theorem DK (ts:List Tok) (t:Tok):AQ (ts++[t])=AQ ts++DL t:=by simp [AQ]
def FA (s:ByteArray) (j:Nat):Tok:=⟨(AA s j).1,j,s.extract j (AA s j).2⟩
def Bl (s:ByteArray):Nat->Bool->Nat->Sum (List Tok) (Nat × Nat)
 | 0,_,_=>.inl []
 | f+1,note,i=>
  if AR note s.data.toList i < s.size then
   if AH s (AR note s.data.toList i)=0 then
    match Bl s f false (AA s (AR note s.data.toList i)).2 with
    | .inl ts=>.inl (FA s (AR note s.data.toList i)::ts)
    | .inr x=>.inr x
   else .inr (AR note s.data.toList i,AH s (AR note s.data.toList i))
  else .inl []
def pre (ts:List Tok):Sum (List Tok) (Nat × Nat)->Sum (List Tok) (Nat × Nat)
 | .inl us=>.inl (ts++us)
 | .inr x=>.inr x
theorem Jl (r:Sum (List Tok) (Nat × Nat)):pre [] r=r:=by cases r <;> rfl
def Cc (s:ByteArray):Sum (List Tok) (Nat × Nat):=Bl s (s.size+1) false 0
def AB (s:ByteArray):List Tok:=match Cc s with | .inl ts=>ts | .inr _=>[]
def Ca (s:ByteArray):Nat:=match Cc s with | .inl _=>0 | .inr x=>x.1
def A8 (s:ByteArray):Nat:=match Cc s with | .inl _=>0 | .inr x=>x.2
theorem B5 {s:ByteArray} {j:Nat} (h:AH s j=0):j < (AA s j).2/\(AA s j).2<=s.size:=by
 by_cases hj:j < s.size
 ·have b:j < s.data.toList.length:=by simpa using hj
  have c:s.data.toList[j]=s[j]:=rfl;by_cases hL:isL s[j]=true
  ·have a:AA s j=(1,AG isN s.data.toList j):=by simp [AA,hj,hL]
   rw [a];exact ⟨FE b (by rw [c];simp [isN,hL]),by have:=Cm (p:=isN) (l:=s.data.toList) (i:=j) (by omega);simpa using this⟩
  by_cases hD:isD s[j]=true
  ·have a:AA s j=(2,AG isD s.data.toList j):=by simp [AA,hj,hL,hD]
   rw [a];exact ⟨FE b (by rw [c];exact hD),by have:=Cm (p:=isD) (l:=s.data.toList) (i:=j) (by omega);simpa using this⟩
  by_cases hE:Cs s j=true
  ·have a:AA s j=(3,j+2):=by simp [AA,hj,hL,hD,hE]
   rw [a];have:=E5 ((DX s j).trans hE);exact ⟨by simp,by simpa using this⟩
  by_cases hS:isS s[j]=true
  ·have a:AA s j=(3,j+1):=by simp [AA,hj,hL,hD,hE,hS]
   rw [a];exact ⟨by simp,by simp;omega⟩
  have a:AA s j=(0,j):=by simp [AA,hj,hL,hD,hE,hS]
  simp [AH,a] at h
 ·have a:AA s j=(0,j):=by simp [AA,hj]
  simp [AH,a] at h
theorem Fy {s:ByteArray} {j:Nat}:(AA s j).1<=3:=by
 unfold AA
 repeat (first | split | simp)
theorem Kw (s:ByteArray) (j:Nat):j<=(AA s j).2:=by
 unfold AA;split
 ·split
  ·show j<=AG isN s.data.toList j
   unfold AG;omega
  ·split
   ·show j<=AG isD s.data.toList j
    unfold AG;omega
   ·split
    ·show j<=j+2;omega
    ·split
     ·show j<=j+1;omega
     ·exact Nat.le_refl _
 ·exact Nat.le_refl _
theorem Fx {s:ByteArray} {i:Nat} (hi:i<=s.size):(AA s i).2<=s.size:=by
 unfold AA;split
 ·rename_i h
  split
  ·have:=Cm (p:=isN) (l:=s.data.toList) (i:=i) (by simpa using hi);simpa using this
  ·split
   ·have:=Cm (p:=isD) (l:=s.data.toList) (i:=i) (by simpa using hi);simpa using this
   ·split
    ·rename_i a
     exact E5 ((DX s i).trans a)
    ·split
     ·exact h
     ·exact hi
 ·exact hi
theorem Gi {s:ByteArray} {f i:Nat} {note:Bool} {ts:List Tok} (h:Cc s=pre ts (Bl s (f+1) note i)) (hlt:AR note s.data.toList i < s.size)
  (he:AH s (AR note s.data.toList i)=0):Cc s=pre (ts++[FA s (AR note s.data.toList i)]) (Bl s f false (AA s (AR note s.data.toList i)).2):=by
 rw [h];simp only [Bl,hlt,he,if_true];cases Bl s f false (AA s (AR note s.data.toList i)).2 <;> simp [pre]
theorem Gh {s:ByteArray} {f i:Nat} {note:Bool} {ts:List Tok} (h:Cc s=pre ts (Bl s (f+1) note i)) (hlt:AR note s.data.toList i < s.size)
  (he:¬ AH s (AR note s.data.toList i)=0):Cc s=.inr (AR note s.data.toList i,AH s (AR note s.data.toList i)):=by
 rw [h];simp only [Bl,hlt,he,if_true,if_false];rfl
theorem Hi {s:ByteArray} {f i:Nat} {note:Bool} {ts:List Tok} (h:Cc s=pre ts (Bl s (f+1) note i)) (hlt:¬ AR note s.data.toList i < s.size):Cc s=.inl ts:=by
 rw [h];simp only [Bl,hlt,if_false];simp [pre]
theorem DN (note:Bool) (l:List UInt8) (i:Nat):i<=AR note l i:=by unfold AR;omega
theorem GF {w w':World} {base:Nat} {e:TypeId} {size:Nat} {v:Value} {n:Nat} {xs:List Value} (h:w.ownsRow base e size v n xs) (hb:Below w.heap.size w w'):w'.ownsRow base e size v n xs:=by
 obtain ⟨k,a⟩:=h;refine ⟨k,?_⟩;rcases a with a | ⟨g,c,b,i,j,f,r⟩
 ·exact Or.inl a
 ·refine Or.inr ⟨g,c,b,i,j,?_,r⟩
  rw [hb.block g ?_]
  ·exact f
  ·exact (Array.getElem?_eq_some_iff.1 f).1
end Go.Proofs.YtipngnjffjajpaaGreatDoor
