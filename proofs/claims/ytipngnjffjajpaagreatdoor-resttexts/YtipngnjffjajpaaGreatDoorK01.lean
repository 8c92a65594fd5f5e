/- Regions that draw, in few words. -/
import Derived.Deep.RegionHeld3
import Derived.RowKit
import Derived.OpenShut
import Derived.Deep.Draws
import Derived.Lib.Builder
import Derived.Test.YtipngnjffjajpaaGreatDoorRows
import Derived.WalkKit
import Derived.WalkSpells
import Derived.WalkLawsBesides
import Derived.Test.YtipngnjffjajpaaGreatDoorShelf
import Derived.Lib.Strings
import Derived.Lib.Bytealg
set_option linter.unusedVariables false
set_option maxHeartbeats 8000000
set_option maxRecDepth 100000
namespace Go.Proofs.YtipngnjffjajpaaGreatDoor
open Go.RowKit
open Go.Value renaming int -> O, slice -> zd, bool -> ze, agg -> zf, pointer -> zh, tuple -> zj
open Go.IntKind renaming i64 -> zc
open Go.Obj renaming cells -> zg
open Go.Ending renaming returned -> zi
abbrev Ov (w w':World):Prop:=Below w.heap.size w w'
theorem nm {α:Type} (x:α):∃ q,q=x:=⟨x,rfl⟩
theorem aqt:(∀ (l:List Oper) (i:Nat) (h:i < l.toArray.size),l.toArray[i]'h=l[i]'(by simpa using h))/\(∀ (a:Oper) (l:List Oper) (i:Nat) (h:i+1 < (a::l).length),(a::l)[i+1]'h=l[i]'(by simpa using h))/\(∀ (a:Oper) (l:List Oper) (h:0 < (a::l).length),(a::l)[0]'h=a)/\(∀ (a:Act) (d:Tmp) (v:Value),a.put (some d) v={ a with tmps:=a.tmps.setIfInBounds d v })/\(∀ (a:Act) (v:Value),a.put none v=a)/\(∀ (l:List Value) (i:Nat) (x:Value),l.toArray.setIfInBounds i x=(l.set i x).toArray)/\(∀ (l:List Value) (a x:Value),(a::l).set 0 x=x::l)/\(∀ (l:List Value) (a x:Value) (i:Nat),(a::l).set (i+1) x=a::l.set i x):=
 ⟨fun _ _ _=>by simp,fun _ _ _ _=>rfl,fun _ _ _=>rfl,fun _ _ _=>rfl,fun _ _=>rfl,fun _ _ _=>by simp,fun _ _ _=>rfl,fun _ _ _ _=>rfl⟩
theorem kT {P:Program} {ops:Array Oper} {Q:Exit->Act->World->Prop} {md:Region.Mode} {S:World->Prop} {oi:Oper} {v:Value} {fuel:Nat} {listed:Array Bool} {a:Act} {w:World} {Z:Prop} (i:Nat) (h:Z)
  (hi:ops[i]? = some oi:=by rfl) (hy:YieldsIf P ops S oi v a:=by (refine Or.inl ⟨by rfl,?_⟩;intro f b;(try dsimp only at b);go_simp;try with_reducible rfl)) (hS:S w:=by assumption)
  (hs:Region.noSelect ops=true:=by kernel_rfl) (hf:Region.free md ops listed i=true:=by kernel_rfl) (hr:(Region.ready md ops listed).contains i=true:=by kernel_rfl)
  (hQ:∀ c a w,Q (.panic c) (a.put oi.dst v) w->Q (.panic c) a w:=by exact fun _ _ _ h=>h)
  (hz:Z->wpAnyH P md ops Q S fuel (listed.setIfInBounds i true) (a.put oi.dst v) w:=by (intro hz;(try simp only [aqt]);exact hz)):wpAnyH P md ops Q S (fuel+1) listed a w:=
 wpAnyH_take hi hs hf hr hQ hy hS (hz h)
abbrev IQ (P:Program) (md:Region.Mode) (ops:Array Oper) (Q:Exit->Act->World->Prop) (S:World->Prop) (fuel:Nat) (listed:Array Bool) (a:Act) (w:World) (i:Nat) (o:Oper):Prop:=
 ∀ K':Act->World->Prop,Shut (∀ a w,S w->(S w->wpAnyH P md ops Q S fuel (listed.setIfInBounds i true) a w)->K' a w)->if Region.wanted o (yielded ops a.tmps)=true then Oper.wp P o a w K' Q else K' (a.put o.dst undef) w
theorem rdA {P:Program} {ops:Array Oper} {Q:Exit->Act->World->Prop} {md:Region.Mode} {S:World->Prop} {fuel:Nat} {listed:Array Bool} {a:Act} {w:World} (i:Nat) {o:Oper} (ho:ops[i]? = some o) (h:IQ P md ops Q S fuel listed a w i o)
  (hr:Region.ready md ops listed=[i]:=by kernel_rfl):wpAnyH P md ops Q S (fuel+1) listed a w:=
 wpAnyH_ready hr (by simp) (AllReadyH.cons ho h AllReadyH.nil)
theorem rdB {P:Program} {ops:Array Oper} {Q:Exit->Act->World->Prop} {md:Region.Mode} {S:World->Prop} {fuel:Nat} {listed:Array Bool} {a:Act} {w:World} (i j:Nat) {o p:Oper} (ho:ops[i]? = some o) (h:IQ P md ops Q S fuel listed a w i o) (hp:ops[j]? = some p) (h2:IQ P md ops Q S fuel listed a w j p)
  (hr:Region.ready md ops listed=[i,j]:=by kernel_rfl):wpAnyH P md ops Q S (fuel+1) listed a w:=
 wpAnyH_ready hr (by simp) (AllReadyH.cons ho h (AllReadyH.cons hp h2 AllReadyH.nil))
theorem rdC {P:Program} {ops:Array Oper} {Q:Exit->Act->World->Prop} {md:Region.Mode} {S:World->Prop} {fuel:Nat} {listed:Array Bool} {a:Act} {w:World} (i j k:Nat) {o p q:Oper} (ho:ops[i]? = some o) (h:IQ P md ops Q S fuel listed a w i o) (hp:ops[j]? = some p) (h2:IQ P md ops Q S fuel listed a w j p) (hq:ops[k]? = some q) (h3:IQ P md ops Q S fuel listed a w k q)
  (hr:Region.ready md ops listed=[i,j,k]:=by kernel_rfl):wpAnyH P md ops Q S (fuel+1) listed a w:=
 wpAnyH_ready hr (by simp) (AllReadyH.cons ho h (AllReadyH.cons hp h2 (AllReadyH.cons hq h3 AllReadyH.nil)))
theorem xK {S:World->Prop} {V:Act->World->Prop} {K':Act->World->Prop} {a:Act} {w:World} {Z:Prop} (hK:Shut (∀ a w,S w->(S w->V a w)->K' a w)) (hS:S w) (h:S w->Z) (hz:Z->V a w:=by (intro hz;(try simp only [aqt]);exact hz)):K' a w:=
 hK.out a w hS (fun b=>hz (h b))
theorem gS {P:Program} {ops:Array Oper} {Q:Exit->Act->World->Prop} (S:World->Prop) {id:Nat} {a:Act} {w:World} (hS:S w.drew)
  (h:S w.drew->wpAnyH P .any ops Q S ops.size (Array.replicate ops.size false) a w.drew) (hm:P.follows .mixedOrders=true:=by kernel_rfl):(Code.region id ops true).wp P Q a w:=
 wp_region_held_drew hm hS h
theorem gE {P:Program} {ops:Array Oper} {Q:Exit->Act->World->Prop} {md:Region.Mode} {S:World->Prop} {fuel:Nat} {listed:Array Bool} {a:Act} {w:World} (h:Q .normal a w) (hr:Region.ready md ops listed=[]:=by kernel_rfl):wpAnyH P md ops Q S fuel listed a w:=
 wpAnyH_done hr h fuel
theorem A5 (w:World) (l:List Value) (T:Nat):∀ (j:Nat) (u:Value),l[j]? = some u->(w.alloc (.cells l.toArray T)).cell? ⟨w.heap.size,j,none⟩=some u:=fun j u hu=>by
 rw [Lib.cell_of_heap (show (w.heap.push (.cells l.toArray T))[w.heap.size]? = some (.cells l.toArray T) by simp)];simpa using hu
theorem Jx {w:World} {a:Addr} {u:Value} (h:w.cell? a=some u) (o:Obj):(w.alloc o).cell? a=some u:=by
 rw [World.cell?_alloc_some _ _ _ (by rw [h];rfl)];exact h
theorem alS (w:World) (o:Obj):(w.alloc o).heap.size=w.heap.size+1:=by simp
theorem Gy (w:World) (l:List Value) (T:Nat) (o1:Obj):∀ (j:Nat) (u:Value),l[j]? = some u->((w.alloc (.cells l.toArray T)).alloc o1).cell? ⟨w.heap.size,j,none⟩=some u:=fun j u hu=>by
 have h:=A5 w l T j u hu;exact (Jx h _)
theorem Ky (w:World) (o0:Obj) (l:List Value) (T:Nat):∀ (j:Nat) (u:Value),l[j]? = some u->((w.alloc o0).alloc (.cells l.toArray T)).cell? ⟨w.heap.size+1,j,none⟩=some u:=fun j u hu=>by
 have h:=A5 (w.alloc o0) l T j u hu;rw [alS] at h;exact h
theorem SE (w:World) (l:List Value) (T:Nat) (o1:Obj) (o2:Obj):∀ (j:Nat) (u:Value),l[j]? = some u->(((w.alloc (.cells l.toArray T)).alloc o1).alloc o2).cell? ⟨w.heap.size,j,none⟩=some u:=fun j u hu=>by
 have h:=A5 w l T j u hu;exact (Jx (Jx h _) _)
theorem SC (w:World) (o0:Obj) (l:List Value) (T:Nat) (o2:Obj):∀ (j:Nat) (u:Value),l[j]? = some u->(((w.alloc o0).alloc (.cells l.toArray T)).alloc o2).cell? ⟨w.heap.size+1,j,none⟩=some u:=fun j u hu=>by
 have h:=A5 (w.alloc o0) l T j u hu;rw [alS] at h;exact (Jx h _)
theorem SB (w:World) (o0:Obj) (o1:Obj) (l:List Value) (T:Nat):∀ (j:Nat) (u:Value),l[j]? = some u->(((w.alloc o0).alloc o1).alloc (.cells l.toArray T)).cell? ⟨w.heap.size+1+1,j,none⟩=some u:=fun j u hu=>by
 have h:=A5 ((w.alloc o0).alloc o1) l T j u hu;rw [alS,alS] at h;exact h
theorem rc2 {P:Nat->Value->Prop} {a0 a1:Value} {l:List Value} (h:∀ (j:Nat) (u:Value),(a0::a1::l)[j]? = some u->P j u):P 0 a0/\P 1 a1:=⟨h 0 _ rfl,h 1 _ rfl⟩
theorem rc4 {P:Nat->Value->Prop} {a0 a1 a2 a3:Value} {l:List Value} (h:∀ (j:Nat) (u:Value),(a0::a1::a2::a3::l)[j]? = some u->P j u):P 0 a0/\P 1 a1/\P 2 a2/\P 3 a3:=⟨h 0 _ rfl,h 1 _ rfl,h 2 _ rfl,h 3 _ rfl⟩
theorem rc5 {P:Nat->Value->Prop} {a0 a1 a2 a3 a4:Value} {l:List Value} (h:∀ (j:Nat) (u:Value),(a0::a1::a2::a3::a4::l)[j]? = some u->P j u):P 0 a0/\P 1 a1/\P 2 a2/\P 3 a3/\P 4 a4:=⟨h 0 _ rfl,h 1 _ rfl,h 2 _ rfl,h 3 _ rfl,h 4 _ rfl⟩
theorem AR {P:Nat->Value->Prop} {a0 a1 a2 a3 a4 a5 a6 a7 a8 a9 a10 a11:Value} {l:List Value} (h:∀ (j:Nat) (u:Value),(a0::a1::a2::a3::a4::a5::a6::a7::a8::a9::a10::a11::l)[j]? = some u->P j u):P 0 a0/\P 1 a1/\P 2 a2/\P 3 a3/\P 4 a4/\P 5 a5/\P 6 a6/\P 7 a7/\P 8 a8/\P 9 a9/\P 10 a10/\P 11 a11:=⟨h 0 _ rfl,h 1 _ rfl,h 2 _ rfl,h 3 _ rfl,h 4 _ rfl,h 5 _ rfl,h 6 _ rfl,h 7 _ rfl,h 8 _ rfl,h 9 _ rfl,h 10 _ rfl,h 11 _ rfl⟩
theorem B8 {P:Nat->Value->Prop} {a0 a1 a2 a3 a4 a5 a6 a7 a8 a9 a10 a11 a12:Value} {l:List Value} (h:∀ (j:Nat) (u:Value),(a0::a1::a2::a3::a4::a5::a6::a7::a8::a9::a10::a11::a12::l)[j]? = some u->P j u):P 0 a0/\P 1 a1/\P 2 a2/\P 3 a3/\P 4 a4/\P 5 a5/\P 6 a6/\P 7 a7/\P 8 a8/\P 9 a9/\P 10 a10/\P 11 a11/\P 12 a12:=⟨h 0 _ rfl,h 1 _ rfl,h 2 _ rfl,h 3 _ rfl,h 4 _ rfl,h 5 _ rfl,h 6 _ rfl,h 7 _ rfl,h 8 _ rfl,h 9 _ rfl,h 10 _ rfl,h 11 _ rfl,h 12 _ rfl⟩
theorem ovS {V W:World} (h:Below V.heap.size V W):∀ a:Addr,(V.cell? a).isSome=true->W.cell? a=V.cell? a:=fun a ha=>by
 obtain ⟨u,hu⟩:=Option.isSome_iff_exists.1 ha;exact h.cell (World.block_lt_of_cell? V _ hu)
theorem kO {P:Program} {ops:Array Oper} {Q:Exit->Act->World->Prop} {md:Region.Mode} {S:World->Prop} {oi:Oper} {v:Value} {fuel:Nat} {listed:Array Bool} {a:Act} {w:World} {Z:Prop} (i:Nat) (h:Z)
  (hi:ops[i]? = some oi:=by rfl) (hy:YieldsIf P ops S oi v a:=by (refine Or.inl ⟨by rfl,?_⟩;intro f b;have b:=ovS b;go_simp;try with_reducible rfl)) (hS:S w:=by assumption)
  (hs:Region.noSelect ops=true:=by kernel_rfl) (hf:Region.free md ops listed i=true:=by kernel_rfl) (hr:(Region.ready md ops listed).contains i=true:=by kernel_rfl)
  (hQ:∀ c a w,Q (.panic c) (a.put oi.dst v) w->Q (.panic c) a w:=by exact fun _ _ _ h=>h)
  (hz:Z->wpAnyH P md ops Q S fuel (listed.setIfInBounds i true) (a.put oi.dst v) w:=by (intro hz;(try simp only [aqt]);exact hz)):wpAnyH P md ops Q S (fuel+1) listed a w:=
 wpAnyH_take hi hs hf hr hQ hy hS (hz h)
def Hx (p:Prop):Prop:=p
theorem Hx.o {p:Prop} (h:Hx p):p:=h
theorem ce1 {w w':World} (hb:Below w.heap.size w w') {a:Addr} {u:Value} (h:w.cell? a=some u):w'.cell? a=some u:=by
 rw [hb.cell (World.block_lt_of_cell? w _ h)];exact h
theorem bA (w:World) (o:Obj):Below w.heap.size w (w.alloc o):=(Below.refl _ w).alloc (Nat.le_refl _) o
theorem bD (w:World):Below w.heap.size w w.drew:=(Below.refl _ w).drew
theorem mo {P:Program} {f:FuncId} {args:Array Value} {w:World} {v:Ending} {R:World->Prop} {Q:Ending->World->Prop} (h:Calls P f args w fun e w'=>e=v/\R w') (k:∀ w',R w'->Q v w'):Calls P f args w Q:=h.mono fun e w' ⟨h1,h2⟩=>by rw [h1];exact k w' h2
theorem bL {w:World} {a:Addr} {u:Value} (h:w.cell? a=some u):a.block < w.heap.size:=World.block_lt_of_cell? w _ h
end Go.Proofs.YtipngnjffjajpaaGreatDoor
namespace Go.Proofs.YtipngnjffjajpaaGreatDoor
open Go.RowKit
open Go.Value renaming int -> O, slice -> zd, bool -> ze, agg -> zf, pointer -> zh, tuple -> zj
open Go.IntKind renaming i64 -> zc
open Go.Obj renaming cells -> zg
open Go.Ending renaming returned -> zi
theorem Aa {p:Prop} (h:p):Hid p:=h
def isL (c:UInt8):Bool:=decide (97<=c.toNat/\c.toNat<=122)
def isD (c:UInt8):Bool:=decide (48<=c.toNat/\c.toNat<=57)
def isN (c:UInt8):Bool:=isL c || isD c
def DP (c:UInt8):Bool:=decide (¬ c.toNat=10)
theorem BS (c:UInt8) (w:World) :
  Calls Tryz.prog 116 #[O .u8 (c.toNat:Int)] w fun e w'=>e=zi (ze (isL c))/\w'=w:=by
 by_cases h1:(97:Int)<=(c.toNat:Int)
 ·by_cases h2:(c.toNat:Int)<=122
  ·go_enter Tryz.func116,Tryz.ntmps116
   go_wp2
   go_ret;exact ⟨by simp [isL];omega,rfl⟩
  ·go_enter Tryz.func116,Tryz.ntmps116
   go_wp2
   go_ret;exact ⟨by simp [isL];omega,rfl⟩
 ·go_enter Tryz.func116,Tryz.ntmps116
  go_wp2
  go_ret;exact ⟨by simp [isL];omega,rfl⟩
theorem B3 (c:UInt8) (w:World) :
  Calls Tryz.prog 118 #[O .u8 (c.toNat:Int)] w fun e w'=>e=zi (ze (isD c))/\w'=w:=by
 by_cases h1:(48:Int)<=(c.toNat:Int)
 ·by_cases h2:(c.toNat:Int)<=57
  ·go_enter Tryz.func118,Tryz.ntmps118
   go_wp2
   go_ret;exact ⟨by simp [isD];omega,rfl⟩
  ·go_enter Tryz.func118,Tryz.ntmps118
   go_wp2
   go_ret;exact ⟨by simp [isD];omega,rfl⟩
 ·go_enter Tryz.func118,Tryz.ntmps118
  go_wp2
  go_ret;exact ⟨by simp [isD];omega,rfl⟩
theorem M2 (c:UInt8) (w:World) :
  Calls Tryz.prog 115 #[O .u8 (c.toNat:Int)] w fun e w'=>e=zi (ze (DP c))/\w'=w:=by
 go_enter Tryz.func115,Tryz.ntmps115
 go_wp2
 go_ret;exact ⟨congrArg (fun b=>Ending.returned (ze b)) (by rw [Bool.eq_iff_iff];simp [DP];omega),rfl⟩
theorem FO (c:UInt8) (w:World) :
  Calls Tryz.prog 141 #[O .u8 (c.toNat:Int)] w fun e w'=>e=zi (ze (isN c))/\w'=w:=by
 by_cases h:isL c=true
 ·go_enter Tryz.func141,Tryz.ntmps141
  go_wp2_with fail;refine (BS c _).mono ?_;rintro e w' ⟨rfl,rfl⟩;go_wp2_with fail;go_ret;exact ⟨by simp [isN,h],rfl⟩
 ·go_enter Tryz.func141,Tryz.ntmps141
  go_wp2_with fail;refine (BS c _).mono ?_;rintro e w' ⟨rfl,rfl⟩;go_wp2_with fail;refine (B3 c _).mono ?_;rintro e w' ⟨rfl,rfl⟩;go_wp2_with fail;go_ret;exact ⟨by simp [isN,h],rfl⟩
def Az (p:UInt8->Bool) (l:List UInt8) (i:Nat):Nat:=i+((l.drop i).takeWhile p).length
theorem DA {p:UInt8->Bool} {l:List UInt8} {i:Nat} (h:i < l.length) (hp:p l[i]=true):Az p l i=Az p l (i+1):=by
 unfold Az;rw [List.drop_eq_getElem_cons h,List.takeWhile_cons,if_pos hp];simp;omega
theorem Fp {p:UInt8->Bool} {l:List UInt8} {i:Nat} (h:i < l.length) (hp:p l[i]=false):Az p l i=i:=by
 unfold Az;rw [List.drop_eq_getElem_cons h,List.takeWhile_cons,if_neg (by simp [hp])];simp
theorem F4 {p:UInt8->Bool} {l:List UInt8} {i:Nat} (h:l.length<=i):Az p l i=i:=by
 unfold Az;rw [List.drop_of_length_le h];simp
theorem D3 (F:FuncId) (p:UInt8->Bool) (hF:Hid (∀ (c:UInt8) (w:World),Calls Tryz.prog F #[O .u8 (c.toNat:Int)] w fun e w'=>e=zi (ze (p c))/\w'=w))
  (hC:∀ (args:Array Value) (w:World),(callFunc F args).run Tryz.prog w=.ok (.enter F args) w) (s:ByteArray) (a:Nat) (ha:a<=s.size) (hs:s.size<=6000) (w:World) :
  Calls Tryz.prog 114 #[.string s,O zc (a:Int),.func (.func F) #[] #[]] w fun e w'=>e=zi (O zc (Az p s.data.toList a:Nat))/\w'=w:=by
 go_enter Tryz.func114,Tryz.ntmps114
 go_wp2
 go_loop [1] (fun i=>∃ k:Nat,k<=s.size/\i=O zc k/\Az p s.data.toList k=Az p s.data.toList a) (fun i=>s.size - (intOf i).toNat)
 case atStart=>exact ⟨a,ha,rfl,rfl⟩
 case round=>
  obtain ⟨k,l,rfl,b⟩:=hrel;have g:=Aa b;clear b;by_cases hlt:k < s.size
  ·go_wp2_with fail
   refine (hF.out _ _).mono ?_;rintro e w' ⟨rfl,rfl⟩;by_cases hp:p s[k]=true
   ·go_wp2_with fail
    refine ⟨⟨k+1,by omega,by go_num,?_⟩,by simp [intOf];omega⟩;rw [<-g.out];exact (DA (by simpa using hlt) hp).symm
   ·have f:p s[k]=false:=by simpa using hp
    go_wp2_with fail;go_ret;refine ⟨?_,rfl⟩;have:=g.out;rw [Fp (by simpa using hlt) f] at this;simp [<-this]
  ·go_wp2_with fail
   go_ret;have j:k=s.size:=by omega
   refine ⟨?_,rfl⟩;have:=g.out;rw [F4 (by simp;omega)] at this;simp [<-this]
def C7 (c:UInt8):Bool:=decide (c.toNat=32\/c.toNat=9\/c.toNat=10)
def Cz:Bool->List UInt8->Nat
 | _,[]=>0
 | true,c::l=>1+Cz (DP c) l
 | false,c::l=>if c.toNat=35 then 1+Cz true l else if C7 c=true then 1+Cz false l else 0
def AI (note:Bool) (l:List UInt8) (i:Nat):Nat:=i+Cz note (l.drop i)
theorem NM (note:Bool) (l:List UInt8):Cz note l<=l.length:=by
 induction l generalizing note with
 | nil=>cases note <;> simp [Cz]
 | cons c l ih=>
  cases note with
  | true=>simp only [Cz,List.length_cons];have:=ih (DP c);omega
  | false=>
   have b:=ih true;have a:=ih false;simp only [Cz,List.length_cons];split
   ·omega
   ·split <;> omega
theorem NN {note:Bool} {l:List UInt8} {i:Nat} (h:i<=l.length):AI note l i<=l.length:=by
 have:=NM note (l.drop i);simp only [List.length_drop] at this;unfold AI;omega
theorem Ll (l:List UInt8):Cz true l=(l.takeWhile DP).length+Cz false (l.drop (l.takeWhile DP).length):=by
 induction l with
 | nil=>simp [Cz]
 | cons c l ih=>
  by_cases h:DP c=true
  ·rw [List.takeWhile_cons,if_pos h]
   simp only [Cz,h,List.length_cons,List.drop_succ_cons];omega
  ·have b:DP c=false:=by simpa using h
   rw [List.takeWhile_cons,if_neg h];simp only [Cz,b,List.length_nil,List.drop_zero];have a:c.toNat=10:=by simpa [DP] using h
   rw [if_neg (by omega),if_pos (by simp [C7,a])];omega
theorem Gn {l:List UInt8} {i:Nat} (h:i < l.length) (h35:¬ l[i].toNat=35) (hb:C7 l[i]=true):AI false l i=AI false l (i+1):=by
 unfold AI;rw [List.drop_eq_getElem_cons h];simp only [Cz,h35,hb,if_true,if_false];omega
theorem Lm {l:List UInt8} {i:Nat} (h:i < l.length) (h35:l[i].toNat=35):AI false l i=AI false l (Az DP l i):=by
 unfold AI Az;have e:Cz false (l.drop i)=Cz true (l.drop i):=by
  rw [List.drop_eq_getElem_cons h];simp [Cz,h35,DP]
 rw [e,Ll,List.drop_drop];omega
theorem Fq {l:List UInt8} {i:Nat} (h:i < l.length) (h35:¬ l[i].toNat=35) (hb:C7 l[i]=false):AI false l i=i:=by
 unfold AI;rw [List.drop_eq_getElem_cons h];simp [Cz,h35,hb]
theorem Ip {note:Bool} {l:List UInt8} {i:Nat} (h:l.length<=i):AI note l i=i:=by
 unfold AI;rw [List.drop_of_length_le h];simp [Cz]
theorem GX {p:UInt8->Bool} {l:List UInt8} {i:Nat} (h:i < l.length) (hp:p l[i]=true):i < Az p l i:=by
 unfold Az;rw [List.drop_eq_getElem_cons h,List.takeWhile_cons,if_pos hp];simp
theorem Cy {p:UInt8->Bool} {l:List UInt8} {i:Nat} (h:i<=l.length):Az p l i<=l.length:=by
 unfold Az;have:=(List.takeWhile_sublist p (l:=l.drop i)).length_le;simp only [List.length_drop] at this;omega
theorem RD (args:Array Value) (w:World):(callFunc 115 args).run Tryz.prog w=.ok (.enter 115 args) w:=by simp [go_sem]
theorem LR (args:Array Value) (w:World):(callFunc 118 args).run Tryz.prog w=.ok (.enter 118 args) w:=by simp [go_sem]
theorem Pb (args:Array Value) (w:World):(callFunc 141 args).run Tryz.prog w=.ok (.enter 141 args) w:=by simp [go_sem]
theorem JL (s:ByteArray) (a:Nat) (ha:a<=s.size) (hs:s.size<=6000) (w:World) :
  Calls Tryz.prog 81 #[.string s,O zc (a:Int)] w fun e w'=>e=zi (O zc (AI false s.data.toList a:Nat))/\w'=w:=by
 go_enter Tryz.func81,Tryz.ntmps81
 go_wp2
 go_loop [1] (fun i=>∃ k:Nat,k<=s.size/\i=O zc k/\AI false s.data.toList k=AI false s.data.toList a) (fun i=>s.size - (intOf i).toNat)
 case atStart=>exact ⟨a,ha,rfl,rfl⟩
 case round=>
  obtain ⟨k,H,rfl,n⟩:=hrel;have v:=Aa n;clear n;by_cases hlt:k < s.size
  ·have f:¬ s[k].toNat=35->C7 s[k]=true->AI false s.data.toList (k+1)=AI false s.data.toList a:=fun b J=>by
    rw [<-v.out];exact (Gn (by simpa using hlt) b J).symm
   have c:=Aa f;clear f;by_cases h32:s[k].toNat=32
   ·have j:((s[k].toNat:Int) == 32)=true:=by simp;omega
    have r:=Aa h32;clear h32;go_wp2_with fail;exact ⟨⟨k+1,by omega,by go_num,c.out (by have:=r.out;omega) (by simp [C7,r.out])⟩,by simp [intOf];omega⟩
   by_cases h9:s[k].toNat=9
   ·have F:((s[k].toNat:Int) == 9)=true:=by simp;omega
    have j:((s[k].toNat:Int) == 32)=false:=by simp;omega
    have G:=Aa h9;clear h9 h32;go_wp2_with fail;exact ⟨⟨k+1,by omega,by go_num,c.out (by have:=G.out;omega) (by simp [C7,G.out])⟩,by simp [intOf];omega⟩
   by_cases h10:s[k].toNat=10
   ·have A:((s[k].toNat:Int) == 10)=true:=by simp;omega
    have j:((s[k].toNat:Int) == 32)=false:=by simp;omega
    have F:((s[k].toNat:Int) == 9)=false:=by simp;omega
    have u:=Aa h10;clear h9 h32 h10;go_wp2_with fail;exact ⟨⟨k+1,by omega,by go_num,c.out (by have:=u.out;omega) (by simp [C7,u.out])⟩,by simp [intOf];omega⟩
   have j:((s[k].toNat:Int) == 32)=false:=by simp;omega
   have F:((s[k].toNat:Int) == 9)=false:=by simp;omega
   have A:((s[k].toNat:Int) == 10)=false:=by simp;omega
   have C:C7 s[k]=false:=by simp [C7];omega
   have K:=Aa C;clear C h32 h9;by_cases b:s[k].toNat=35
   ·have y:((s[k].toNat:Int) == 35)=true:=by simp;omega
    have I:k < Az DP s.data.toList k:=GX (by simpa using hlt) (by simp [DP];exact h10);have x:Az DP s.data.toList k<=s.size:=by have:=Cy (p:=DP) (l:=s.data.toList) (i:=k) (by simp;omega);simpa using this
    have e:AI false s.data.toList (Az DP s.data.toList k)=AI false s.data.toList a:=by
     rw [<-v.out];exact (Lm (by simpa using hlt) b).symm
    have E:=Aa e;clear e b h10;go_wp2_with fail;refine (D3 115 DP (Aa M2) RD s k H hs _).mono ?_;rintro e w' ⟨rfl,rfl⟩;go_wp2_with fail;exact ⟨⟨_,x,rfl,E.out⟩,by simp [intOf];omega⟩
   ·have y:((s[k].toNat:Int) == 35)=false:=by simp;omega
    have g:AI false s.data.toList k=k:=Fq (by simpa using hlt) b K.out;have B:=Aa g;clear b g h10;go_wp2_with fail;go_ret;refine ⟨?_,rfl⟩;have:=v.out;rw [B.out] at this;simp [<-this]
  ·go_wp2_with fail
   go_ret;refine ⟨?_,rfl⟩;have:=v.out;rw [Ip (by simp;omega)] at this;simp [<-this]
end Go.Proofs.YtipngnjffjajpaaGreatDoor
namespace Go.Proofs.YtipngnjffjajpaaGreatDoor
open Go.RowKit
open Go.Value renaming int -> O, slice -> zd, bool -> ze, agg -> zf, pointer -> zh, tuple -> zj
open Go.IntKind renaming i64 -> zc
open Go.Obj renaming cells -> zg
open Go.Ending renaming returned -> zi
theorem Eb {W w1:World} (hb:Below W.heap.size W w1):(∀ b o,b < W.heap.size->w1.cell? ⟨b,o,none⟩=W.cell? ⟨b,o,none⟩)/\(∀ b o,b < W.heap.size->w1.frozen? ⟨b,o,none⟩=W.frozen? ⟨b,o,none⟩):=
 ⟨fun b o h=>hb.cell (p:=⟨b,o,none⟩) h,fun b o h=>hb.frozen (p:=⟨b,o,none⟩) h⟩
theorem Tryz.info5:(Tryz.prog.info? 5).map (fun i=>(i.zero,i.size,i.bytes))=some (some (O .u8 0),1,1):=by kernel_rfl
theorem Np (s:ByteArray) (w:World) (hlim:s.size<=6000) :
  Calls Tryz.prog 158 #[.string s] w fun e w'=>e=zi (.string s)/\Below w.heap.size w w':=by
 go_enter Tryz.func158,Tryz.ntmps158;go_wp2_with fail;refine (Tryz.stringslite_Clone s _ (by omega)).mono ?_;rintro e w' ⟨rfl,a⟩;go_wp2_with fail;go_ret;exact ⟨rfl,a⟩
theorem FZ (s:ByteArray) (k:Int) (a b:Nat) (hs:s.size<=6000) (hab:a<=b) (hb:b<=s.size) (w:World) :
  Calls Tryz.prog 142 #[.string s,O zc k,O zc (a:Int),O zc (b:Int)] w fun e w'=>
   e=zi (zf #[O zc k,O zc (a:Int),.string (s.extract a b)])/\Below w.heap.size w w':=by
 go_enter Tryz.func142,Tryz.ntmps142;go_wp2_with fail;refine (Np (s.extract a b) _ (by simp;omega)).mono ?_;rintro e f ⟨rfl,c⟩;have i:Below (w.heap.size+1) (w.alloc (Obj.cells #[Value.int IntKind.i64 0,Value.int IntKind.i64 0,Value.string { data:=#[] }] 44)) f:=by simpa using c
 obtain ⟨j,n⟩:=Eb c;have l:w.heap.size < f.heap.size:=by have:=c.size;simp at this;omega
 go_wp2_with fail;refine bodyPost_ret (v:=zf #[O zc k,O zc (a:Int),.string (s.extract a b)]) (by simp [results,Tryz.results142,go_sem,j]) rfl ⟨rfl,?_⟩;have g:Below w.heap.size w f:=((Below.refl _ w).alloc (Nat.le_refl _) _).trans (c.mono (by simp));exact ((g.setCell (by simp) _).setCell (by simp) _).setCell (by simp) _
theorem FQ (s t:ByteArray) (hs:s.size<=6000) (ht:t.size<=6000) (w:World) :
  Calls Tryz.prog 159 #[.string s,.string t] w fun e w'=>e=zi (ze (decide (t.size<=s.size) && ((s.extract 0 t.size).toList == t.toList)))/\w'=w:=by
 by_cases h:t.size<=s.size
 ·go_enter Tryz.func159,Tryz.ntmps159
  go_wp2
  go_ret;exact ⟨by simp [h],rfl⟩
 ·go_enter Tryz.func159,Tryz.ntmps159
  go_wp2
  go_ret;exact ⟨by simp [h],rfl⟩
theorem DY (s t:ByteArray) (hs:s.size<=6000) (ht:t.size<=6000) (w:World) :
  Calls Tryz.prog 143 #[.string s,.string t] w fun e w'=>e=zi (ze (decide (t.size<=s.size) && ((s.extract 0 t.size).toList == t.toList)))/\w'=w:=by
 go_enter Tryz.func143,Tryz.ntmps143;go_wp2_with fail;refine (FQ s t hs ht _).mono ?_;rintro e w' ⟨rfl,rfl⟩;go_wp2_with fail;go_ret;exact ⟨rfl,rfl⟩
theorem Tryz.run44 (args:Array Value) (w:World):(callFunc 171 args).run Tryz.prog w=((Extern.BytealgIndexByte.indexByte args).run Tryz.prog w).andThen fun v w'=>.ok (.value v) w':=
 run_callFunc_indexByte Tryz.func171 (by kernel_rfl) (by kernel_rfl) (by kernel_rfl) (by kernel_rfl) args w
theorem FP (s:ByteArray) (c:UInt8) (w:World) :
  Calls Tryz.prog 160 #[.string s,O .u8 (c.toNat:Int)] w fun e w'=>e=zi (O zc (Lib.indexByte s.data.toList c))/\w'=w:=by
 have a:∀ w,(callFunc 171 #[.string s,O .u8 (c.toNat:Int)]).run Tryz.prog w=.ok (.value (O zc (Lib.indexByte s.data.toList c))) w:=fun w=>by
  rw [Tryz.run44,Lib.run_indexByteString];simp [Result.andThen]
 go_enter Tryz.func160,Tryz.ntmps160
 go_wp2
 go_ret;exact ⟨rfl,rfl⟩
theorem Fm (s:ByteArray) (c:UInt8) (w:World) :
  Calls Tryz.prog 144 #[.string s,O .u8 (c.toNat:Int)] w fun e w'=>e=zi (O zc (Lib.indexByte s.data.toList c))/\w'=w:=by
 go_enter Tryz.func144,Tryz.ntmps144;go_wp2_with fail;refine (FP s c _).mono ?_;rintro e w' ⟨rfl,rfl⟩;go_wp2_with fail;go_ret;exact ⟨rfl,rfl⟩
def B4 (a e:Int):Ending:=.panicked [{ v:=.iface 116 (zf #[O zc a,O zc e]),recovered:=false }]
def AC (k a:Int) (t:ByteArray):Value:=zf #[O zc k,O zc a,.string t]
theorem PY (s:ByteArray) (a:Nat) (ha:a<=s.size) (hs:s.size<=6000) (h:Az isN s.data.toList a - a<=12) (w:World) :
  Calls Tryz.prog 117 #[.string s,O zc (a:Int)] w fun e w'=>e=zi (AC 1 a (s.extract a (Az isN s.data.toList a)))/\Below w.heap.size w w':=by
 have g:Az isN s.data.toList a<=s.size:=by have:=Cy (p:=isN) (l:=s.data.toList) (i:=a) (by simpa using ha);simpa using this
 have j:a<=Az isN s.data.toList a:=by unfold Az;omega
 obtain ⟨b,r⟩:∃ b,b=Az isN s.data.toList a:=⟨_,rfl⟩;rw [<-r] at h g j ⊢;have c:=D3 141 isN (Aa FO) Pb s a ha hs;rw [<-r] at c;have u:=Aa c;clear r c;go_enter Tryz.func117,Tryz.ntmps117;go_wp2_with fail;refine (u.out _).mono ?_;rintro e w' ⟨rfl,rfl⟩;go_wp2_with fail;refine (FZ s 1 a b hs j g _).mono ?_;rintro e x ⟨rfl,f⟩;obtain ⟨y,B⟩:=Eb f;have A:w.heap.size < x.heap.size:=by have:=f.size;simp at this;omega
 go_wp2_with fail;refine bodyPost_ret (v:=AC 1 a (s.extract a b)) (by simp [AC,results,Tryz.results117,go_sem,y]) rfl ⟨rfl,?_⟩;have n:Below w.heap.size w x:=((Below.refl _ w).alloc (Nat.le_refl _) _).trans (f.mono (by simp));exact ((n.setCell (by simp) _).setCell (by simp) _).setCell (by simp) _
theorem Oz (s:ByteArray) (a:Nat) (ha:a<=s.size) (hs:s.size<=6000) (h:12 < Az isN s.data.toList a - a) (w:World) :
  Calls Tryz.prog 117 #[.string s,O zc (a:Int)] w fun e w'=>e=B4 a 2/\Below w.heap.size w w':=by
 have f:Az isN s.data.toList a<=s.size:=by have:=Cy (p:=isN) (l:=s.data.toList) (i:=a) (by simpa using ha);simpa using this
 have g:a<=Az isN s.data.toList a:=by unfold Az;omega
 obtain ⟨b,j⟩:∃ b,b=Az isN s.data.toList a:=⟨_,rfl⟩;rw [<-j] at h f g;have c:=D3 141 isN (Aa FO) Pb s a ha hs;rw [<-j] at c;have n:=Aa c;clear j c;go_enter Tryz.func117,Tryz.ntmps117;go_wp2_with fail;refine (n.out _).mono ?_;rintro e w' ⟨rfl,rfl⟩;go_wp2_with fail;exact ⟨rfl,rfl,(Below.refl _ w).alloc (Nat.le_refl _) _⟩
theorem MY (s:ByteArray) (a:Nat) (ha:a < s.size) (hs:s.size<=6000) (h:Az isD s.data.toList a - a<=7) (h2:s[a].toNat=48->Az isD s.data.toList a - a<=1) (w:World) :
  Calls Tryz.prog 119 #[.string s,O zc (a:Int)] w fun e w'=>e=zi (AC 2 a (s.extract a (Az isD s.data.toList a)))/\Below w.heap.size w w':=by
 have g:Az isD s.data.toList a<=s.size:=by have:=Cy (p:=isD) (l:=s.data.toList) (i:=a) (by simp;omega);simpa using this
 have j:a<=Az isD s.data.toList a:=by unfold Az;omega
 obtain ⟨b,y⟩:∃ b,b=Az isD s.data.toList a:=⟨_,rfl⟩;rw [<-y] at h h2 g j ⊢;have f:=D3 118 isD (Aa B3) LR s a (by omega) hs;rw [<-y] at f;have u:=Aa f;clear y f;by_cases h48:s[a].toNat=48
 ·have A:((s[a].toNat:Int) == 48)=true:=by simp;omega
  have E:=h2 h48;clear h2 h48;go_enter Tryz.func119,Tryz.ntmps119;go_wp2_with fail;refine (u.out _).mono ?_;rintro e w' ⟨rfl,rfl⟩;go_wp2_with fail;refine (FZ s 2 a b hs j g _).mono ?_;rintro e r ⟨rfl,c⟩;obtain ⟨x,C⟩:=Eb c;have B:w.heap.size < r.heap.size:=by have:=c.size;simp at this;omega
  go_wp2_with fail;refine bodyPost_ret (v:=AC 2 a (s.extract a b)) (by simp [AC,results,Tryz.results119,go_sem,x]) rfl ⟨rfl,?_⟩;have n:Below w.heap.size w r:=((Below.refl _ w).alloc (Nat.le_refl _) _).trans (c.mono (by simp));exact ((n.setCell (by simp) _).setCell (by simp) _).setCell (by simp) _
 ·have A:((s[a].toNat:Int) == 48)=false:=by simp;omega
  clear h2 h48;go_enter Tryz.func119,Tryz.ntmps119;go_wp2_with fail;refine (u.out _).mono ?_;rintro e w' ⟨rfl,rfl⟩;go_wp2_with fail;refine (FZ s 2 a b hs j g _).mono ?_;rintro e r ⟨rfl,c⟩;obtain ⟨x,C⟩:=Eb c;have B:w.heap.size < r.heap.size:=by have:=c.size;simp at this;omega
  go_wp2_with fail;refine bodyPost_ret (v:=AC 2 a (s.extract a b)) (by simp [AC,results,Tryz.results119,go_sem,x]) rfl ⟨rfl,?_⟩;have n:Below w.heap.size w r:=((Below.refl _ w).alloc (Nat.le_refl _) _).trans (c.mono (by simp));exact ((n.setCell (by simp) _).setCell (by simp) _).setCell (by simp) _
theorem J9 (s:ByteArray) (a:Nat) (ha:a < s.size) (hs:s.size<=6000) (h:7 < Az isD s.data.toList a - a) (w:World) :
  Calls Tryz.prog 119 #[.string s,O zc (a:Int)] w fun e w'=>e=B4 a 2/\Below w.heap.size w w':=by
 have f:Az isD s.data.toList a<=s.size:=by have:=Cy (p:=isD) (l:=s.data.toList) (i:=a) (by simp;omega);simpa using this
 have g:a<=Az isD s.data.toList a:=by unfold Az;omega
 obtain ⟨b,j⟩:∃ b,b=Az isD s.data.toList a:=⟨_,rfl⟩;rw [<-j] at h f g;have c:=D3 118 isD (Aa B3) LR s a (by omega) hs;rw [<-j] at c;have n:=Aa c;clear j c;go_enter Tryz.func119,Tryz.ntmps119;go_wp2_with fail;refine (n.out _).mono ?_;rintro e w' ⟨rfl,rfl⟩;go_wp2_with fail;exact ⟨rfl,rfl,(Below.refl _ w).alloc (Nat.le_refl _) _⟩
theorem Ie (s:ByteArray) (a:Nat) (ha:a < s.size) (hs:s.size<=6000) (h:Az isD s.data.toList a - a<=7) (h1:1 < Az isD s.data.toList a - a) (h48:s[a].toNat=48) (w:World) :
  Calls Tryz.prog 119 #[.string s,O zc (a:Int)] w fun e w'=>e=B4 a 1/\Below w.heap.size w w':=by
 have f:Az isD s.data.toList a<=s.size:=by have:=Cy (p:=isD) (l:=s.data.toList) (i:=a) (by simp;omega);simpa using this
 have g:a<=Az isD s.data.toList a:=by unfold Az;omega
 obtain ⟨b,j⟩:∃ b,b=Az isD s.data.toList a:=⟨_,rfl⟩;rw [<-j] at h h1 f g;have c:=D3 118 isD (Aa B3) LR s a (by omega) hs;rw [<-j] at c;have n:=Aa c;have r:((s[a].toNat:Int) == 48)=true:=by simp;omega
 clear j c h48;go_enter Tryz.func119,Tryz.ntmps119;go_wp2_with fail;refine (n.out _).mono ?_;rintro e w' ⟨rfl,rfl⟩;go_wp2_with fail;exact ⟨rfl,rfl,(Below.refl _ w).alloc (Nat.le_refl _) _⟩
def D1:ByteArray:=⟨#[61,61]⟩
def Ef:ByteArray:=⟨#[123,125,40,41,59,58,33,44,61,43,45,42,60]⟩
def He (s:ByteArray) (a:Nat):Bool:=decide (D1.size<=(s.extract a s.size).size) && (((s.extract a s.size).extract 0 D1.size).toList == D1.toList)
def isS (c:UInt8):Bool:=decide (0<=Lib.indexByte Ef.data.toList c)
theorem Gf {s:ByteArray} {a:Nat} (h:He s a=true):a+2<=s.size:=by
 simp only [He,Bool.and_eq_true,decide_eq_true_eq] at h;have b:=h.1;simp [D1] at b;have:(ByteArray.mk #[61,61]).size=2:=rfl;omega
theorem NU (s:ByteArray) (a:Nat) (ha:a < s.size) (hs:s.size<=6000) (h:He s a=true) (w:World) :
  Calls Tryz.prog 120 #[.string s,O zc (a:Int)] w fun e w'=>e=zi (AC 3 a (s.extract a (a+2)))/\Below w.heap.size w w':=by
 have j:=Gf h;have c:=DY (s.extract a s.size) D1 (by simp;omega) (by decide);have e:(decide (D1.size<=(s.extract a s.size).size) && (((s.extract a s.size).extract 0 D1.size).toList == D1.toList))=true:=h;rw [e] at c;unfold D1 at c;have l:=Aa c;clear c e h;go_enter Tryz.func120,Tryz.ntmps120;go_wp2_with fail;refine (l.out _).mono ?_;rintro e w' ⟨rfl,rfl⟩;go_wp2_with fail;refine (FZ s 3 a (a+2) hs (by omega) j _).mono ?_;rintro e g ⟨rfl,b⟩;obtain ⟨i,r⟩:=Eb b;have n:w.heap.size < g.heap.size:=by have:=b.size;simp at this;omega
 go_wp2_with fail;refine bodyPost_ret (v:=AC 3 a (s.extract a (a+2))) (by simp [AC,results,Tryz.results120,go_sem,i]) rfl ⟨rfl,?_⟩;have f:Below w.heap.size w g:=((Below.refl _ w).alloc (Nat.le_refl _) _).trans (b.mono (by simp));exact ((f.setCell (by simp) _).setCell (by simp) _).setCell (by simp) _
theorem NV (s:ByteArray) (a:Nat) (ha:a < s.size) (hs:s.size<=6000) (h:He s a=false) (hS:isS s[a]=true) (w:World) :
  Calls Tryz.prog 120 #[.string s,O zc (a:Int)] w fun e w'=>e=zi (AC 3 a (s.extract a (a+1)))/\Below w.heap.size w w':=by
 have c:=DY (s.extract a s.size) D1 (by simp;omega) (by decide);have e:(decide (D1.size<=(s.extract a s.size).size) && (((s.extract a s.size).extract 0 D1.size).toList == D1.toList))=false:=h;rw [e] at c;unfold D1 at c;have r:=Aa c;have f:=Fm Ef s[a];obtain ⟨q,g⟩:∃ q,q=Lib.indexByte Ef.data.toList s[a]:=⟨_,rfl⟩;rw [<-g] at f;have l:0<=q:=by rw [g];simpa [isS] using hS
 unfold Ef at f;have u:=Aa f;clear c e h f g hS;go_enter Tryz.func120,Tryz.ntmps120;go_wp2_with fail;refine (r.out _).mono ?_;rintro e w' ⟨rfl,rfl⟩;go_wp2_with fail;refine (u.out _).mono ?_;rintro e w' ⟨rfl,rfl⟩;go_wp2_with fail;refine (FZ s 3 a (a+1) hs (by omega) (by omega) _).mono ?_;rintro e j ⟨rfl,b⟩;obtain ⟨n,y⟩:=Eb b;have x:w.heap.size < j.heap.size:=by have:=b.size;simp at this;omega
 go_wp2_with fail;refine bodyPost_ret (v:=AC 3 a (s.extract a (a+1))) (by simp [AC,results,Tryz.results120,go_sem,n]) rfl ⟨rfl,?_⟩;have i:Below w.heap.size w j:=((Below.refl _ w).alloc (Nat.le_refl _) _).trans (b.mono (by simp));exact ((i.setCell (by simp) _).setCell (by simp) _).setCell (by simp) _
theorem ML (s:ByteArray) (a:Nat) (ha:a < s.size) (hs:s.size<=6000) (h:He s a=false) (hS:isS s[a]=false) (w:World) :
  Calls Tryz.prog 120 #[.string s,O zc (a:Int)] w fun e w'=>e=B4 a 1/\Below w.heap.size w w':=by
 have b:=DY (s.extract a s.size) D1 (by simp;omega) (by decide);have e:(decide (D1.size<=(s.extract a s.size).size) && (((s.extract a s.size).extract 0 D1.size).toList == D1.toList))=false:=h;rw [e] at b;unfold D1 at b;have i:=Aa b;have c:=Fm Ef s[a];obtain ⟨q,f⟩:∃ q,q=Lib.indexByte Ef.data.toList s[a]:=⟨_,rfl⟩;rw [<-f] at c;have g:q < 0:=by rw [f];simpa [isS] using hS
 unfold Ef at c;have j:=Aa c;clear b e h c f hS;go_enter Tryz.func120,Tryz.ntmps120;go_wp2_with fail;refine (i.out _).mono ?_;rintro e w' ⟨rfl,rfl⟩;go_wp2_with fail;refine (j.out _).mono ?_;rintro e w' ⟨rfl,rfl⟩;go_wp2_with fail;exact ⟨rfl,rfl,(Below.refl _ w).alloc (Nat.le_refl _) _⟩
def CG (s:ByteArray) (a:Nat):Bool:=(s.data.toList.drop a).take 2 == [61,61]
theorem ER (s:ByteArray) (a:Nat):He s a=CG s a:=by
 have f:(s.extract a s.size).data.toList=s.data.toList.drop a:=by
  rw [Lib.extract_data,List.take_of_length_le];rw [List.length_drop,Array.length_toList];exact Nat.le_refl _
 have l:D1.size=2:=rfl;have j:D1.toList=[61,61]:=by rw [ByteArray.toList_eq];rfl
 have i:((s.extract a s.size).extract 0 2).toList=(s.data.toList.drop a).take 2:=by rw [Lib.extract_toList,f];rfl
 have g:(s.extract a s.size).size=(s.data.toList.drop a).length:=by rw [<-f];rfl
 simp only [He,CG,l,j,i,g];by_cases h:(List.take 2 (List.drop a s.data.toList) == [61,61])=true
 ·have c:=beq_iff_eq.1 h
  have b:=congrArg List.length c;rw [List.length_take] at b;simp only [List.length_cons,List.length_nil] at b;rw [h];simp;simp at b;omega
 ·have c:(List.take 2 (List.drop a s.data.toList) == [61,61])=false:=by simpa using h
  rw [c];simp
def Aw (s:ByteArray) (i:Nat):Nat × Nat:=
 if h:i < s.size then
  if isL s[i]=true then (1,Az isN s.data.toList i)
  else if isD s[i]=true then (2,Az isD s.data.toList i)
  else if CG s i=true then (3,i+2)
  else if isS s[i]=true then (3,i+1)
  else (0,i)
 else (0,i)
def AA (s:ByteArray) (i:Nat):Nat:=
 if (Aw s i).1=0 then 1
 else if (Aw s i).1=1/\12 < (Aw s i).2 - i\/(Aw s i).1=2/\7 < (Aw s i).2 - i then 2
 else if (Aw s i).1=2/\1 < (Aw s i).2 - i/\s.data.toList[i]? = some 48 then 1
 else 0
def Bt (s:ByteArray) (a:Nat):Ending:=
 if AA s a=0 then zi (AC (Aw s a).1 a (s.extract a (Aw s a).2)) else B4 a (AA s a)
theorem Bo (c d:UInt8):c=d ↔ c.toNat=d.toNat:=by
 constructor
 ·intro h;rw [h]
 ·intro h;exact UInt8.toNat_inj.1 h
theorem P8 {s:ByteArray} {a:Nat} (ha:a < s.size):s.data.toList[a]? = some s[a]:=by
 rw [List.getElem?_eq_getElem (by simpa using ha)];rfl
theorem I6 (s:ByteArray) (a:Nat) (ha:a < s.size) (x:ByteArray) (hL:isL s[a]=true)
  (HN:Hid (∀ w,Calls Tryz.prog 117 #[.string s,O zc (a:Int)] w fun e w'=>e=zi (AC 1 a x)/\Below w.heap.size w w')) (w:World) :
  Calls Tryz.prog 82 #[.string s,O zc (a:Int)] w fun e w'=>e=zi (AC 1 a x)/\Below w.heap.size w w':=by
 have c:=BS s[a];rw [hL] at c;have j:=Aa c;clear c hL;go_enter Tryz.func82,Tryz.ntmps82;go_wp2_with fail;refine (j.out _).mono ?_;rintro e w' ⟨rfl,rfl⟩;go_wp2_with fail;refine (HN.out _).mono ?_;rintro e g ⟨rfl,b⟩;unfold AC;obtain ⟨i,n⟩:=Eb b;have l:w.heap.size < g.heap.size:=by have:=b.size;simp at this;omega
 go_wp2_with fail;refine bodyPost_ret (v:=AC 1 a x) (by simp [AC,results,Tryz.results82,go_sem,i]) rfl ⟨rfl,?_⟩;have f:Below w.heap.size w g:=((Below.refl _ w).alloc (Nat.le_refl _) _).trans (b.mono (by simp));exact ((f.setCell (by simp) _).setCell (by simp) _).setCell (by simp) _
theorem Ih (s:ByteArray) (a:Nat) (ha:a < s.size) (x:Int) (hL:isL s[a]=true)
  (HN:Hid (∀ w,Calls Tryz.prog 117 #[.string s,O zc (a:Int)] w fun e w'=>e=B4 a x/\Below w.heap.size w w')) (w:World) :
  Calls Tryz.prog 82 #[.string s,O zc (a:Int)] w fun e w'=>e=B4 a x/\Below w.heap.size w w':=by
 have b:=BS s[a];rw [hL] at b;have i:=Aa b;clear b hL;go_enter Tryz.func82,Tryz.ntmps82;go_wp2_with fail;refine (i.out _).mono ?_;rintro e w' ⟨rfl,rfl⟩;go_wp2_with fail;refine (HN.out _).mono ?_;rintro e g ⟨rfl,c⟩;have f:Below w.heap.size w g:=((Below.refl _ w).alloc (Nat.le_refl _) _).trans (c.mono (by simp));unfold B4;go_wp2_with fail;exact ⟨rfl,rfl,f⟩
theorem G8 (s:ByteArray) (a:Nat) (ha:a < s.size) (x:ByteArray) (hL:isL s[a]=false) (hD:isD s[a]=true)
  (HN:Hid (∀ w,Calls Tryz.prog 119 #[.string s,O zc (a:Int)] w fun e w'=>e=zi (AC 2 a x)/\Below w.heap.size w w')) (w:World) :
  Calls Tryz.prog 82 #[.string s,O zc (a:Int)] w fun e w'=>e=zi (AC 2 a x)/\Below w.heap.size w w':=by
 have c:=BS s[a];rw [hL] at c;have l:=Aa c;clear c hL;have f:=B3 s[a];rw [hD] at f;have n:=Aa f;clear f hD;go_enter Tryz.func82,Tryz.ntmps82;go_wp2_with fail;refine (l.out _).mono ?_;rintro e w' ⟨rfl,rfl⟩;go_wp2_with fail;refine (n.out _).mono ?_;rintro e w' ⟨rfl,rfl⟩;go_wp2_with fail;refine (HN.out _).mono ?_;rintro e i ⟨rfl,b⟩;unfold AC;obtain ⟨j,u⟩:=Eb b;have r:w.heap.size < i.heap.size:=by have:=b.size;simp at this;omega
 go_wp2_with fail;refine bodyPost_ret (v:=AC 2 a x) (by simp [AC,results,Tryz.results82,go_sem,j]) rfl ⟨rfl,?_⟩;have g:Below w.heap.size w i:=((Below.refl _ w).alloc (Nat.le_refl _) _).trans (b.mono (by simp));exact ((g.setCell (by simp) _).setCell (by simp) _).setCell (by simp) _
theorem Er (s:ByteArray) (a:Nat) (ha:a < s.size) (x:Int) (hL:isL s[a]=false) (hD:isD s[a]=true)
  (HN:Hid (∀ w,Calls Tryz.prog 119 #[.string s,O zc (a:Int)] w fun e w'=>e=B4 a x/\Below w.heap.size w w')) (w:World) :
  Calls Tryz.prog 82 #[.string s,O zc (a:Int)] w fun e w'=>e=B4 a x/\Below w.heap.size w w':=by
 have b:=BS s[a];rw [hL] at b;have j:=Aa b;clear b hL;have c:=B3 s[a];rw [hD] at c;have l:=Aa c;clear c hD;go_enter Tryz.func82,Tryz.ntmps82;go_wp2_with fail;refine (j.out _).mono ?_;rintro e w' ⟨rfl,rfl⟩;go_wp2_with fail;refine (l.out _).mono ?_;rintro e w' ⟨rfl,rfl⟩;go_wp2_with fail;refine (HN.out _).mono ?_;rintro e i ⟨rfl,f⟩;have g:Below w.heap.size w i:=((Below.refl _ w).alloc (Nat.le_refl _) _).trans (f.mono (by simp));unfold B4;go_wp2_with fail;exact ⟨rfl,rfl,g⟩
theorem FN (s:ByteArray) (a:Nat) (ha:a < s.size) (x:ByteArray) (hL:isL s[a]=false) (hD:isD s[a]=false)
  (HN:Hid (∀ w,Calls Tryz.prog 120 #[.string s,O zc (a:Int)] w fun e w'=>e=zi (AC 3 a x)/\Below w.heap.size w w')) (w:World) :
  Calls Tryz.prog 82 #[.string s,O zc (a:Int)] w fun e w'=>e=zi (AC 3 a x)/\Below w.heap.size w w':=by
 have c:=BS s[a];rw [hL] at c;have l:=Aa c;clear c hL;have f:=B3 s[a];rw [hD] at f;have n:=Aa f;clear f hD;go_enter Tryz.func82,Tryz.ntmps82;go_wp2_with fail;refine (l.out _).mono ?_;rintro e w' ⟨rfl,rfl⟩;go_wp2_with fail;refine (n.out _).mono ?_;rintro e w' ⟨rfl,rfl⟩;go_wp2_with fail;refine (HN.out _).mono ?_;rintro e i ⟨rfl,b⟩;unfold AC;obtain ⟨j,u⟩:=Eb b;have r:w.heap.size < i.heap.size:=by have:=b.size;simp at this;omega
 go_wp2_with fail;refine bodyPost_ret (v:=AC 3 a x) (by simp [AC,results,Tryz.results82,go_sem,j]) rfl ⟨rfl,?_⟩;have g:Below w.heap.size w i:=((Below.refl _ w).alloc (Nat.le_refl _) _).trans (b.mono (by simp));exact ((g.setCell (by simp) _).setCell (by simp) _).setCell (by simp) _
theorem Ig (s:ByteArray) (a:Nat) (ha:a < s.size) (x:Int) (hL:isL s[a]=false) (hD:isD s[a]=false)
  (HN:Hid (∀ w,Calls Tryz.prog 120 #[.string s,O zc (a:Int)] w fun e w'=>e=B4 a x/\Below w.heap.size w w')) (w:World) :
  Calls Tryz.prog 82 #[.string s,O zc (a:Int)] w fun e w'=>e=B4 a x/\Below w.heap.size w w':=by
 have b:=BS s[a];rw [hL] at b;have j:=Aa b;clear b hL;have c:=B3 s[a];rw [hD] at c;have l:=Aa c;clear c hD;go_enter Tryz.func82,Tryz.ntmps82;go_wp2_with fail;refine (j.out _).mono ?_;rintro e w' ⟨rfl,rfl⟩;go_wp2_with fail;refine (l.out _).mono ?_;rintro e w' ⟨rfl,rfl⟩;go_wp2_with fail;refine (HN.out _).mono ?_;rintro e i ⟨rfl,f⟩;have g:Below w.heap.size w i:=((Below.refl _ w).alloc (Nat.le_refl _) _).trans (f.mono (by simp));unfold B4;go_wp2_with fail;exact ⟨rfl,rfl,g⟩
theorem Ow (s:ByteArray) (a:Nat) (ha:a < s.size) (hs:s.size<=6000) (w:World) :
  Calls Tryz.prog 82 #[.string s,O zc (a:Int)] w fun e w'=>e=Bt s a/\Below w.heap.size w w':=by
 by_cases hL:isL s[a]=true
 ·have c:Aw s a=(1,Az isN s.data.toList a):=by simp [Aw,ha,hL]
  by_cases h12:Az isN s.data.toList a - a<=12
  ·have f:Bt s a=zi (AC 1 a (s.extract a (Az isN s.data.toList a))):=by
    have:AA s a=0:=by simp [AA,c];omega
    simp [Bt,this,c]
   rw [f];exact I6 s a ha _ hL (Aa (PY s a (by omega) hs h12)) w
  ·have f:Bt s a=B4 a 2:=by
    have:AA s a=2:=by simp [AA,c];omega
    simp [Bt,this]
   rw [f];exact Ih s a ha _ hL (Aa (Oz s a (by omega) hs (by omega))) w
 have b:isL s[a]=false:=by simpa using hL
 by_cases hD:isD s[a]=true
 ·have c:Aw s a=(2,Az isD s.data.toList a):=by simp [Aw,ha,b,hD]
  by_cases h7:Az isD s.data.toList a - a<=7
  ·by_cases h48:s[a].toNat=48/\1 < Az isD s.data.toList a - a
   ·have f:Bt s a=B4 a 1:=by
     have l:s[a]=48:=(Bo _ _).2 h48.1;have:AA s a=1:=by
      simp only [AA,c,P8 ha,l];rw [if_neg (by omega),if_neg (by omega),if_pos ⟨trivial,h48.2,trivial⟩]
     simp [Bt,this]
    rw [f];exact Er s a ha _ b hD (Aa (Ie s a ha hs h7 h48.2 h48.1)) w
   ·have f:Bt s a=zi (AC 2 a (s.extract a (Az isD s.data.toList a))):=by
     have:AA s a=0:=by
      simp only [AA,c,P8 ha];rw [if_neg (by omega),if_neg (by omega),if_neg];rintro ⟨_,r,n⟩;exact h48 ⟨(Bo _ _).1 (Option.some.inj n),r⟩
     simp [Bt,this,c]
    rw [f];exact G8 s a ha _ b hD (Aa (MY s a ha hs h7 (fun h=>by omega))) w
  ·have f:Bt s a=B4 a 2:=by
    have:AA s a=2:=by simp [AA,c];omega
    simp [Bt,this]
   rw [f];exact Er s a ha _ b hD (Aa (J9 s a ha hs (by omega))) w
 have g:isD s[a]=false:=by simpa using hD
 by_cases hE:CG s a=true
 ·have c:Aw s a=(3,a+2):=by simp [Aw,ha,b,g,hE]
  have f:Bt s a=zi (AC 3 a (s.extract a (a+2))):=by
   have:AA s a=0:=by simp [AA,c]
   simp [Bt,this,c]
  rw [f];exact FN s a ha _ b g (Aa (NU s a ha hs (by rw [ER];exact hE))) w
 have i:CG s a=false:=by simpa using hE
 by_cases hS:isS s[a]=true
 ·have c:Aw s a=(3,a+1):=by simp [Aw,ha,b,g,i,hS]
  have f:Bt s a=zi (AC 3 a (s.extract a (a+1))):=by
   have:AA s a=0:=by simp [AA,c]
   simp [Bt,this,c]
  rw [f];exact FN s a ha _ b g (Aa (NV s a ha hs (by rw [ER];exact i) hS)) w
 have j:isS s[a]=false:=by simpa using hS
 have c:Aw s a=(0,a):=by simp [Aw,ha,b,g,i,j]
 have f:Bt s a=B4 a 1:=by
  have:AA s a=1:=by simp [AA,c]
  simp [Bt,this]
 rw [f];exact Ig s a ha _ b g (Aa (ML s a ha hs (by rw [ER];exact i) j)) w
structure Tok where
 kind:Int
 pos:Int
 text:ByteArray
def EC (t:Tok):List Value:=[O zc t.kind,O zc t.pos,.string t.text]
def AF (ts:List Tok):List Value:=ts.flatMap EC
theorem EB (ts:List Tok) (t:Tok):AF (ts++[t])=AF ts++EC t:=by simp [AF]
def GS (s:ByteArray) (j:Nat):Tok:=⟨(Aw s j).1,j,s.extract j (Aw s j).2⟩
def Bv (s:ByteArray):Nat->Bool->Nat->Sum (List Tok) (Nat × Nat)
 | 0,_,_=>.inl []
 | f+1,note,i=>
  if AI note s.data.toList i < s.size then
   if AA s (AI note s.data.toList i)=0 then
    match Bv s f false (Aw s (AI note s.data.toList i)).2 with
    | .inl ts=>.inl (GS s (AI note s.data.toList i)::ts)
    | .inr x=>.inr x
   else .inr (AI note s.data.toList i,AA s (AI note s.data.toList i))
  else .inl []
def pre (ts:List Tok):Sum (List Tok) (Nat × Nat)->Sum (List Tok) (Nat × Nat)
 | .inl us=>.inl (ts++us)
 | .inr x=>.inr x
theorem Mk (r:Sum (List Tok) (Nat × Nat)):pre [] r=r:=by cases r <;> rfl
def Ch (s:ByteArray):Sum (List Tok) (Nat × Nat):=Bv s (s.size+1) false 0
def Aq (s:ByteArray):List Tok:=match Ch s with | .inl ts=>ts | .inr _=>[]
def Ci (s:ByteArray):Nat:=match Ch s with | .inl _=>0 | .inr x=>x.1
def AZ (s:ByteArray):Nat:=match Ch s with | .inl _=>0 | .inr x=>x.2
theorem Ca {s:ByteArray} {j:Nat} (h:AA s j=0):j < (Aw s j).2/\(Aw s j).2<=s.size:=by
 by_cases hj:j < s.size
 ·have b:j < s.data.toList.length:=by simpa using hj
  have c:s.data.toList[j]=s[j]:=rfl;by_cases hL:isL s[j]=true
  ·have a:Aw s j=(1,Az isN s.data.toList j):=by simp [Aw,hj,hL]
   rw [a];exact ⟨GX b (by rw [c];simp [isN,hL]),by have:=Cy (p:=isN) (l:=s.data.toList) (i:=j) (by omega);simpa using this⟩
  by_cases hD:isD s[j]=true
  ·have a:Aw s j=(2,Az isD s.data.toList j):=by simp [Aw,hj,hL,hD]
   rw [a];exact ⟨GX b (by rw [c];exact hD),by have:=Cy (p:=isD) (l:=s.data.toList) (i:=j) (by omega);simpa using this⟩
  by_cases hE:CG s j=true
  ·have a:Aw s j=(3,j+2):=by simp [Aw,hj,hL,hD,hE]
   rw [a];have:=Gf ((ER s j).trans hE);exact ⟨by simp,by simpa using this⟩
  by_cases hS:isS s[j]=true
  ·have a:Aw s j=(3,j+1):=by simp [Aw,hj,hL,hD,hE,hS]
   rw [a];exact ⟨by simp,by simp;omega⟩
  have a:Aw s j=(0,j):=by simp [Aw,hj,hL,hD,hE,hS]
  simp [AA,a] at h
 ·have a:Aw s j=(0,j):=by simp [Aw,hj]
  simp [AA,a] at h
theorem GR {s:ByteArray} {j:Nat}:(Aw s j).1<=3:=by
 unfold Aw
 repeat (first | split | simp)
theorem ND (s:ByteArray) (j:Nat):j<=(Aw s j).2:=by
 unfold Aw;split
 ·split
  ·show j<=Az isN s.data.toList j
   unfold Az;omega
  ·split
   ·show j<=Az isD s.data.toList j
    unfold Az;omega
   ·split
    ·show j<=j+2;omega
    ·split
     ·show j<=j+1;omega
     ·exact Nat.le_refl _
 ·exact Nat.le_refl _
theorem GQ {s:ByteArray} {i:Nat} (hi:i<=s.size):(Aw s i).2<=s.size:=by
 unfold Aw;split
 ·rename_i h
  split
  ·have:=Cy (p:=isN) (l:=s.data.toList) (i:=i) (by simpa using hi);simpa using this
  ·split
   ·have:=Cy (p:=isD) (l:=s.data.toList) (i:=i) (by simpa using hi);simpa using this
   ·split
    ·rename_i a
     exact Gf ((ER s i).trans a)
    ·split
     ·exact h
     ·exact hi
 ·exact hi
theorem Iu {s:ByteArray} {f i:Nat} {note:Bool} {ts:List Tok} (h:Ch s=pre ts (Bv s (f+1) note i)) (hlt:AI note s.data.toList i < s.size)
  (he:AA s (AI note s.data.toList i)=0):Ch s=pre (ts++[GS s (AI note s.data.toList i)]) (Bv s f false (Aw s (AI note s.data.toList i)).2):=by
 rw [h];simp only [Bv,hlt,he,if_true];cases Bv s f false (Aw s (AI note s.data.toList i)).2 <;> simp [pre]
theorem It {s:ByteArray} {f i:Nat} {note:Bool} {ts:List Tok} (h:Ch s=pre ts (Bv s (f+1) note i)) (hlt:AI note s.data.toList i < s.size)
  (he:¬ AA s (AI note s.data.toList i)=0):Ch s=.inr (AI note s.data.toList i,AA s (AI note s.data.toList i)):=by
 rw [h];simp only [Bv,hlt,he,if_true,if_false];rfl
theorem JT {s:ByteArray} {f i:Nat} {note:Bool} {ts:List Tok} (h:Ch s=pre ts (Bv s (f+1) note i)) (hlt:¬ AI note s.data.toList i < s.size):Ch s=.inl ts:=by
 rw [h];simp only [Bv,hlt,if_false];simp [pre]
theorem EI (note:Bool) (l:List UInt8) (i:Nat):i<=AI note l i:=by unfold AI;omega
theorem FK {w w':World} {base:Nat} {e:TypeId} {size:Nat} {v:Value} {n:Nat} {xs:List Value} (h:w.ownsRow base e size v n xs) (hb:Below w.heap.size w w'):w'.ownsRow base e size v n xs:=by
 obtain ⟨l,a⟩:=h;refine ⟨l,?_⟩;rcases a with a | ⟨g,c,b,i,j,f,r⟩
 ·exact Or.inl a
 ·refine Or.inr ⟨g,c,b,i,j,?_,r⟩
  rw [hb.block g ?_]
  ·exact f
  ·exact (Array.getElem?_eq_some_iff.1 f).1
end Go.Proofs.YtipngnjffjajpaaGreatDoor
