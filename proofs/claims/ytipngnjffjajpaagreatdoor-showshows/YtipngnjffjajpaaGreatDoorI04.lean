/- token.Join answers what it must, whatever tokens it is handed. -/
import Derived.Deep.RegionHeld3
import Derived.RowKit
import Derived.OpenShut
import Derived.Deep.Draws
import Derived.Lib.Builder
import Derived.Test.YtipngnjffjajpaaGreatDoorI03
import Derived.Lib.SmallJoins
import Derived.Lib.AtoiErrMem
import Derived.Deep.AppendLies
import Derived.Maps.AppendAt
import Derived.Deep.RegionWith
set_option linter.unusedVariables false
set_option maxHeartbeats 8000000
set_option maxRecDepth 100000
namespace Go.Proofs.YtipngnjffjajpaaGreatDoor
open Go.RowKit
open Go.Value renaming int -> A, slice -> O, bool -> zc, agg -> ze, pointer -> zf, tuple -> zh
open Go.IntKind renaming i64 -> J
open Go.Obj renaming cells -> zd
open Go.Ending renaming returned -> zg
def CC (ts:List Tok):Int:=if ts.all Ak=true then (if Bv ts<=6001 then 0 else 2) else 1
def Dn (ts:List Tok):ByteArray:=if CC ts=0 then ⟨(Cq ts).toArray⟩ else ⟨#[]⟩
theorem Cp {t:Tok} (h:Ak t=true):t.text.size<=6000:=by
 simp only [Ak,Bool.and_eq_true,decide_eq_true_eq] at h;exact h.1.1
theorem G9 {w w':World} {b off:Nat} {ts:List Tok} (h:∀ j u,(AF ts)[j]? = some u->w.cell? ⟨b,off+j,none⟩=some u) (hb:Below w.heap.size w w') :
  ∀ j u,(AF ts)[j]? = some u->w'.cell? ⟨b,off+j,none⟩=some u:=fun j u hu=>by
 have h1:=h j u hu;rw [hb.cell (p:=⟨b,off+j,none⟩) (World.block_lt_of_cell? w _ h1)];exact h1
theorem H7 (ts:List Tok) (h:ts.all Ak=true):Bv ts<=6001*ts.length:=by
 induction ts with
 | nil=>simp [Bv]
 | cons t ts ih=>
  simp only [List.all_cons,Bool.and_eq_true] at h;have b:=Cp h.1;have a:=ih h.2;simp [Bv] at a ⊢;omega
theorem MV (v:Value) (ts:List Tok) (w:World) (hv:Gc w v ts) (hn:ts.length*32<=140737488355328) (hx:∀ t∈ts,t.text.size<=maxLen) :
  Calls Tryz.prog 18 #[v] w fun e w'=>e=zg (zh #[.string (Dn ts),A J (CC ts)])/\Below w.heap.size w w':=by
 have r:=hv;obtain ⟨ao,ac,rfl,y⟩:=hv;go_enter Tryz.func18,Tryz.ntmps18;go_wp2_with fail;go_loopw [4,9] (fun l i wr=>∃ k:Nat,k<=ts.length/\i=A J k/\l=A J (Bv (ts.take k):Nat)/\(ts.take k).all Ak=true/\Below w.heap.size w wr) (fun _ i _=>ts.length - (intOf i).toNat)
 case atStart=>exact ⟨0,Nat.zero_le _,rfl,rfl,rfl,Below.refl _ w⟩
 case round=>
  obtain ⟨k,hk,rfl,rfl,n,a⟩:=hrel;have I:=H7 _ n;have P:Bv (ts.take k)<=6001*k:=by rw [List.length_take] at I;exact Nat.le_trans I (Nat.mul_le_mul_left _ (Nat.min_le_left _ _))
  clear I;by_cases hkl:k < ts.length
  ·obtain ⟨b,ai,rfl,U⟩:=y (by rintro rfl;simp at hkl)
   obtain ⟨q0,Z,Y⟩:=Fy (G9 U a) hkl;have C:=hx _ (List.getElem_mem hkl);have G:ts.take (k+1)=ts.take k++[ts[k]]:=List.take_succ_eq_append_getElem hkl;have c:=Lq ts[k].kind ts[k].pos ts[k].text C;have T:ts[k]=⟨ts[k].kind,ts[k].pos,ts[k].text⟩:=rfl;obtain ⟨M,j⟩:∃ M,M=Ak ts[k]:=⟨_,rfl⟩;have H:Bv (ts.take (k+1))=Bv (ts.take k)+(ts[k].text.size+1):=by rw [G,FL]
   have F:(ts.take (k+1)).all Ak=M:=by rw [G,List.all_append,n,j];simp
   have B:M=true->ts[k].text.size<=6000:=fun h=>Cp (by rw [<-j];exact h);have E:M=false->CC ts=1:=fun h=>by
    unfold CC;rw [if_neg];intro hh;have:=List.all_eq_true.1 hh ts[k] (List.getElem_mem hkl);rw [<-j,h] at this;cases this
   rw [<-T,<-j] at c;unfold AN at c;obtain ⟨kk,R⟩:∃ x,x=ts[k].kind:=⟨_,rfl⟩;obtain ⟨pp,Q⟩:∃ x,x=ts[k].pos:=⟨_,rfl⟩;obtain ⟨tx,N⟩:∃ x,x=ts[k].text:=⟨_,rfl⟩;rw [<-R] at q0 c;rw [<-Q] at Z c;rw [<-N] at Y c H B C;have W:=Aa c;have ad:=Aa H;have af:=Aa F;have HB:=Aa E;clear R Q N c H F E j T G U y hx r
   cases M with
   | true=>
    have X:=B rfl;clear B;go_wp2_with fail;refine (W.out _).mono ?_;rintro e L ⟨rfl,g⟩;obtain ⟨V,ab⟩:=Dy g;have t2:L.cell? ⟨wr.heap.size,2,none⟩=some (.string tx):=by rw [V _ _ (by simp)];simp [go_sem]
    have f:Below w.heap.size w L:=(a.alloc (by have:=a.size;omega) _).trans (g.mono (by have:=a.size;simp;omega));clear V ab g q0 Z Y;go_wp2_with fail;refine ⟨⟨k+1,by omega,by go_num,?_,af.out,f⟩,by simp [intOf];omega⟩;rw [ad.out];go_num
   | false=>
    clear B;go_wp2_with fail;refine (W.out _).mono ?_;rintro e L ⟨rfl,g⟩;have f:Below w.heap.size w L:=(a.alloc (by have:=a.size;omega) _).trans (g.mono (by have:=a.size;simp;omega));clear g q0 Z Y;go_wp2_with fail
    go_ret2
    have u:=HB.out (by first | rfl | trivial);exact ⟨by simp [Dn,u],f⟩
  ·have S:k=ts.length:=by omega
   have hz:Bv (ts.take k)=Bv ts:=by rw [S,List.take_length]
   have c:ts.all Ak=true:=by rw [S,List.take_length] at n;exact n
   rw [hz] at P ⊢;clear hz n;by_cases X:Bv ts<=6001
   ·have u:CC ts=0:=by simp [CC,c,X]
    have q:Dn ts=⟨(Cq ts).toArray⟩:=by simp [Dn,u]
    have hg:=MB (O ao ts.length ac) ts wr (IA r a) X;have HJ:=Aa u;have K:=Aa q;have HG:=Aa hg;clear u q hg y r c hx;go_wp2_with fail;refine (HG.out).mono ?_;rintro e L ⟨rfl,g⟩;have f:Below w.heap.size w L:=a.trans (g.mono a.size);go_wp2_with fail
    go_ret2
    exact ⟨by rw [HJ.out,K.out];rfl,f⟩
   ·have u:CC ts=2:=by simp [CC,c,X]
    have q:Dn ts=⟨#[]⟩:=by simp [Dn,u]
    have HJ:=Aa u;have K:=Aa q;clear u q y r c hx;go_wp2_with fail
    go_ret2
    exact ⟨by rw [HJ.out,K.out];rfl,a⟩
abbrev Ov (w w':World):Prop:=Below w.heap.size w w'
theorem nm {α:Type} (x:α):∃ q,q=x:=⟨x,rfl⟩
theorem aqt:(∀ (l:List Oper) (i:Nat) (h:i < l.toArray.size),l.toArray[i]'h=l[i]'(by simpa using h))/\(∀ (a:Oper) (l:List Oper) (i:Nat) (h:i+1 < (a::l).length),(a::l)[i+1]'h=l[i]'(by simpa using h))/\(∀ (a:Oper) (l:List Oper) (h:0 < (a::l).length),(a::l)[0]'h=a)/\(∀ (a:Act) (d:Tmp) (v:Value),a.put (some d) v={ a with tmps:=a.tmps.setIfInBounds d v })/\(∀ (a:Act) (v:Value),a.put none v=a)/\(∀ (l:List Value) (i:Nat) (x:Value),l.toArray.setIfInBounds i x=(l.set i x).toArray)/\(∀ (l:List Value) (a x:Value),(a::l).set 0 x=x::l)/\(∀ (l:List Value) (a x:Value) (i:Nat),(a::l).set (i+1) x=a::l.set i x):=
 ⟨fun _ _ _=>by simp,fun _ _ _ _=>rfl,fun _ _ _=>rfl,fun _ _ _=>rfl,fun _ _=>rfl,fun _ _ _=>by simp,fun _ _ _=>rfl,fun _ _ _ _=>rfl⟩
theorem kT {P:Program} {ops:Array Oper} {Q:Exit->Act->World->Prop} {md:Region.Mode} {S:World->Prop} {oi:Oper} {v:Value} {fuel:Nat} {listed:Array Bool} {a:Act} {w:World} {Z:Prop} (i:Nat) (h:Z)
  (hi:ops[i]? = some oi:=by rfl) (hy:YieldsIf P ops S oi v a:=by (refine Or.inl ⟨by rfl,?_⟩;intro f b;(try dsimp only at b);go_simp;try with_reducible rfl)) (hS:S w:=by assumption)
  (hs:Region.noSelect ops=true:=by kernel_rfl) (hf:Region.free md ops listed i=true:=by kernel_rfl) (hr:(Region.ready md ops listed).contains i=true:=by kernel_rfl)
  (hQ:∀ c a w,Q (.panic c) (a.put oi.dst v) w->Q (.panic c) a w:=by exact fun _ _ _ h=>h)
  (hz:Z->wpAnyH P md ops Q S fuel (listed.setIfInBounds i true) (a.put oi.dst v) w:=by (intro hz;(try simp only [aqt]);exact hz)):wpAnyH P md ops Q S (fuel+1) listed a w:=
 wpAnyH_take hi hs hf hr hQ hy hS (hz h)
abbrev MS (P:Program) (md:Region.Mode) (ops:Array Oper) (Q:Exit->Act->World->Prop) (S:World->Prop) (fuel:Nat) (listed:Array Bool) (a:Act) (w:World) (i:Nat) (o:Oper):Prop:=
 ∀ K':Act->World->Prop,Shut (∀ a w,S w->(S w->wpAnyH P md ops Q S fuel (listed.setIfInBounds i true) a w)->K' a w)->if Region.wanted o (yielded ops a.tmps)=true then Oper.wp P o a w K' Q else K' (a.put o.dst undef) w
theorem rdA {P:Program} {ops:Array Oper} {Q:Exit->Act->World->Prop} {md:Region.Mode} {S:World->Prop} {fuel:Nat} {listed:Array Bool} {a:Act} {w:World} (i:Nat) {o:Oper} (ho:ops[i]? = some o) (h:MS P md ops Q S fuel listed a w i o)
  (hr:Region.ready md ops listed=[i]:=by kernel_rfl):wpAnyH P md ops Q S (fuel+1) listed a w:=
 wpAnyH_ready hr (by simp) (AllReadyH.cons ho h AllReadyH.nil)
theorem rdB {P:Program} {ops:Array Oper} {Q:Exit->Act->World->Prop} {md:Region.Mode} {S:World->Prop} {fuel:Nat} {listed:Array Bool} {a:Act} {w:World} (i j:Nat) {o p:Oper} (ho:ops[i]? = some o) (h:MS P md ops Q S fuel listed a w i o) (hp:ops[j]? = some p) (h2:MS P md ops Q S fuel listed a w j p)
  (hr:Region.ready md ops listed=[i,j]:=by kernel_rfl):wpAnyH P md ops Q S (fuel+1) listed a w:=
 wpAnyH_ready hr (by simp) (AllReadyH.cons ho h (AllReadyH.cons hp h2 AllReadyH.nil))
theorem xK {S:World->Prop} {V:Act->World->Prop} {K':Act->World->Prop} {a:Act} {w:World} {Z:Prop} (hK:Shut (∀ a w,S w->(S w->V a w)->K' a w)) (hS:S w) (h:S w->Z) (hz:Z->V a w:=by (intro hz;(try simp only [aqt]);exact hz)):K' a w:=
 hK.out a w hS (fun b=>hz (h b))
theorem gS {P:Program} {ops:Array Oper} {Q:Exit->Act->World->Prop} (S:World->Prop) {id:Nat} {a:Act} {w:World} (hS:S w.drew)
  (h:S w.drew->wpAnyH P .any ops Q S ops.size (Array.replicate ops.size false) a w.drew) (hm:P.follows .mixedOrders=true:=by kernel_rfl):(Code.region id ops true).wp P Q a w:=
 wp_region_held_drew hm hS h
theorem gE {P:Program} {ops:Array Oper} {Q:Exit->Act->World->Prop} {md:Region.Mode} {S:World->Prop} {fuel:Nat} {listed:Array Bool} {a:Act} {w:World} (h:Q .normal a w) (hr:Region.ready md ops listed=[]:=by kernel_rfl):wpAnyH P md ops Q S fuel listed a w:=
 wpAnyH_done hr h fuel
theorem Ai (w:World) (l:List Value) (T:Nat):∀ (j:Nat) (u:Value),l[j]? = some u->(w.alloc (.cells l.toArray T)).cell? ⟨w.heap.size,j,none⟩=some u:=fun j u hu=>by
 rw [Lib.cell_of_heap (show (w.heap.push (.cells l.toArray T))[w.heap.size]? = some (.cells l.toArray T) by simp)];simpa using hu
theorem AL {w:World} {a:Addr} {u:Value} (h:w.cell? a=some u) (o:Obj):(w.alloc o).cell? a=some u:=by
 rw [World.cell?_alloc_some _ _ _ (by rw [h];rfl)];exact h
theorem alS (w:World) (o:Obj):(w.alloc o).heap.size=w.heap.size+1:=by simp
theorem rc2 {P:Nat->Value->Prop} {a0 a1:Value} {l:List Value} (h:∀ (j:Nat) (u:Value),(a0::a1::l)[j]? = some u->P j u):P 0 a0/\P 1 a1:=⟨h 0 _ rfl,h 1 _ rfl⟩
theorem rc4 {P:Nat->Value->Prop} {a0 a1 a2 a3:Value} {l:List Value} (h:∀ (j:Nat) (u:Value),(a0::a1::a2::a3::l)[j]? = some u->P j u):P 0 a0/\P 1 a1/\P 2 a2/\P 3 a3:=⟨h 0 _ rfl,h 1 _ rfl,h 2 _ rfl,h 3 _ rfl⟩
theorem rc5 {P:Nat->Value->Prop} {a0 a1 a2 a3 a4:Value} {l:List Value} (h:∀ (j:Nat) (u:Value),(a0::a1::a2::a3::a4::l)[j]? = some u->P j u):P 0 a0/\P 1 a1/\P 2 a2/\P 3 a3/\P 4 a4:=⟨h 0 _ rfl,h 1 _ rfl,h 2 _ rfl,h 3 _ rfl,h 4 _ rfl⟩
theorem rc6 {P:Nat->Value->Prop} {a0 a1 a2 a3 a4 a5:Value} {l:List Value} (h:∀ (j:Nat) (u:Value),(a0::a1::a2::a3::a4::a5::l)[j]? = some u->P j u):P 0 a0/\P 1 a1/\P 2 a2/\P 3 a3/\P 4 a4/\P 5 a5:=⟨h 0 _ rfl,h 1 _ rfl,h 2 _ rfl,h 3 _ rfl,h 4 _ rfl,h 5 _ rfl⟩
theorem An {P:Nat->Value->Prop} {a0 a1 a2 a3 a4 a5 a6 a7 a8 a9 a10 a11:Value} {l:List Value} (h:∀ (j:Nat) (u:Value),(a0::a1::a2::a3::a4::a5::a6::a7::a8::a9::a10::a11::l)[j]? = some u->P j u):P 0 a0/\P 1 a1/\P 2 a2/\P 3 a3/\P 4 a4/\P 5 a5/\P 6 a6/\P 7 a7/\P 8 a8/\P 9 a9/\P 10 a10/\P 11 a11:=⟨h 0 _ rfl,h 1 _ rfl,h 2 _ rfl,h 3 _ rfl,h 4 _ rfl,h 5 _ rfl,h 6 _ rfl,h 7 _ rfl,h 8 _ rfl,h 9 _ rfl,h 10 _ rfl,h 11 _ rfl⟩
theorem Ah {P:Nat->Value->Prop} {a0 a1 a2 a3 a4 a5 a6 a7 a8 a9 a10 a11 a12:Value} {l:List Value} (h:∀ (j:Nat) (u:Value),(a0::a1::a2::a3::a4::a5::a6::a7::a8::a9::a10::a11::a12::l)[j]? = some u->P j u):P 0 a0/\P 1 a1/\P 2 a2/\P 3 a3/\P 4 a4/\P 5 a5/\P 6 a6/\P 7 a7/\P 8 a8/\P 9 a9/\P 10 a10/\P 11 a11/\P 12 a12:=⟨h 0 _ rfl,h 1 _ rfl,h 2 _ rfl,h 3 _ rfl,h 4 _ rfl,h 5 _ rfl,h 6 _ rfl,h 7 _ rfl,h 8 _ rfl,h 9 _ rfl,h 10 _ rfl,h 11 _ rfl,h 12 _ rfl⟩
theorem ovS {V W:World} (h:Below V.heap.size V W):∀ a:Addr,(V.cell? a).isSome=true->W.cell? a=V.cell? a:=fun a ha=>by
 obtain ⟨u,hu⟩:=Option.isSome_iff_exists.1 ha;exact h.cell (World.block_lt_of_cell? V _ hu)
theorem kO {P:Program} {ops:Array Oper} {Q:Exit->Act->World->Prop} {md:Region.Mode} {S:World->Prop} {oi:Oper} {v:Value} {fuel:Nat} {listed:Array Bool} {a:Act} {w:World} {Z:Prop} (i:Nat) (h:Z)
  (hi:ops[i]? = some oi:=by rfl) (hy:YieldsIf P ops S oi v a:=by (refine Or.inl ⟨by rfl,?_⟩;intro f b;have b:=ovS b;go_simp;try with_reducible rfl)) (hS:S w:=by assumption)
  (hs:Region.noSelect ops=true:=by kernel_rfl) (hf:Region.free md ops listed i=true:=by kernel_rfl) (hr:(Region.ready md ops listed).contains i=true:=by kernel_rfl)
  (hQ:∀ c a w,Q (.panic c) (a.put oi.dst v) w->Q (.panic c) a w:=by exact fun _ _ _ h=>h)
  (hz:Z->wpAnyH P md ops Q S fuel (listed.setIfInBounds i true) (a.put oi.dst v) w:=by (intro hz;(try simp only [aqt]);exact hz)):wpAnyH P md ops Q S (fuel+1) listed a w:=
 wpAnyH_take hi hs hf hr hQ hy hS (hz h)
def Hx (p:Prop):Prop:=p
theorem Hx.o {p:Prop} (h:Hx p):p:=h
theorem ce1 {w w':World} (hb:Below w.heap.size w w') {a:Addr} {u:Value} (h:w.cell? a=some u):w'.cell? a=some u:=by
 rw [hb.cell (World.block_lt_of_cell? w _ h)];exact h
theorem bA (w:World) (o:Obj):Below w.heap.size w (w.alloc o):=(Below.refl _ w).alloc (Nat.le_refl _) o
theorem bD (w:World):Below w.heap.size w w.drew:=(Below.refl _ w).drew
theorem Ag {w w':World} {r:Option Nat} (h:Below w.heap.size w w'):w.grownBy w' r:=⟨h.os,h.tape,h.output,h.size,fun k hk _=>h.block k hk⟩
theorem Ae {a b c:World} {r:Option Nat} (h:a.grownBy b r) (k:b.grownBy c r):a.grownBy c r:=
 ⟨k.os.trans h.os,k.tape.trans h.tape,k.output.trans h.output,Nat.le_trans h.size k.size,fun i hi hr=>(k.block i (Nat.lt_of_lt_of_le hi h.size) hr).trans (h.block i hi hr)⟩
def AA (ts:List Tok) (en n:Nat):Int:=match ts[n]? with | some t=>t.pos | none=>(en:Int)
def Au (ts:List Tok) (n:Nat):Tok:=match ts[n]? with | some t=>t | none=>⟨0,0,⟨#[]⟩⟩
def FA:List (List UInt8):=[[97,99,116,111,114],[103,114,97,110,116],[115,112,101,97,107],[105,110],[111,117,116],[118,97,114],[102,117,110,99],[109,97,105,110],[103,101,116],[112,117,116],[114,101,118,101,97,108],[116,114,117,115,116],[105,102],[101,108,115,101],[119,104,105,108,101],[114,101,116,117,114,110]]
def CD (x:ByteArray):Bool:=FA.contains x.data.toList
theorem Aj {x:ByteArray} {l:List UInt8} (h:x.data.toList=l):x=⟨l.toArray⟩:=by
 apply ByteArray.ext;apply Array.toList_inj.1;simpa using h
theorem Aq {x:ByteArray} {l:List UInt8} (h:¬ x.data.toList=l):(x.toList == l)=false:=by
 rw [ByteArray.toList_eq,beq_eq_false_iff_ne];exact h
theorem Jg (x:ByteArray) (w:World) :
  Calls Tryz.prog 108 #[.string x] w fun e w'=>e=zg (zc (CD x))/\w'=w:=by
 by_cases h0:x.data.toList=[97,99,116,111,114]
 ·obtain rfl:=Aj h0
  clear h0;go_enter Tryz.func108,Tryz.ntmps108
  go_wp2
  go_ret;exact ⟨rfl,rfl⟩
 by_cases h1:x.data.toList=[103,114,97,110,116]
 ·obtain rfl:=Aj h1
  clear h0 h1;go_enter Tryz.func108,Tryz.ntmps108
  go_wp2
  go_ret;exact ⟨rfl,rfl⟩
 by_cases h2:x.data.toList=[115,112,101,97,107]
 ·obtain rfl:=Aj h2
  clear h0 h1 h2;go_enter Tryz.func108,Tryz.ntmps108
  go_wp2
  go_ret;exact ⟨rfl,rfl⟩
 by_cases h3:x.data.toList=[105,110]
 ·obtain rfl:=Aj h3
  clear h0 h1 h2 h3;go_enter Tryz.func108,Tryz.ntmps108
  go_wp2
  go_ret;exact ⟨rfl,rfl⟩
 by_cases h4:x.data.toList=[111,117,116]
 ·obtain rfl:=Aj h4
  clear h0 h1 h2 h3 h4;go_enter Tryz.func108,Tryz.ntmps108
  go_wp2
  go_ret;exact ⟨rfl,rfl⟩
 by_cases h5:x.data.toList=[118,97,114]
 ·obtain rfl:=Aj h5
  clear h0 h1 h2 h3 h4 h5;go_enter Tryz.func108,Tryz.ntmps108
  go_wp2
  go_ret;exact ⟨rfl,rfl⟩
 by_cases h6:x.data.toList=[102,117,110,99]
 ·obtain rfl:=Aj h6
  clear h0 h1 h2 h3 h4 h5 h6;go_enter Tryz.func108,Tryz.ntmps108
  go_wp2
  go_ret;exact ⟨rfl,rfl⟩
 by_cases h7:x.data.toList=[109,97,105,110]
 ·obtain rfl:=Aj h7
  clear h0 h1 h2 h3 h4 h5 h6 h7;go_enter Tryz.func108,Tryz.ntmps108
  go_wp2
  go_ret;exact ⟨rfl,rfl⟩
 by_cases h8:x.data.toList=[103,101,116]
 ·obtain rfl:=Aj h8
  clear h0 h1 h2 h3 h4 h5 h6 h7 h8;go_enter Tryz.func108,Tryz.ntmps108
  go_wp2
  go_ret;exact ⟨rfl,rfl⟩
 by_cases h9:x.data.toList=[112,117,116]
 ·obtain rfl:=Aj h9
  clear h0 h1 h2 h3 h4 h5 h6 h7 h8 h9;go_enter Tryz.func108,Tryz.ntmps108
  go_wp2
  go_ret;exact ⟨rfl,rfl⟩
 by_cases h10:x.data.toList=[114,101,118,101,97,108]
 ·obtain rfl:=Aj h10
  clear h0 h1 h2 h3 h4 h5 h6 h7 h8 h9 h10;go_enter Tryz.func108,Tryz.ntmps108
  go_wp2
  go_ret;exact ⟨rfl,rfl⟩
 by_cases h11:x.data.toList=[116,114,117,115,116]
 ·obtain rfl:=Aj h11
  clear h0 h1 h2 h3 h4 h5 h6 h7 h8 h9 h10 h11;go_enter Tryz.func108,Tryz.ntmps108
  go_wp2
  go_ret;exact ⟨rfl,rfl⟩
 by_cases h12:x.data.toList=[105,102]
 ·obtain rfl:=Aj h12
  clear h0 h1 h2 h3 h4 h5 h6 h7 h8 h9 h10 h11 h12;go_enter Tryz.func108,Tryz.ntmps108
  go_wp2
  go_ret;exact ⟨rfl,rfl⟩
 by_cases h13:x.data.toList=[101,108,115,101]
 ·obtain rfl:=Aj h13
  clear h0 h1 h2 h3 h4 h5 h6 h7 h8 h9 h10 h11 h12 h13;go_enter Tryz.func108,Tryz.ntmps108
  go_wp2
  go_ret;exact ⟨rfl,rfl⟩
 by_cases h14:x.data.toList=[119,104,105,108,101]
 ·obtain rfl:=Aj h14
  clear h0 h1 h2 h3 h4 h5 h6 h7 h8 h9 h10 h11 h12 h13 h14;go_enter Tryz.func108,Tryz.ntmps108
  go_wp2
  go_ret;exact ⟨rfl,rfl⟩
 by_cases h15:x.data.toList=[114,101,116,117,114,110]
 ·obtain rfl:=Aj h15
  clear h0 h1 h2 h3 h4 h5 h6 h7 h8 h9 h10 h11 h12 h13 h14 h15;go_enter Tryz.func108,Tryz.ntmps108
  go_wp2
  go_ret;exact ⟨rfl,rfl⟩
 have hr:CD x=false:=by simp [CD,FA,h0,h1,h2,h3,h4,h5,h6,h7,h8,h9,h10,h11,h12,h13,h14,h15]
 have j:=Aa hr;have B:=Aq h0;have A:=Aq h1;have y:=Aq h2;have v:=Aq h3;have u:=Aq h4;have t:=Aq h5;have r:=Aq h6;have q:=Aq h7;have n:=Aq h8;have l:=Aq h9;have i:=Aq h10;have g:=Aq h11;have f:=Aq h12;have c:=Aq h13;have b:=Aq h14;have a:=Aq h15;clear hr h0 h1 h2 h3 h4 h5 h6 h7 h8 h9 h10 h11 h12 h13 h14 h15;go_enter Tryz.func108,Tryz.ntmps108
 go_wp2
 go_ret;exact ⟨by rw [j.out];rfl,rfl⟩
theorem GW {ts:List Tok} {n:Nat} (h:¬ (Au ts n).text.data.toList=[]):n < ts.length:=by
 rcases Nat.lt_or_ge n ts.length with h1 | h1
 ·exact h1
 ·exfalso
  apply h;have:ts[n]? = none:=List.getElem?_eq_none h1;simp [Au,this]
def isT (ts:List Tok) (n:Nat) (l:List UInt8):Bool:=(Au ts n).text.data.toList == l
def Bo (t:Tok):Bool:=(t.kind == 1) && !CD t.text
theorem F0 {ts:List Tok} {n:Nat} {l:List UInt8} (h:isT ts n l=true) (hl:l≠[]):n < ts.length:=
 GW (fun h2=>hl (by rw [isT,h2] at h;exact (beq_iff_eq.1 h).symm))
def Bz (l:List UInt8):Int:=
 if l=[43] then 3 else
 if l=[45] then 4 else
 if l=[42] then 5 else
 if l=[60] then 6 else
 if l=[61,61] then 7 else
 0
def Ba (l:List UInt8):Int:=
 if l=[97,99,116,111,114] then 1 else
 if l=[103,114,97,110,116] then 2 else
 if l=[115,112,101,97,107] then 3 else
 if l=[105,110] then 4 else
 if l=[111,117,116] then 5 else
 if l=[118,97,114] then 6 else
 if l=[102,117,110,99] then 7 else
 0
theorem Ko (l:List UInt8) (h:¬ Bz l=0):l≠[]:=by
 rintro rfl;exact h rfl
def Dl (l:List UInt8):Nat:=l.foldl (fun n c=>10*n+(c.toNat - 48)) 0
theorem MK (l:List UInt8) (h:∀ c∈l,isD c=true):∀ acc,Lib.decFrom acc l=some (l.foldl (fun n c=>10*n+(c.toNat - 48)) acc):=by
 induction l with
 | nil=>intro acc;rfl
 | cons c l ih=>
  intro acc;have b:=h c (by simp);simp only [isD,decide_eq_true_eq] at b;have a:Lib.digitVal c=some (c.toNat - 48):=by
   unfold Lib.digitVal;rw [if_pos (by first | exact b | (simp;omega) | omega)]
  simp only [Lib.decFrom,a,List.foldl_cons];rw [ih (fun d a=>h d (by simp [a]))];congr 2;omega
theorem D9 {p:UInt8->Bool} {l:List UInt8} (h:(l.takeWhile p).length=l.length):∀ c∈l,p c=true:=by
 have e:l.takeWhile p=l:=(List.takeWhile_prefix p).eq_of_length h;intro c a;rw [<-e] at a;exact List.all_eq_true.1 (List.all_takeWhile) c a
theorem Hr {t:Tok} (ha:Ak t=true) (hk:t.kind=2):t.text.size<=18/\Lib.atoi t.text.data.toList=some (Dl t.text.data.toList:Int)/\t.text.data.toList≠[]/\Dl t.text.data.toList<=9999999:=by
 obtain ⟨C,G,u,F,r⟩:=(A0 t.kind t.pos t.text).1 ha;have b:(Al t.text 0).1=2:=by omega
 have q:Al t.text 0=(2,Ar isD t.text.data.toList 0):=by
  by_cases hL:isL t.text[0]=true
  ·have:Al t.text 0=(1,Ar isN t.text.data.toList 0):=by simp [Al,C,hL]
   rw [this] at b;simp at b
  by_cases q:isD t.text[0]=true
  ·simp [Al,C,hL,q]
  ·have:¬ (Al t.text 0).1=2:=by
    unfold Al;rw [dif_pos C,if_neg hL,if_neg q];split
    ·simp
    ·split <;> simp
   exact absurd b this
 rw [q] at r;simp only at r;have x:(t.text.data.toList.takeWhile isD).length=t.text.data.toList.length:=by
  have:=r;simp only [Ar,List.drop_zero,Nat.zero_add] at this;rw [this];rfl
 have a:=D9 x;have g:t.text.size<=7:=by
  simp only [Av,q] at u;rw [if_neg (by omega)] at u;split at u
  ·cases u
  ·rename_i i
   simp only [Nat.sub_zero] at i;rw [r] at i;simp at i;omega
 have f:t.text.data.toList≠[]:=by
  intro h;have:=congrArg List.length h;have e:t.text.data.toList.length=t.text.size:=rfl;simp only [List.length_nil] at this;omega
 refine ⟨by omega,?_,f,?_⟩
 ·match hl:t.text.data.toList,a,f with
  | c::l,a,_=>
   have j:=a c (by simp);simp only [isD,decide_eq_true_eq] at j;have y:(c == 45)=false:=by rw [beq_eq_false_iff_ne];rintro rfl;simp at j
   have A:(c == 43)=false:=by rw [beq_eq_false_iff_ne];rintro rfl;simp at j
   simp only [Lib.atoi,y,A];have:=MK (c::l) a 0;simp only [Lib.decNat,List.isEmpty_cons];simp only [Bool.false_eq_true,if_false];rw [this];rfl
 ·have v:∀ (l:List UInt8) (acc k:Nat),(∀ c∈l,isD c=true)->acc < 10 ^ k->l.foldl (fun n c=>10*n+(c.toNat - 48)) acc < 10 ^ (k+l.length):=by
   intro l
   induction l with
   | nil=>intro acc k _ h;simpa using h
   | cons c l ih=>
    intro acc k E h;have j:=E c (by simp);simp only [isD,decide_eq_true_eq] at j;have B:10*acc+(c.toNat - 48) < 10 ^ (k+1):=by rw [Nat.pow_succ];omega
    have:=ih _ (k+1) (fun d i=>E d (by simp [i])) B;simp only [List.foldl_cons,List.length_cons];rw [show k+(l.length+1)=k+1+l.length by omega];exact this
  have K:=v t.text.data.toList 0 0 a (by decide);have J:t.text.data.toList.length<=7:=g;have I:10 ^ (0+t.text.data.toList.length)<=10 ^ 7:=Nat.pow_le_pow_right (by decide) (by omega);have H:(10:Nat) ^ 7=10000000:=by decide
  unfold Dl;omega
theorem Dc {ts:List Tok} {n:Nat} (h:n < ts.length):Au ts n∈ts:=by
 have:Au ts n=ts[n]:=by simp [Au,h]
 rw [this];exact List.getElem_mem h
abbrev D:=DataW Empty
def dI (n:Int):D:=.lit (.int J n)
def dS (x:ByteArray):D:=.lit (.string x.data.toList)
def dB (b:Bool):D:=.lit (.bool b)
def dL (l:List D):D:=.slice l []
def eD (k a n:Int) (name:ByteArray) (args:List D):D:=.agg [dI k,dI a,dI n,dS name,dL args]
def Fz0 (w:World) (b off:Nat):Prop:=b < w.heap.size/\w.frozen? ⟨b,off,none⟩=false
theorem Fz0.of_block {w w':World} {b off:Nat} (h:Fz0 w b off) (hw:w'.heap[b]? = w.heap[b]?):Fz0 w' b off:=by
 refine ⟨?_,by rw [World.frozen?_of_block (a:=⟨b,off,none⟩) hw];exact h.2⟩;rw [Array.getElem?_eq_getElem h.1] at hw;exact (Array.getElem?_eq_some_iff.1 hw).1
theorem Fz0.new {w:World} {b off T:Nat} {c:Array Value} (h:w.heap[b]? = some (.cells c T (0,0))):Fz0 w b off:=⟨(Array.getElem?_eq_some_iff.1 h).1,Lib.frozen_of_heap h off⟩
def pE (ts:List Tok) (en:Nat):Nat->Nat->Nat->Sum (D × Nat) Nat
 | 0,_,n=>.inr n
 | f+1,deep,n=>
  if (Au ts n).kind=2 then .inl (eD 1 (AA ts en n) (Dl (Au ts n).text.data.toList) ⟨#[]⟩ [],n+1)
  else if isT ts n [45]=true then
   if isT ts (n+1) [48]=true then .inr (n+1)
   else if (Au ts (n+1)).kind=2 then .inl (eD 1 (AA ts en n) (-(Dl (Au ts (n+1)).text.data.toList:Int)) ⟨#[]⟩ [],n+2)
   else .inr (n+1)
  else if Bo (Au ts n)=true then .inl (eD 2 (AA ts en n) 0 (Au ts n).text [],n+1)
  else if deep < 60/\isT ts n [40]=true then
   match pE ts en f (deep+1) (n+1) with
   | .inr m=>.inr m
   | .inl (a,n1)=>
    if Bz (Au ts n1).text.data.toList=0 then .inr n1
    else match pE ts en f (deep+1) (n1+1) with
     | .inr m=>.inr m
     | .inl (b,n2)=>if isT ts n2 [41]=true then .inl (eD (Bz (Au ts n1).text.data.toList) (AA ts en n) 0 ⟨#[]⟩ [a,b],n2+1) else .inr n2
  else .inr n
theorem AI {w w4:World} {r:Option Nat} (h:w.grownBy w4 r) {p:Addr} (hp:w.heap.size<=p.block) (u:Value):w.grownBy (w4.setCell p u) r:=
 ⟨h.os,h.tape,h.output,by have:=h.size;simp [World.setCell];omega,fun k hk hne=>by rw [Below.heap_setCell _ _ _ _ (by omega)];exact h.block k hk hne⟩
theorem Gp {w w4:World} {r:Option Nat} (h:w.grownBy w4 r) (o:Obj):w.grownBy (w4.alloc o) r:=
 ⟨h.os,h.tape,h.output,by have:=h.size;simp;omega,fun k hk hne=>by rw [Below.heap_alloc _ _ _ (by have:=h.size;omega)];exact h.block k hk hne⟩
theorem IT {w:World} {g:Nat} {o o':Obj} (h:w.heap[g]? = some o):(w.alloc o').heap[g]? = some o:=by
 rw [Below.heap_alloc _ _ _ (Array.getElem?_eq_some_iff.1 h).1];exact h
end Go.Proofs.YtipngnjffjajpaaGreatDoor
namespace Go.Proofs.YtipngnjffjajpaaGreatDoor.Tx
open Go.RowKit
open Go.Value renaming int -> A, slice -> O, bool -> zc, agg -> ze, pointer -> zf, tuple -> zh
open Go.IntKind renaming i64 -> J
open Go.Obj renaming cells -> zd
open Go.Ending renaming returned -> zg
theorem Aa {p:Prop} (h:p):Hx p:=h
abbrev Ac (cs:List Value) (w:World) (b:Nat):Prop:=∀ (j:Nat) (u:Value),cs[j]? = some u->w.cell? ⟨b,j,none⟩=some u
theorem Ac.over {cs:List Value} {w w':World} {b:Nat} (h:Ac cs w b) (hb:Ov w w'):Ac cs w' b:=fun j u hu=>ce1 hb (h j u hu)
theorem Ab {w0 w1 w2:World} (h:Ov w0 w1) (h2:Ov w1 w2):Ov w0 w2:=h.trans (h2.mono h.size)
theorem Iq {W W':World} {B e s:Nat} {v:Value} {k:Nat} {xs:List Value} (h:W.ownsRow B e s v k xs) (hb:Ov W W'):W'.ownsRow B e s v k xs:=by
 obtain ⟨l,a⟩:=h;refine ⟨l,?_⟩;rcases a with a | ⟨g,c,b,i,j,f,r⟩
 ·exact Or.inl a
 ·refine Or.inr ⟨g,c,b,i,j,?_,r⟩
  rw [hb.block g (Array.getElem?_eq_some_iff.1 f).1];exact f
theorem AK {W:World} {B e s:Nat} {v:Value} {k:Nat} {xs:List Value} (h:W.ownsRow B e s v k xs) {g:Nat} (hg:v.ownBlock=some g):B<=g/\g < W.heap.size:=by
 rcases h.2 with ⟨rfl,_⟩ | ⟨i,f,c,rfl,a,b,_⟩
 ·cases hg
 ·simp [Value.ownBlock] at hg
  subst hg;exact ⟨a,(Array.getElem?_eq_some_iff.1 b).1⟩
theorem Mz {w:World} {r n j:Nat} {u:Value}:w.grownBy ((w.drewN n).setCell ⟨r,j,none⟩ u) (some r):=by
 have h:=Below.heap_setCell (w.drewN n) ⟨r,j,none⟩ u;refine ⟨rfl,rfl,rfl,by simp [World.setCell],fun k b a=>?_⟩;rw [h k (fun e=>a (by rw [e]))];rfl
theorem CT {w:World} {r j:Nat} {u:Value}:w.grownBy (w.setCell ⟨r,j,none⟩ u) (some r):=Mz (n:=0)
theorem Be {w:World} {B e s:Nat} {v:Value} {n:Nat} {xs:List Value} (h:w.ownsRow B e s v n xs):∃ a n c,v=O a n c:=by
 obtain ⟨q,⟨h,_⟩ | ⟨g,i,f,b,l,j⟩⟩:=h
 ·exact ⟨_,_,_,h⟩
 ·exact ⟨_,_,_,b⟩
theorem BV {W:World} {B e s n:Nat} {a:Option Addr} {k c:Nat} {xs:List Value} (h:W.ownsRow B e s (O a k c) n xs):k=n:=by
 rcases h.2 with ⟨h,i⟩ | ⟨g,q,l,h,t,r,-⟩
 ·injection h with j f b
  omega
 ·injection h with j i b
theorem Bq {ops:Array Oper} {o:Oper} {a:Act} {W:World} {K:Act->World->Prop} {Q:Exit->Act->World->Prop} {E:Prop} (hg:o.guard=none) (s x:Operand) (t:TypeId) (hop:o.op=Op.call { callee:=Callee.builtin Builtin.append,args:=#[s,x],argTypes:=#[t,t] }) (v u v':Value) (W':World) (hs:a.eval s=v) (hx:a.eval x=u)
  (hr:(Builtin.append_ #[t,t] o.type #[v,u]).run Tryz.prog W=.ok v' W') (h:K (a.put o.dst v') W'):if Region.wanted o (yielded ops a.tmps)=true then Oper.wp Tryz.prog o a W K Q else E:=by
 have hw:Region.wanted o (yielded ops a.tmps)=true:=by simp [Region.wanted,hg]
 rw [if_pos hw];unfold Oper.wp execOp;simp only [hop,resolve,invoke,builtin,Sem.run_bind,Sem.run_pure,Result.andThen_ok,List.map_toArray,List.map_cons,List.map_nil,hs,hx,hr];exact h
def Off (B:Nat) (g:Option Nat) (w:World) (P:World->Prop):Prop:=∀ W:World,(∀ k,B<=k->k < w.heap.size->some k≠g->W.heap[k]? = w.heap[k]?)->P W
section
variable {B B':Nat} {g:Option Nat} {w w':World} {P P':World->Prop} {v v':Value}
theorem Off.imp (h:Off B g w P) (f:∀ W,P W->P' W):Off B g w P':=fun W hW=>f W (h W hW)
theorem Off.over (h:Off B g w P) (hb:Ov w w'):Off B g w' P:=fun W hW=>h W fun k h1 h2 h3=>(hW k h1 (Nat.lt_of_lt_of_le h2 hb.size) h3).trans (hb.block k h2)
theorem Off.base (h:Off B g w P) (hb:B'<=B):Off B' g w P:=fun W hW=>h W fun k h1 h2 h3=>hW k (Nat.le_trans hb h1) h2 h3
theorem Off.row (h:Off B v.ownBlock w P) (hg:w.grownBy w' v.ownBlock) (hv:v'.ownBlock=v.ownBlock\/v'.ownBlock=some w.heap.size):Off B v'.ownBlock w' P:=fun W hW=>h W fun k h1 h2 h3=>
 (hW k h1 (Nat.lt_of_lt_of_le h2 hg.size) (by
  rcases hv with e | e
  ·rw [e];exact h3
  ·rw [e];intro q;injection q with q;omega)).trans (hg.block k h2 h3)
theorem Off.weak (h:Off B none w P) (hb:B'<=B) (hg:∀ k,g=some k->k < B):Off B' g w P:=fun W hW=>h W fun k h1 h2 _=>hW k (Nat.le_trans hb h1) h2 (fun e=>by have:=hg k e.symm;omega)
theorem Off.set {b j:Nat} {u:Value} (h:Off B g w P) (hb:b < B):Off B g (w.setCell ⟨b,j,none⟩ u) P:=fun W hW=>h W fun k h1 h2 h3=>
 (hW k h1 (by simpa [World.setCell] using h2) h3).trans ((CT (w:=w) (r:=b) (j:=j) (u:=u)).block k h2 (fun e=>by injection e with e;omega))
end
def Cop (B T s:Nat) (P:Nat->List Value->World->Prop) (n:Nat) (v:Value) (w:World):Prop:=
 ∃ xs,w.ownsRow B T s v n xs/\∀ i,i < n->∃ cs:List Value,cs.length=s/\(∀ j u,cs[j]? = some u->xs[i*s+j]? = some u)/\Off B v.ownBlock w (P i cs)
section
variable {B T s n:Nat} {P:Nat->List Value->World->Prop} {v v':Value} {w w' w2:World}
theorem Cop.nil:Cop B T s P 0 (O none 0 0) w:=⟨[],World.ownsRow_nil w B T s,fun i hi=>absurd hi (Nat.not_lt_zero _)⟩
theorem Cop.over (h:Cop B T s P n v w) (hb:Ov w w'):Cop B T s P n v w':=by
 obtain ⟨a,b,f⟩:=h;refine ⟨a,Iq b hb,fun i c=>?_⟩;obtain ⟨q,l,j,g⟩:=f i c;exact ⟨q,l,j,g.over hb⟩
theorem Cop.set {b j:Nat} {u:Value} (h:Cop B T s P n v w) (hb:b < B):Cop B T s P n v (w.setCell ⟨b,j,none⟩ u):=by
 obtain ⟨c,a,g⟩:=h;refine ⟨c,a.kept CT (Or.inr (fun e=>by have:=(AK a e).1;omega)),fun i f=>?_⟩;obtain ⟨t,r,q,l⟩:=g i f;exact ⟨t,r,q,l.set hb⟩
theorem Cop.add {xs cs:List Value} {B1:Nat} (ho:w.ownsRow B T s v n xs) (he:∀ i,i < n->∃ cs:List Value,cs.length=s/\(∀ j u,cs[j]? = some u->xs[i*s+j]? = some u)/\Off B v.ownBlock w (P i cs))
  (hl:cs.length=s) (hn:Off B1 none w (P n cs)) (hB:B<=B1) (hrow:∀ k,v.ownBlock=some k->k < B1) (ho':w2.ownsRow B T s v' (n+1) (xs++cs)) (hg:w.grownBy w2 v.ownBlock) (hat:v'.ownBlock=v.ownBlock\/v'.ownBlock=some w.heap.size):Cop B T s P (n+1) v' w2:=by
 refine ⟨xs++cs,ho',fun i l=>?_⟩;by_cases h:i < n
 ·obtain ⟨g,f,c,b⟩:=he i h
  refine ⟨g,f,fun j u a=>?_,b.row hg hat⟩;have:=c j u a;rw [List.getElem?_append_left (List.getElem?_eq_some_iff.1 this).1];exact this
 ·obtain rfl:i=n:=by omega
  refine ⟨cs,hl,fun j u a=>?_,(hn.weak hB hrow).row hg hat⟩;rw [List.getElem?_append_right (by rw [ho.1];omega),ho.1,Nat.add_sub_cancel_left];exact a
theorem Cop.cells (h:Cop B T s P n v w) (hs:0 < s):∃ (a:Option Addr) (c:Nat),v=O a n c/\Off B none w (fun W=>(n≠0->∃ b,a=some ⟨b,0,none⟩/\Fz0 W b 0/\∀ i,i < n->∃ cs:List Value,cs.length=s/\(∀ j u,cs[j]? = some u->W.cell? ⟨b,i*s+j,none⟩=some u)/\P i cs W)):=by
 obtain ⟨Q,C,L⟩:=h;rcases C.2 with ⟨t,F⟩ | ⟨g,A,N,t,E,q,U,S,R,M⟩
 ·exact ⟨none,0,by rw [t,F],fun W _ f=>absurd F f⟩
 ·refine ⟨some ⟨g,0,none⟩,A,t,fun W hW f=>⟨g,rfl,(Fz0.new q).of_block (hW g E (Array.getElem?_eq_some_iff.1 q).1 (by simp)),fun i K=>?_⟩⟩
  obtain ⟨cs,I,H,G⟩:=L i K;refine ⟨cs,I,fun j u J=>?_,G W fun k k1 k2 _=>hW k k1 k2 (by simp)⟩;have y:g < w.heap.size:=(Array.getElem?_eq_some_iff.1 q).1;have r:=H j u J;have l:W.heap[g]? = w.heap[g]?:=hW g E y (by simp);rw [World.cell?_of_block (a:=⟨g,i*s+j,none⟩) l,Lib.cell_of_heap q];have x:i*s+j < n*s:=by rw [<-C.1];exact (List.getElem?_eq_some_iff.1 r).1
  rw [<-M,List.getElem?_take,if_pos x] at r;simpa using r
end
section
variable {B rb:Nat} {g:Option Nat} {w w':World} {P:World->Prop}
theorem Off.keep (h:Off B g w P) (hg:w.grownBy w' (some rb)) (hb:rb < B):Off B g w' P:=fun W hW=>h W fun k h1 h2 h3=>(hW k h1 (Nat.lt_of_lt_of_le h2 hg.size) h3).trans (hg.block k h2 (fun e=>by injection e with e;omega))
theorem Cop.keep {T s n:Nat} {P:Nat->List Value->World->Prop} {v:Value} (h:Cop B T s P n v w) (hg:w.grownBy w' (some rb)) (hb:rb < B):Cop B T s P n v w':=by
 obtain ⟨b,a,f⟩:=h;refine ⟨b,a.kept hg (Or.inr (fun e=>by have:=(AK a e).1;omega)),fun i c=>?_⟩;obtain ⟨q,l,j,g⟩:=f i c;exact ⟨q,l,j,g.keep hg hb⟩
end
abbrev Res (α:Type):=Sum (α × Nat) Nat
def AH {α β:Type} (r:Res α) (f:α->Nat->Res β):Res β:=
 match r with
 | .inl (a,n)=>f a n
 | .inr m=>.inr m
theorem Bc {α β:Type} {a:α} {n:Nat} {f:α->Nat->Res β}:AH (.inl (a,n)) f=f a n:=rfl
def C1 (at_:Int) (o:ByteArray) (wr:Bool) (ns:List ByteArray):D:=.agg [dI at_,dS o,dB wr,dL (ns.map dS)]
def stD (kd at_:Int) (a b:ByteArray) (e:D) (args th el:List D):D:=.agg [dI kd,dI at_,dS a,dS b,e,dL args,dL th,dL el]
def deD (kd at_:Int) (a b:ByteArray) (gv:Bool) (lb:List D) (ps:List ByteArray) (body:List D) (r:D):D:=.agg [dI kd,dI at_,dS a,dS b,dB gv,dL lb,dL (ps.map dS),dL body,r]
def noE:D:=eD 0 0 0 ⟨#[]⟩ []
def noS:ByteArray:=⟨#[]⟩
def MF:D->Int
 | .agg (.lit (.int _ k)::_)=>k
 | _=>0
def IM:D->List UInt8
 | .agg (_::_::_::.lit (.string x)::_)=>x
 | _=>[]
section
variable (ts:List Tok) (en:Nat)
def Bs (x:List UInt8) (n:Nat):Res Unit:=if isT ts n x=true then .inl ((),n+1) else .inr n
def BT (n:Nat):Res ByteArray:=if Bo (Au ts n)=true then .inl ((Au ts n).text,n+1) else .inr n
def BU {α:Type} (sep:List UInt8) (one:Nat->Res α):Nat->Bool->List α->Nat->Res (List α)
 | 0,_,acc,n=>.inl (acc,n)
 | f+1,sm,acc,n=>if sm=true then AH (one n) fun a n1=>if isT ts n1 sep=true then BU sep one f true (acc++[a]) (n1+1) else .inl (acc++[a],n1) else .inl (acc,n)
def CI (sm:Bool) (n:Nat):Res (List ByteArray):=BU ts [44] (BT ts) (ts.length+1) sm [] n
def Cj (n:Nat):Res D:=
 AH (BT ts n) fun o n1=>
  if isT ts n1 [33]=true then AH (CI ts (Bo (Au ts (n1+1))) (n1+1)) fun ns n2=>.inl (C1 (AA ts en n) o true ns,n2)
  else AH (Bs ts [58] n1) fun _ n2=>AH (CI ts (Bo (Au ts n2)) n2) fun ns n3=>.inl (C1 (AA ts en n) o false ns,n3)
def E8 (n:Nat):Res (List D):=
 AH (Bs ts [123] n) fun _ n1=>AH (BU ts [59] (Cj ts en) (ts.length+1) (!isT ts n1 [125]) [] n1) fun l n2=>AH (Bs ts [125] n2) fun _ n3=>.inl (l,n3)
def pX (n:Nat):Res D:=pE ts en 61 0 n
def Ip (s:D) (n:Nat):Res D:=AH (Bs ts [59] n) fun _ n1=>.inl (s,n1)
def D3 (at_:Int) (n:Nat):Res D:=
 AH (BT ts n) fun x n1=>AH (Bs ts [61] n1) fun _ n2=>AH (pX ts en n2) fun e n3=>
  if MF e=2/\isT ts n3 [40]=true then
   AH (BU ts [44] (pX ts en) (ts.length+1) (!isT ts (n3+1) [41]) [] (n3+1)) fun l n4=>AH (Bs ts [41] n4) fun _ n5=>.inl (stD 2 at_ x ⟨(IM e).toArray⟩ noE l [] [],n5)
  else .inl (stD 1 at_ x noS e [] [] [],n3)
def CW (ss:Nat->Res (List D)) (n:Nat):Res (List D):=AH (Bs ts [123] n) fun _ n1=>AH (ss n1) fun l n2=>AH (Bs ts [125] n2) fun _ n3=>.inl (l,n3)
def Dj (blk:Nat->Res (List D)) (n:Nat):Res D:=
 if isT ts n [105,102]=true then AH (pX ts en (n+1)) fun e n1=>AH (blk n1) fun th n2=>
  if isT ts n2 [101,108,115,101]=true then AH (blk (n2+1)) fun el n3=>.inl (stD 7 (AA ts en n) noS noS e [] th el,n3) else .inl (stD 7 (AA ts en n) noS noS e [] th [],n2)
 else if isT ts n [119,104,105,108,101]=true then AH (pX ts en (n+1)) fun e n1=>AH (blk n1) fun th n2=>.inl (stD 8 (AA ts en n) noS noS e [] th [],n2)
 else if isT ts n [103,101,116]=true then AH (BT ts (n+1)) fun a n1=>AH (BT ts n1) fun b n2=>Ip ts (stD 3 (AA ts en n) a b noE [] [] []) n2
 else if isT ts n [112,117,116]=true then AH (BT ts (n+1)) fun b n1=>AH (pX ts en n1) fun e n2=>Ip ts (stD 4 (AA ts en n) noS b e [] [] []) n2
 else if isT ts n [114,101,118,101,97,108]=true then AH (BT ts (n+1)) fun a n1=>AH (pX ts en n1) fun e n2=>Ip ts (stD 5 (AA ts en n) a noS e [] [] []) n2
 else if isT ts n [116,114,117,115,116]=true then AH (BT ts (n+1)) fun a n1=>AH (pX ts en n1) fun e n2=>Ip ts (stD 6 (AA ts en n) a noS e [] [] []) n2
 else AH (D3 ts en (AA ts en n) n) fun s n1=>Ip ts s n1
def Ce:Nat->List D->Nat->Res (List D)
 | 0,acc,n=>.inr n
 | 1,acc,n=>if isT ts n [125]=true\/isT ts n [114,101,116,117,114,110]=true then .inl (acc,n) else .inr n
 | f+2,acc,n=>if isT ts n [125]=true\/isT ts n [114,101,116,117,114,110]=true then .inl (acc,n) else AH (Dj ts en (CW ts (fun n=>Ce f [] n)) n) fun s n1=>Ce (f+1) (acc++[s]) n1
def GB (at_:Int) (name:ByteArray) (n:Nat):Res D:=
 AH (Bs ts [40] n) fun _ n1=>AH (CI ts (!isT ts n1 [41]) n1) fun ps n2=>AH (Bs ts [41] n2) fun _ n3=>AH (Bs ts [123] n3) fun _ n4=>
  AH (Ce ts en (2*ts.length+3) [] n4) fun body n5=>AH (Bs ts [114,101,116,117,114,110] n5) fun _ n6=>AH (pX ts en n6) fun r n7=>AH (Bs ts [59] n7) fun _ n8=>AH (Bs ts [125] n8) fun _ n9=>
   .inl (deD 7 at_ name noS false [] ps body r,n9)
def Dk (kd at_:Int) (name oth:ByteArray) (gv:Bool) (n:Nat):Res D:=
 if gv=true then AH (E8 ts en n) fun lb n1=>AH (Bs ts [59] n1) fun _ n2=>.inl (deD kd at_ name oth true lb [] [] noE,n2)
 else AH (Bs ts [59] n) fun _ n1=>.inl (deD kd at_ name oth false [] [] [] noE,n1)
def EE (n:Nat):Res D:=
 if Ba (Au ts n).text.data.toList=0 then .inr n
 else AH (BT ts (n+1)) fun a n1=>
  if Ba (Au ts n).text.data.toList=2 then AH (BT ts n1) fun b n2=>Dk ts en 2 (AA ts en n) a b false n2
  else if Ba (Au ts n).text.data.toList=4\/Ba (Au ts n).text.data.toList=5 then Dk ts en (Ba (Au ts n).text.data.toList) (AA ts en n) a noS true n1
  else if Ba (Au ts n).text.data.toList=6 then Dk ts en 6 (AA ts en n) a noS (isT ts n1 [123]) n1
  else if Ba (Au ts n).text.data.toList=7 then GB ts en (AA ts en n) a n1
  else Dk ts en (Ba (Au ts n).text.data.toList) (AA ts en n) a noS false n1
def E9:Nat->List D->Nat->Res (List D)
 | 0,acc,n=>.inr n
 | f+1,acc,n=>if isT ts n [109,97,105,110]=true then .inl (acc,n) else AH (EE ts en n) fun d n1=>E9 f (acc++[d]) n1
def C3:Res (List D × List D):=
 AH (E9 ts en (ts.length+1) [] 0) fun ds n=>AH (Bs ts [109,97,105,110] n) fun _ n1=>AH (CW ts (Ce ts en (2*ts.length+3) []) n1) fun l n2=>if n2 < ts.length then .inr n2 else .inl ((ds,l),n2)
end
def nOf (rb:Nat) (w:World):Nat:=match w.cell? ⟨rb,1,none⟩ with | some (A _ n)=>n.toNat | _=>0
theorem Tryz.infoStr:(Tryz.prog.info? 9).map (fun i=>(i.zero,i.size,i.bytes))=some (some (.string ⟨#[]⟩),1,16):=by kernel_rfl
theorem CS {α:Type}:∀ r:Res α,(∃ m,r=.inr m)\/∃ a n,r=.inl (a,n)
 | .inr m=>Or.inl ⟨m,rfl⟩
 | .inl (a,n)=>Or.inr ⟨a,n,rfl⟩
def LS {α:Type} (size:Nat) (R:List Value->α->Prop) (w:World) (v:Value) (l:List α):Prop:=
 l.length<=maxLen/\∃ ao cap,v=O ao l.length cap/\(l≠[]->∃ b off,ao=some ⟨b,off,none⟩/\Fz0 w b off/\∀ (i:Nat) (a:α),l[i]? = some a->∃ cs:List Value,cs.length=size/\(∀ (j:Nat) (u:Value),cs[j]? = some u->w.cell? ⟨b,off+i*size+j,none⟩=some u)/\R cs a)
abbrev RN (cs:List Value) (a:ByteArray):Prop:=cs=[Value.string a]
abbrev Gb (w:World) (v:Value) (l:List ByteArray):Prop:=LS 1 RN w v l
theorem LS.nil {α:Type} {size:Nat} {R:List Value->α->Prop} {w:World} {ao:Option Addr} {cap:Nat}:LS size R w (O ao 0 cap) []:=⟨Nat.zero_le _,ao,cap,rfl,fun h=>absurd rfl h⟩
theorem Cop.ls {α:Type} {B T s:Nat} {R:World->List Value->α->Prop} {l:List α} {v:Value} {w:World} (h:Cop B T s (fun i cs W=>∀ x,l[i]? = some x->R W cs x) l.length v w) (hs:0 < s) (hl:l.length<=1000000):∃ a c,v=O a l.length c/\Off B none w (fun W=>LS s (R W) W (O a l.length c) l):=by
 obtain ⟨a,c,q,t⟩:=h.cells hs;refine ⟨a,c,q,fun W hW=>⟨by unfold maxLen;omega,a,c,rfl,fun f=>?_⟩⟩;obtain ⟨b,A,g,y⟩:=t W hW (fun e=>f (List.eq_nil_of_length_eq_zero e));refine ⟨b,0,A,g,fun i x n=>?_⟩;obtain ⟨cs,F,E,C⟩:=y i (List.getElem?_eq_some_iff.1 n).1;exact ⟨cs,F,fun j u r=>by rw [Nat.zero_add];exact E j u r,C x n⟩
theorem J2 (w:World) (o:Obj):(w.alloc o).heap[w.heap.size]? = some o:=by
 show (w.heap.push o)[w.heap.size]? = some o;simp
theorem Bt {ts:List Tok} {n:Nat} {a:ByteArray} {n1:Nat} (h:BT ts n=.inl (a,n1)):n+1<=n1:=by
 unfold BT at h;split at h
 ·injection h with h;injection h with _ h;omega
 ·cases h
def gD (i:Nat):D->D
 | .agg l=>l.getD i (.agg [])
 | _=>.agg []
def asI:D->Int
 | .lit (.int _ n)=>n
 | _=>0
def asS:D->List UInt8
 | .lit (.string x)=>x
 | _=>[]
def asB:D->Bool
 | .lit (.bool b)=>b
 | _=>false
def asL:D->List D
 | .slice l _=>l
 | _=>[]
abbrev gI (i:Nat) (d:D):Int:=asI (gD i d)
abbrev gZ (i:Nat) (d:D):List UInt8:=asS (gD i d)
abbrev gB (i:Nat) (d:D):Bool:=asB (gD i d)
abbrev gL (i:Nat) (d:D):List D:=asL (gD i d)
def plK:Nat->D->Int->Int
 | 0,_,left=>left
 | k+1,d,left=>(gL 4 d).foldl (fun l a=>if l < 0 then l else plK k a l) (left - 1)
def poK:Nat->D->Int->Int
 | 0,_,_=>0
 | k+1,d,en=>(gL 4 d).foldl (fun n a=>if n<=en then n+poK k a (en - n) else n) 1
theorem Dq {α β:Type} (f:β->α->β) (P:β->Prop) (h:∀ b a,P b->P (f b a)):∀ (l:List α) (b:β),P b->P (l.foldl f b)
 | [],b,hb=>hb
 | a::l,b,hb=>Dq f P h l _ (h b a hb)
theorem GI {α β γ:Type} (f:β->α->β) (g:γ->α->γ) (P:β->γ->Prop) (h:∀ b c a,P b c->P (f b a) (g c a)):∀ (l:List α) (b:β) (c:γ),P b c->P (l.foldl f b) (l.foldl g c)
 | [],b,c,hb=>hb
 | a::l,b,c,hb=>GI f g P h l _ _ (h b c a hb)
theorem GV:∀ (k:Nat) (d:D) (en:Int),0<=en->0<=poK k d en/\poK k d en<=en+1
 | 0,d,en,h=>by simp only [poK];omega
 | k+1,d,en,h=>by
  simp only [poK];refine Dq _ (fun n=>0<=n/\n<=en+1) (fun n a hn=>?_) _ _ (by omega);split
  ·have:=GV k a (en - n) (by omega)
   omega
  ·exact hn
theorem I9:∀ (k:Nat) (d:D) (L:Int),0<=L->plK k d L=L - poK k d L
 | 0,d,L,h=>by simp [plK,poK]
 | k+1,d,L,h=>by
  simp only [plK,poK];refine GI _ _ (fun l n=>l=L - n) (fun l n a hl=>?_) _ _ _ (by omega);subst hl;by_cases hn:n<=L
  ·rw [if_neg (by omega),if_pos hn,I9 k a (L - n) (by omega)]
   omega
  ·rw [if_pos (by omega),if_neg hn]
theorem L4 (k:Nat) (d:D) (L:Int) (h:0<=L):-1<=plK k d L/\plK k d L<=L:=by
 have b:=I9 k d L h;have a:=GV k d L h;omega
def B4 (ke:Nat) (d:D):Bool:=decide (plK ke d 15 < 0)
def Cm (ke:Nat) (s:D):Bool:=decide (4 < (gL 5 s).length) || B4 ke (gD 4 s) || (gL 5 s).any (B4 ke)
def slF (ke:Nat) (rec:List D->Int->Int) (deep:Int) (st:Int × Bool) (s:D):Int × Bool:=
 if st.2=true then st else if st.1 - 1 < 0\/6 < deep\/Cm ke s=true then (-1,true) else (rec (gL 7 s) (rec (gL 6 s) (st.1 - 1)),false)
def slK (ke:Nat):Nat->List D->Int->Int->Int
 | 0,_,_,left=>left
 | k+1,l,deep,left=>(l.foldl (slF ke (fun l left=>slK ke k l (deep+1) left) deep) (left,false)).1
def csF (ke:Nat) (rec:List D->Int) (st:Int × Bool) (s:D):Int × Bool:=
 if st.2=true\/50 < st.1 then st else if Cm ke s=true then (51,true) else (st.1+1+rec (gL 6 s)+rec (gL 7 s),false)
def csK (ke:Nat):Nat->List D->Int->Int
 | 0,_,_=>0
 | k+1,l,deep=>if l≠[]/\6 < deep then 51 else min 51 (l.foldl (csF ke (fun l=>csK ke k l (deep+1))) (0,false)).1
theorem CM (ke:Nat):∀ (k:Nat) (l:List D) (deep:Int),0<=csK ke k l deep/\csK ke k l deep<=51
 | 0,l,deep=>by simp only [csK];omega
 | k+1,l,deep=>by
  simp only [csK];split
  ·omega
  ·have:0<=(l.foldl (csF ke (fun l=>csK ke k l (deep+1))) (0,false)).1:=by
    refine Dq _ (fun (st:Int × Bool)=>0<=st.1) (fun st s a=>?_) _ _ (by simp);unfold csF;have c:=CM ke k (gL 6 s) (deep+1);have b:=CM ke k (gL 7 s) (deep+1);split
    ·exact a
    split
    ·simp
    ·dsimp only;omega
   omega
theorem DD (ke:Nat):∀ (k:Nat) (l:List D) (deep left:Int),-1<=left->left<=50->slK ke k l deep left=if csK ke k l deep<=left then left - csK ke k l deep else -1
 | 0,l,deep,left,h1,h2=>by
  have e1:slK ke 0 l deep left=left:=rfl;have e2:csK ke 0 l deep=0:=rfl;rw [e1,e2];by_cases h:0<=left
  ·rw [if_pos h];omega
  ·rw [if_neg h];omega
 | k+1,l,deep,left,h1,h2=>by
  have IH:=DD ke k;have BD:=CM ke k;generalize hC:csK ke (k+1) l deep=C;have hS:slK ke (k+1) l deep left=(l.foldl (slF ke (fun l left=>slK ke k l (deep+1) left) deep) (left,false)).1:=rfl;rw [hS];clear hS;replace hC:(if l≠[]/\6 < deep then 51 else min 51 (l.foldl (csF ke (fun l=>csK ke k l (deep+1))) (0,false)).1)=C:=hC;by_cases hd:l≠[]/\6 < deep
  ·rw [if_pos hd] at hC
   rw [if_neg (by omega)];clear hC;obtain ⟨s,r,rfl⟩:=List.exists_cons_of_ne_nil hd.1;rw [List.foldl_cons];have hs:slF ke (fun l left=>slK ke k l (deep+1) left) deep (left,false) s=(-1,true):=by
    unfold slF;rw [if_neg (by simp),if_pos (Or.inr (Or.inl hd.2))]
   rw [hs];have hr:=Dq (slF ke (fun l left=>slK ke k l (deep+1) left) deep) (fun st=>st=((-1,true):Int × Bool)) (fun st a b=>by unfold slF;rw [b];simp) r (-1,true) rfl;rw [hr]
  ·rw [if_neg hd] at hC
   have c:∀ (m:List D) (st:Int × Bool) (q:Int × Bool),(m=[]\/deep<=6)->((st=(left - q.1,false)/\0<=q.1/\q.1<=left/\q.2=false)\/(st.1=-1/\left < q.1)) ->
     ((m.foldl (slF ke (fun l left=>slK ke k l (deep+1) left) deep) st).1=left - (m.foldl (csF ke (fun l=>csK ke k l (deep+1))) q).1/\(m.foldl (csF ke (fun l=>csK ke k l (deep+1))) q).1<=left)\/((m.foldl (slF ke (fun l left=>slK ke k l (deep+1) left) deep) st).1=-1/\left < (m.foldl (csF ke (fun l=>csK ke k l (deep+1))) q).1):=by
    intro m
    induction m with
    | nil=>
     intro st q _ h;rcases h with ⟨rfl,_,h,_⟩ | h
     ·exact Or.inl ⟨rfl,h⟩
     ·exact Or.inr h
    | cons s r ih=>
     intro st q n h;have g:deep<=6:=n.elim (fun h=>by cases h) id;rw [List.foldl_cons,List.foldl_cons];refine ih _ _ (Or.inr g) ?_;have A:=BD (gL 6 s) (deep+1);have y:=BD (gL 7 s) (deep+1);rcases h with ⟨rfl,j,i,f⟩ | ⟨b,i⟩
     ·unfold slF csF
      rw [if_neg (by simp),if_neg (show ¬ (q.2=true\/50 < q.1) by simp [f];omega)];by_cases hmu:Cm ke s=true
      ·rw [if_pos (Or.inr (Or.inr hmu)),if_pos hmu]
       exact Or.inr ⟨rfl,by show left < 51;omega⟩
      ·rw [if_neg hmu]
       by_cases hz:left - q.1 - 1 < 0
       ·rw [if_pos (Or.inl hz)]
        exact Or.inr ⟨rfl,by dsimp only;omega⟩
       ·rw [if_neg (fun h=>h.elim hz (fun h=>h.elim (fun h=>by omega) hmu))]
        dsimp only;rw [IH (gL 6 s) (deep+1) (left - q.1 - 1) (by omega) (by omega)];by_cases ht:csK ke k (gL 6 s) (deep+1)<=left - q.1 - 1
        ·rw [if_pos ht,IH (gL 7 s) (deep+1) _ (by omega) (by omega)]
         by_cases he:csK ke k (gL 7 s) (deep+1)<=left - q.1 - 1 - csK ke k (gL 6 s) (deep+1)
         ·rw [if_pos he]
          exact Or.inl ⟨by congr 1;omega,by omega,by omega,rfl⟩
         ·rw [if_neg he]
          exact Or.inr ⟨rfl,by omega⟩
        ·rw [if_neg ht,IH (gL 7 s) (deep+1) _ (by omega) (by omega),if_neg (by omega)]
         exact Or.inr ⟨rfl,by omega⟩
     ·refine Or.inr ⟨?_,?_⟩
      ·unfold slF
       split
       ·exact b
       ·rw [if_pos (Or.inl (by omega))]
      ·unfold csF
       split
       ·exact i
       split
       ·show left < 51;omega
       ·dsimp only;omega
   have v:l=[]\/deep<=6:=by
    by_cases h:l=[]
    ·exact Or.inl h
    ·exact Or.inr (by
      by_cases h6:deep<=6
      ·exact h6
      ·exact absurd ⟨h,by omega⟩ hd)
   have x:((((left,false):Int × Bool)=(left - ((0,false):Int × Bool).1,false)/\(0:Int)<=((0,false):Int × Bool).1/\((0,false):Int × Bool).1<=left/\((0,false):Int × Bool).2=false)\/(((left,false):Int × Bool).1=-1/\left < ((0,false):Int × Bool).1)):=by
    by_cases hz:0<=left
    ·exact Or.inl ⟨by simp,by simp,hz,rfl⟩
    ·exact Or.inr ⟨by dsimp only;omega,by dsimp only;omega⟩
   rcases c l (left,false) (0,false) v x with ⟨e,u⟩ | ⟨e,t⟩
   ·rw [e,if_pos (by omega)];omega
   ·rw [e,if_neg (by omega)]
def Cn (ke:Nat) (d:D):Bool:=decide (4 < (gL 5 d).length) || decide (4 < (gL 6 d).length) || B4 ke (gD 8 d) || (gL 5 d).any (fun p=>decide (6 < (gL 3 p).length))
def Dv (ke kc:Nat) (ds l:List D):Bool:=
 decide (30 < ds.length) || ds.any (Cn ke) || decide (slK ke kc l 1 (ds.foldl (fun left d=>slK ke kc (gL 7 d) 1 left) 50) < 0)
def It (ke kc:Nat) (ds l:List D):Bool:=
 decide (30 < ds.length) || ds.any (Cn ke) || decide (50 < ds.foldl (fun n d=>n+csK ke kc (gL 7 d) 1) (csK ke kc l 1))
theorem NA (ke kc:Nat) (ds l:List D):Dv ke kc ds l=It ke kc ds l:=by
 unfold Dv It;congr 1;rw [decide_eq_decide];have u:=CM ke kc l 1;have f:∀ (m:List D) (left n:Int),((0<=n/\n<=50/\left=50 - n)\/(50 < n/\left=-1))->((0<=m.foldl (fun n d=>n+csK ke kc (gL 7 d) 1) n/\m.foldl (fun n d=>n+csK ke kc (gL 7 d) 1) n<=50/\m.foldl (fun left d=>slK ke kc (gL 7 d) 1 left) left=50 - m.foldl (fun n d=>n+csK ke kc (gL 7 d) 1) n)\/(50 < m.foldl (fun n d=>n+csK ke kc (gL 7 d) 1) n/\m.foldl (fun left d=>slK ke kc (gL 7 d) 1 left) left=-1)):=by
  intro m
  induction m with
  | nil=>intro left n h;exact h
  | cons d r ih=>
   intro left n h;rw [List.foldl_cons,List.foldl_cons];refine ih _ _ ?_;have b:=CM ke kc (gL 7 d) 1;rcases h with ⟨t,i,rfl⟩ | ⟨i,rfl⟩
   ·rw [DD ke kc _ _ _ (by omega) (by omega)]
    by_cases hc:csK ke kc (gL 7 d) 1<=50 - n
    ·rw [if_pos hc];exact Or.inl ⟨by omega,by omega,by omega⟩
    ·rw [if_neg hc];exact Or.inr ⟨by omega,rfl⟩
   ·rw [DD ke kc _ _ _ (by omega) (by omega),if_neg (by omega)]
    exact Or.inr ⟨by omega,rfl⟩
 have c:∀ (m:List D) (a b:Int),m.foldl (fun n d=>n+csK ke kc (gL 7 d) 1) (a+b)=a+m.foldl (fun n d=>n+csK ke kc (gL 7 d) 1) b:=by
  intro m
  induction m with
  | nil=>intro a b;rfl
  | cons d r ih=>intro a b;rw [List.foldl_cons,List.foldl_cons,<-ih];congr 1;omega
 have q:=f ds 50 0 (Or.inl ⟨by omega,by omega,by omega⟩);have j:=c ds (csK ke kc l 1) 0;rw [Int.add_zero] at j;rw [j];generalize ds.foldl (fun n d=>n+csK ke kc (gL 7 d) 1) 0=S at q ⊢;rcases q with ⟨t,i,g⟩ | ⟨i,g⟩
 ·rw [g,DD ke kc _ _ _ (by omega) (by omega)]
  split <;> omega
 ·rw [g,DD ke kc _ _ _ (by omega) (by omega)]
  split <;> omega
def nmS (x:List UInt8):Bool:=Ak ⟨1,0,⟨x.toArray⟩⟩ && !FA.contains x
def nfS (x:List UInt8) (must:Bool):Bool:=if must=true then nmS x else x.isEmpty
def BX (d:D):Bool:=decide (gI 0 d=0) && decide (gI 2 d=0) && (gZ 3 d).isEmpty && (gL 4 d).isEmpty
def efK:Nat->D->Bool
 | 0,_=>false
 | k+1,d=>decide (1<=gI 0 d) && decide (gI 0 d<=7) && decide ((if gI 0 d=1 then -9999999 else 0)<=gI 2 d) && decide (gI 2 d<=(if gI 0 d=1 then 9999999 else 0)) && nfS (gZ 3 d) (decide (gI 0 d=2)) && decide ((gL 4 d).length=if gI 0 d<=2 then 0 else 2) && (gL 4 d).all (efK k)
def EN (k:Int):Bool:=decide (k=1) || decide (k=2) || decide (k=3) || decide (k=5) || decide (k=6)
def EP (k:Int):Bool:=decide (k=2) || decide (k=3) || decide (k=4)
def Ej (k:Int):Bool:=decide (k=1) || decide (k=4) || decide (k=5) || decide (k=6) || decide (k=7) || decide (k=8)
def EQ (k:Int):Bool:=decide (k=2)
def EO (k:Int):Bool:=decide (k=7) || decide (k=8)
def Ek (k:Int):Bool:=decide (k=7)
def hOk (k:Int):Bool:=decide (1<=k) && decide (k<=8)
def lfS (l:List D) (may:Bool) (fine:D->Bool):Bool:=(may || l.isEmpty) && l.all fine
def sfK (ke:Nat):Nat->D->Bool
 | 0,_=>false
 | k+1,s=>hOk (gI 0 s) && nfS (gZ 2 s) (EN (gI 0 s)) && nfS (gZ 3 s) (EP (gI 0 s)) && (if Ej (gI 0 s)=true then efK ke (gD 4 s) else BX (gD 4 s)) && lfS (gL 5 s) (EQ (gI 0 s)) (efK ke) && lfS (gL 6 s) (EO (gI 0 s)) (sfK ke k) && lfS (gL 7 s) (Ek (gI 0 s)) (sfK ke k)
def BW (p:D):Bool:=nmS (gZ 1 p) && (gL 3 p).all (fun x=>nmS (asS x))
def CJ (d:D):Bool:=
 if gB 4 d=false/\(gL 5 d)≠[] then false
 else if gI 0 d=4\/gI 0 d=5 then gB 4 d && (gL 5 d).all BW
 else if gI 0 d=6 then (gL 5 d).all BW
 else !gB 4 d
def CK (ke kc:Nat) (d:D):Bool:=
 if gI 0 d=7 then (gL 6 d).all (fun x=>nmS (asS x)) && (gL 7 d).all (sfK ke kc) && efK ke (gD 8 d)
 else (gL 6 d).isEmpty && (gL 7 d).isEmpty && BX (gD 8 d)
def dfK (ke kc:Nat) (d:D):Bool:=decide (1<=gI 0 d) && decide (gI 0 d<=7) && nmS (gZ 2 d) && nfS (gZ 3 d) (decide (gI 0 d=2)) && CJ d && CK ke kc d
def ckT (ke kc:Nat) (ds l:List D):Int:=if Dv ke kc ds l=true then 2 else if (ds.all (dfK ke kc) && l.all (sfK ke kc))=true then 0 else 1
theorem gEe (kd a n:Int) (x:ByteArray) (ds:List D):gI 0 (eD kd a n x ds)=kd/\gI 1 (eD kd a n x ds)=a/\gI 2 (eD kd a n x ds)=n/\gZ 3 (eD kd a n x ds)=x.data.toList/\gL 4 (eD kd a n x ds)=ds:=⟨rfl,rfl,rfl,rfl,rfl⟩
theorem gSs (kd a:Int) (x y:ByteArray) (e:D) (l th el:List D):gI 0 (stD kd a x y e l th el)=kd/\gI 1 (stD kd a x y e l th el)=a/\gZ 2 (stD kd a x y e l th el)=x.data.toList/\gZ 3 (stD kd a x y e l th el)=y.data.toList/\gD 4 (stD kd a x y e l th el)=e/\gL 5 (stD kd a x y e l th el)=l/\gL 6 (stD kd a x y e l th el)=th/\gL 7 (stD kd a x y e l th el)=el:=⟨rfl,rfl,rfl,rfl,rfl,rfl,rfl,rfl⟩
theorem gPp (a:Int) (o:ByteArray) (wr:Bool) (ns:List ByteArray):gI 0 (C1 a o wr ns)=a/\gZ 1 (C1 a o wr ns)=o.data.toList/\gB 2 (C1 a o wr ns)=wr/\gL 3 (C1 a o wr ns)=ns.map dS:=⟨rfl,rfl,rfl,rfl⟩
theorem gDd (kd a:Int) (x y:ByteArray) (gv:Bool) (lb:List D) (ps:List ByteArray) (body:List D) (r:D):gI 0 (deD kd a x y gv lb ps body r)=kd/\gI 1 (deD kd a x y gv lb ps body r)=a/\gZ 2 (deD kd a x y gv lb ps body r)=x.data.toList/\gZ 3 (deD kd a x y gv lb ps body r)=y.data.toList/\gB 4 (deD kd a x y gv lb ps body r)=gv/\gL 5 (deD kd a x y gv lb ps body r)=lb/\gL 6 (deD kd a x y gv lb ps body r)=ps.map dS/\gL 7 (deD kd a x y gv lb ps body r)=body/\gD 8 (deD kd a x y gv lb ps body r)=r:=⟨rfl,rfl,rfl,rfl,rfl,rfl,rfl,rfl,rfl⟩
theorem Fc (x:ByteArray):asS (dS x)=x.data.toList:=rfl
end Go.Proofs.YtipngnjffjajpaaGreatDoor.Tx
