/- A tree that was handed in lies in memory as such. -/
import Derived.Test.YtipngnjffjajpaaGreatDoorJ07
import Derived.ProofKit
import Derived.OpenShut
import Derived.Deep.Strs
import Derived.Lib.SmallJoins
set_option linter.unusedVariables false
set_option maxHeartbeats 8000000
set_option maxRecDepth 100000
namespace Go.Proofs.YtipngnjffjajpaaGreatDoor.Tx
open Go.RowKit Go.ChangeShapes Go.WideShapes
open Go.Value renaming int -> I, slice -> zc, bool -> zd, pointer -> zf, agg -> zg, tuple -> zi
open Go.IntKind renaming i64 -> O
open Go.Obj renaming cells -> ze
open Go.Ending renaming returned -> zh
theorem Tryz.kE:Tryz.prog.cellsOf 49=5:=by kernel_rfl
theorem Tryz.kC:Tryz.prog.cellsOf 55=12:=by kernel_rfl
theorem Tryz.kD:Tryz.prog.cellsOf 51=13:=by kernel_rfl
theorem Tryz.kP:Tryz.prog.cellsOf 53=4:=by kernel_rfl
theorem Tryz.kT:Tryz.prog.cellsOf 25=2:=by kernel_rfl
theorem Tryz.kI:Tryz.prog.cellsOf 3=1:=by kernel_rfl
theorem Tryz.kB:Tryz.prog.cellsOf 4=1:=by kernel_rfl
theorem Tryz.kS:Tryz.prog.cellsOf 9=1:=by kernel_rfl
theorem Tryz.k22:Tryz.prog.cellsOf 22=1:=by kernel_rfl
theorem Tryz.k23:Tryz.prog.cellsOf 23=1:=by kernel_rfl
theorem Tryz.k45:Tryz.prog.cellsOf 45=1:=by kernel_rfl
theorem Tryz.k46:Tryz.prog.cellsOf 46=1:=by kernel_rfl
theorem Tryz.k47:Tryz.prog.cellsOf 47=1:=by kernel_rfl
section
variable {H:Type} {enc:TypeId × Value->H} {W:World}
theorem Dc {α:Type} {TS E s:Nat} (hU:Tryz.prog.underlying TS=some (.slice E)) (hc:Tryz.prog.cellsOf E=s) (hs:0 < s) {fuel:Nat} {v:Value} {x:DataW H × List MemPlace} (h:DataW.trod enc Tryz.prog W 0 (fun _=>true) true fuel TS [v]=some x)
  (hz:W.noneFrozen x.2) (d0:α) (R:List Value->α->Prop) (hel:∀ (m:Nat) (cs:List Value) (y:DataW H × List MemPlace),m < fuel->DataW.trod enc Tryz.prog W 0 (fun _=>true) true m E cs=some y->W.noneFrozen y.2->∃ d,R cs d):∃ (ds:List α) (ao:Option Addr) (cap:Nat),v=zc ao ds.length cap/\LS s R W (zc ao ds.length cap) ds:=by
 haveI:Inhabited α:=⟨d0⟩
 rcases DataW.trod_slice hU h with ⟨g,-⟩ | ⟨B,c,cap,T,V,m,rfl,g,X,-,ac,ag,af,K,-,-⟩
 ·simp at g
  subst g;exact ⟨[],none,0,rfl,LS.nil⟩
 ·simp at g
  subst g;rw [hc] at K;have I:∀ i,i < c->∃ d:α,∃ cs:List Value,cs.length=s/\(∀ (j:Nat) (u:Value),cs[j]? = some u->W.cell? (B.add (i*s+j))=some u)/\R cs d:=fun i L=>by
   have G:=K i L;rw [List.getElem?_eq_getElem (by omega),Option.bind_eq_some_iff] at G;obtain ⟨cs,S,Z⟩:=G;obtain ⟨-,F,A⟩:=World.cells?_some S;obtain ⟨d,J⟩:=hel m cs _ (Nat.lt_succ_self _) Z fun b a hm=>hz b a (by rw [X];exact List.mem_append_right _ (List.mem_flatMap.2 ⟨_,List.mem_append_left _ (List.getElem_mem _),hm⟩));refine ⟨d,cs,F,fun j u n=>?_,J⟩;have hj:j < s:=by have:=(List.getElem?_eq_some_iff.1 n).1;omega
   have r:=A j hj;rw [n] at r;rw [Addr.add_add] at r;exact r
  obtain ⟨f,P⟩:=Deep.choose_lt I;refine ⟨(List.range c).map f,some B,cap,by simp,by simp;omega,some B,cap,rfl,fun N=>?_⟩;have Y:0 < c:=by
   rcases Nat.eq_zero_or_pos c with h | h
   ·subst h;simp at N
   ·exact h
  have hp:∃ b a,B=⟨b,a,none⟩:=by
   obtain ⟨cs,O,l,-⟩:=P 0 Y;obtain ⟨u,n⟩:∃ u,cs[0]? = some u:=⟨cs[0]'(by omega),List.getElem?_eq_getElem (by omega)⟩;have r:=l 0 u n;have C:B.spot=none:=by simpa [Addr.add] using World.cell?_spot r
   obtain ⟨b,a,sp⟩:=B;simp only at C;subst C;exact ⟨b,a,rfl⟩
  obtain ⟨U,a,rfl⟩:=hp;have M:Fz0 W U a:=by
   obtain ⟨cs,O,l,-⟩:=P 0 Y;obtain ⟨u,n⟩:∃ u,cs[0]? = some u:=⟨cs[0]'(by omega),List.getElem?_eq_getElem (by omega)⟩;have r:=l 0 u n;refine ⟨by simpa [Addr.add] using World.block_lt_of_cell? W _ r,hz U a ?_⟩;rw [X];refine List.mem_append_left _ (List.mem_map.2 ⟨0,List.mem_range.2 ?_,by simp⟩);rw [hc];exact Nat.mul_pos (by omega) hs
  refine ⟨U,a,rfl,M,fun i d J=>?_⟩;have L:i < c:=by
   have:=(List.getElem?_eq_some_iff.1 J).1;simpa using this
  have Q:d=f i:=by
   rw [List.getElem?_map,List.getElem?_range L] at J;simpa using J.symm
  subst Q;obtain ⟨cs,O,l,hr⟩:=P i L;exact ⟨cs,O,fun j u n=>by have:=l j u n;rw [Addr.add_lit] at this;simpa [Nat.add_assoc] using this,hr⟩
theorem Er {m:Nat} {cs:List Value} {y:DataW H × List MemPlace} (h:DataW.trod enc Tryz.prog W 0 (fun _=>true) true m 3 cs=some y):∃ n:Int,cs=[I O n]:=by
 obtain ⟨n,e,-⟩:=DataW.trod_int Tryz.underlying3 h;exact ⟨n,e⟩
theorem Fa {m:Nat} {cs:List Value} {y:DataW H × List MemPlace} (h:DataW.trod enc Tryz.prog W 0 (fun _=>true) true m 9 cs=some y):∃ x:ByteArray,cs=[.string x]/\x.size<=maxLen:=by
 obtain ⟨n,e,-,a⟩:=DataW.trod_string Tryz.underlying9 h;exact ⟨n,e,a⟩
theorem Nz {m:Nat} {cs:List Value} {y:DataW H × List MemPlace} (h:DataW.trod enc Tryz.prog W 0 (fun _=>true) true m 4 cs=some y):∃ x:Bool,cs=[zd x]:=by
 obtain ⟨n,e,-⟩:=DataW.trod_bool Tryz.underlying4 h;exact ⟨n,e⟩
theorem Ou {k m:Nat} {cs:List Value} {d:D} (hk:k<=m) (h:ZE W k cs d):ZE W m cs d:=h.up (fun _ _ h=>h) (fun _ _ h=>h) hk
theorem Ow {ke k m:Nat} {cs:List Value} {d:D} (hk:k<=m) (h:ZC W ke k cs d):ZC W ke m cs d:=h.up (fun _ _ h=>h) (fun _ _ h=>h) (Nat.le_refl _) hk
theorem IA:∀ (fuel:Nat) (cs:List Value) (x:DataW H × List MemPlace),DataW.trod enc Tryz.prog W 0 (fun _=>true) true fuel 49 cs=some x->W.noneFrozen x.2->∃ d,ZE W fuel cs d:=by
 intro fuel
 induction fuel using Nat.strongRecOn with
 | ind fuel ih=>
  intro cs x h N;obtain ⟨M,n,rfl,P,u,i,c⟩:=DataW.trod_struct Tryz.underlying49 h;rw [Tryz.kE] at u
  match cs,u,M,i with
  | [c0,c1,c2,c3,c4],_,[y0,y1,y2,y3,y4],_=>
   have E:=c 0 _ rfl;have C:=c 1 _ rfl;have B:=c 2 _ rfl;have A:=c 3 _ rfl;have v:=c 4 _ rfl;simp [Tryz.kI,Tryz.kS,Tryz.k47] at E C B A v;have L:W.noneFrozen y4.2:=fun b f r=>N b f (by rw [P];simp [r]);obtain ⟨l,J⟩:=Er E;obtain ⟨a,I⟩:=Er C;obtain ⟨m,G⟩:=Er B;obtain ⟨s,F,Q⟩:=Fa A;obtain ⟨K,U,j,T,S⟩:=Dc Tryz.underlying47 Tryz.kE (by omega) v L (.agg []:D) (ZE W n) fun m cs y r O g=>by
    obtain ⟨d,R⟩:=ih m (by omega) cs y O g;exact ⟨d,Ou (by omega) R⟩
   simp at J I G F;subst J I G F T;exact ⟨eD l a m s K,l,a,m,s,U,j,K,rfl,rfl,Q,S⟩
theorem LR (K:Nat):∀ (fuel:Nat) (cs:List Value) (x:DataW H × List MemPlace),fuel<=K->DataW.trod enc Tryz.prog W 0 (fun _=>true) true fuel 55 cs=some x->W.noneFrozen x.2->∃ d,ZC W K fuel cs d:=by
 intro fuel
 induction fuel using Nat.strongRecOn with
 | ind fuel ih=>
  intro cs x hK h A;obtain ⟨xs,n,rfl,B,F,C,i⟩:=DataW.trod_struct Tryz.underlying55 h;rw [Tryz.kC] at F
  match cs,F,xs,C with
  | [c0,c1,c2,c3,c4,c5,c6,c7,c8,c9,c10,c11],_,[y0,y1,y2,y3,y4,y5,y6,y7],_=>
   have R:=i 0 _ rfl;have Q:=i 1 _ rfl;have P:=i 2 _ rfl;have O:=i 3 _ rfl;have N:=i 4 _ rfl;have M:=i 5 _ rfl;have L:=i 6 _ rfl;have J:=i 7 _ rfl;simp [Tryz.kI,Tryz.kS,Tryz.k47,Tryz.kE,Tryz.k23] at R Q P O N M L J;have z4:W.noneFrozen y4.2:=fun b c g=>A b c (by rw [B];simp [g]);have Z:W.noneFrozen y5.2:=fun b c g=>A b c (by rw [B];simp [g]);have Y:W.noneFrozen y6.2:=fun b c g=>A b c (by rw [B];simp [g]);have X:W.noneFrozen y7.2:=fun b c g=>A b c (by rw [B];simp [g]);obtain ⟨E,V⟩:=Er R;obtain ⟨a,U⟩:=Er Q;obtain ⟨s,T,hs⟩:=Fa P;obtain ⟨t,S,ht⟩:=Fa O;obtain ⟨e,I⟩:=IA n _ _ N z4;obtain ⟨v,aA,cA,e5,hA⟩:=Dc Tryz.underlying47 Tryz.kE (by omega) M Z (.agg []:D) (ZE W K) fun m cs y g l f=>by
    obtain ⟨d,r⟩:=IA m cs y l f;exact ⟨d,Ou (by omega) r⟩
   obtain ⟨j,aT,cT,e6,hT⟩:=Dc Tryz.underlying23 Tryz.kC (by omega) L Y (.agg []:D) (ZC W K n) fun m cs y g l f=>by
    obtain ⟨d,r⟩:=ih m (by omega) cs y (by omega) l f;exact ⟨d,Ow (by omega) r⟩
   obtain ⟨u,aE,cE,e7,hE⟩:=Dc Tryz.underlying23 Tryz.kC (by omega) J X (.agg []:D) (ZC W K n) fun m cs y g l f=>by
    obtain ⟨d,r⟩:=ih m (by omega) cs y (by omega) l f;exact ⟨d,Ow (by omega) r⟩
   obtain ⟨k0,k1,k2,k3,q,q1,q2,G⟩:=I.cells;simp only [List.cons.injEq,and_true] at G;simp at V U T S;subst V U T S e5 e6 e7;obtain ⟨rfl,rfl,rfl,rfl,rfl⟩:=G;exact ⟨stD E a s t e v j u,E,a,s,t,k0,k1,k2,k3,q,q1,q2,e,aA,cA,v,aT,cT,j,aE,cE,u,rfl,rfl,hs,ht,Ou (by omega) I,hA,hT,hE⟩
theorem LT {fuel:Nat} {v:Value} {x:DataW H × List MemPlace} (h:DataW.trod enc Tryz.prog W 0 (fun _=>true) true fuel 46 [v]=some x) (hz:W.noneFrozen x.2):∃ (ns:List ByteArray) (ao:Option Addr) (cap:Nat),v=zc ao ns.length cap/\LS 1 ZN W (zc ao ns.length cap) ns:=
 Dc Tryz.underlying46 Tryz.kS (by omega) h hz noS ZN fun m cs y hm hy hyz=>by
  obtain ⟨s,e,hs⟩:=Fa hy;exact ⟨s,e,hs⟩
theorem O7 {fuel:Nat} {cs:List Value} {x:DataW H × List MemPlace} (h:DataW.trod enc Tryz.prog W 0 (fun _=>true) true fuel 53 cs=some x) (hz:W.noneFrozen x.2):∃ d,ZP W cs d:=by
 obtain ⟨F,n,rfl,G,l,g,c⟩:=DataW.trod_struct Tryz.underlying53 h;rw [Tryz.kP] at l
 match cs,l,F,g with
 | [c0,c1,c2,c3],_,[y0,y1,y2,y3],_=>
  have y:=c 0 _ rfl;have v:=c 1 _ rfl;have u:=c 2 _ rfl;have r:=c 3 _ rfl;simp [Tryz.kI,Tryz.kS,Tryz.kB,Tryz.k46] at y v u r;have E:W.noneFrozen y3.2:=fun b f J=>hz b f (by rw [G];simp [J]);obtain ⟨a,C⟩:=Er y;obtain ⟨s,B,I⟩:=Fa v;obtain ⟨b,A⟩:=Nz u;obtain ⟨j,M,i,L,K⟩:=LT r E;simp at C B A;subst C B A L;exact ⟨Dv a s b j,a,s,b,M,i,j,rfl,rfl,I,K⟩
theorem O8 (K:Nat) {fuel:Nat} {cs:List Value} {x:DataW H × List MemPlace} (hK:fuel<=K) (h:DataW.trod enc Tryz.prog W 0 (fun _=>true) true fuel 51 cs=some x) (hz:W.noneFrozen x.2):∃ d,ZD W K K cs d:=by
 obtain ⟨xs,n,rfl,j,C,u,g⟩:=DataW.trod_struct Tryz.underlying51 h;rw [Tryz.kD] at C
 match cs,C,xs,u with
 | [c0,c1,c2,c3,c4,c5,c6,c7,c8,c9,c10,c11,c12],_,[y0,y1,y2,y3,y4,y5,y6,y7,y8],_=>
  have P:=g 0 _ rfl;have O:=g 1 _ rfl;have N:=g 2 _ rfl;have M:=g 3 _ rfl;have L:=g 4 _ rfl;have J:=g 5 _ rfl;have I:=g 6 _ rfl;have G:=g 7 _ rfl;have F:=g 8 _ rfl;simp [Tryz.kI,Tryz.kS,Tryz.kB,Tryz.k45,Tryz.k46,Tryz.k23,Tryz.kE] at P O N M L J I G F;have z5:W.noneFrozen y5.2:=fun b c f=>hz b c (by rw [j];simp [f]);have z6:W.noneFrozen y6.2:=fun b c f=>hz b c (by rw [j];simp [f]);have Z:W.noneFrozen y7.2:=fun b c f=>hz b c (by rw [j];simp [f]);have Y:W.noneFrozen y8.2:=fun b c f=>hz b c (by rw [j];simp [f]);obtain ⟨B,V⟩:=Er P;obtain ⟨a,U⟩:=Er O;obtain ⟨s,T,hs⟩:=Fa N;obtain ⟨t,S,ht⟩:=Fa M;obtain ⟨Q,R⟩:=Nz L;obtain ⟨A,aL,cL,e5,hL⟩:=Dc Tryz.underlying45 Tryz.kP (by omega) J z5 (.agg []:D) (ZP W) fun m cs y f l i=>O7 l i;obtain ⟨v,aP,cP,e6,hP⟩:=LT I z6;obtain ⟨X,aB,cB,e7,hB⟩:=Dc Tryz.underlying23 Tryz.kC (by omega) G Z (.agg []:D) (ZC W K K) fun m cs y f l i=>by
   obtain ⟨d,hd⟩:=LR K m cs y (by omega) l i;exact ⟨d,Ow (by omega) hd⟩
  obtain ⟨r,hr⟩:=IA n _ _ F Y;obtain ⟨k0,k1,k2,k3,q,q1,q2,E⟩:=hr.cells;simp only [List.cons.injEq,and_true] at E;simp at V U T S R;subst V U T S R e5 e6 e7;obtain ⟨rfl,rfl,rfl,rfl,rfl⟩:=E;exact ⟨deD B a s t Q A v X r,B,a,s,t,Q,aL,cL,A,aP,cP,v,aB,cB,X,k0,k1,k2,k3,q,q1,q2,r,rfl,rfl,hs,ht,hL,hP,hB,Ou (by omega) hr⟩
theorem open_tree {r:Go.Reach} {b0:Nat} {v:Value} {d:DataW H} {p:List MemPlace} (hv:Value.okWide Tryz.prog W r b0 25 v) (h:DataW.Trod enc Tryz.prog W 0 (fun _=>true) true 25 v d p) (hz:W.noneFrozen p):∃ (K:Nat) (ds l:List D),ZT W K K v ds l:=by
 obtain ⟨f,rfl,N⟩:=okWide_struct Tryz.underlying25 hv;obtain ⟨I,x⟩:=h;obtain ⟨M,n,rfl,E,u,j,A⟩:=DataW.trod_struct Tryz.underlying25 x;rw [Tryz.kT] at u;have P:(Value.cells (.agg f)).toList=f.toList:=by simp [Value.cells]
 obtain ⟨B⟩:=f;simp [Value.cells] at u A
 match B,u,M,j with
 | [c0,c1],_,[y0,y1],_=>
  have G:=A 0 _ rfl;have F:=A 1 _ rfl;simp [Tryz.k22,Tryz.k23] at G F;have L:W.noneFrozen y0.2:=fun b a g=>hz b a (by rw [show p=_ from congrArg Prod.snd E];simp [g]);have J:W.noneFrozen y1.2:=fun b a g=>hz b a (by rw [show p=_ from congrArg Prod.snd E];simp [g]);obtain ⟨ds,V,C,T,R⟩:=Dc Tryz.underlying22 Tryz.kD (by omega) G L (.agg []:D) (ZD W n n) fun m f y g i c=>O8 n (by omega) i c;obtain ⟨l,X,U,S,Q⟩:=Dc Tryz.underlying23 Tryz.kC (by omega) F J (.agg []:D) (ZC W n n) fun m f y g i c=>by
   obtain ⟨d,O⟩:=LR n m f y (by omega) i c;exact ⟨d,Ow (by omega) O⟩
  subst T S;exact ⟨n,ds,l,V,C,X,U,rfl,R,Q⟩
end
end Go.Proofs.YtipngnjffjajpaaGreatDoor.Tx
