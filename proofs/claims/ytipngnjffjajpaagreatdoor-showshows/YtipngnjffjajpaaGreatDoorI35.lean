/- The document's answer: the text of any tree that passes. -/
import Derived.Test.YtipngnjffjajpaaGreatDoorI33
import Derived.Test.YtipngnjffjajpaaGreatDoorI34
import Derived.ProofKit
import Derived.OpenShut
import Derived.Deep.Strs
import Derived.Lib.SmallJoins
set_option linter.unusedVariables false
set_option maxHeartbeats 8000000
set_option maxRecDepth 100000
namespace Go.Proofs.YtipngnjffjajpaaGreatDoor.Tx
open Go.RowKit
open Go.Value renaming int -> A, slice -> O, bool -> zc, agg -> ze, pointer -> zf, tuple -> zh
open Go.IntKind renaming i64 -> J
open Go.Obj renaming cells -> zd
open Go.Ending renaming returned -> zg
theorem Ea (ao:Option Addr) (cap:Nat) (inb:ByteArray) (w:World):Ro 46 #[O ao 0 cap,.string inb] w (.string ⟨#[]⟩):=by
 go_enter Tryz.func46,Tryz.ntmps46;go_wp2_with fail;go_loopw [5,6] (fun s i wr=>s=.string ⟨#[]⟩/\i=A J 0/\wr=w) (fun _ _ _=>0)
 case atStart=>exact ⟨rfl,rfl,rfl⟩
 case round=>
  obtain ⟨rfl,rfl,rfl⟩:=hrel;go_wp2_with fail;go_ret;exact ⟨rfl,Below.refl _ _⟩
theorem NF {inb:ByteArray} {dn:Nat} (hin:inb.data.toList=inT dn):(inb++⟨#[32,32]⟩).data.toList=inT (dn+1):=by
 rw [IC,<-hin];simp
theorem Ff (ke:Nat):∀ (k g:Nat) (l:List D) (dn:Nat) (inb:ByteArray) (ao:Option Addr) (nn cap:Nat) (w:World),nn=l.length->LS 12 (ZC w ke k) w (O ao nn cap) l->(∀ s∈l,sfK ke k s=true/\gdC ke g s)->inb.data.toList=inT dn->dn+g<=10->(AJ ke k dn l).length<=1000000->Ro 46 #[O ao nn cap,.string inb] w (.string ⟨(AJ ke k dn l).toArray⟩):=by
 intro k
 induction k with
 | zero=>
  intro g l dn inb ao nn cap w a r i b x q
  cases l with
  | nil=>subst a;exact Ea ao cap inb w
  | cons s l=>have:=(i s (by simp)).1;cases this
 | succ k ih=>
  intro g l dn inb ao nn cap w a r i b x q
  cases g with
  | zero=>
   cases l with
   | nil=>subst a;exact Ea ao cap inb w
   | cons s l=>exact (i s (by simp)).2.elim
  | succ g=>
   refine FH ke k g dn nn l inb ao cap w a r i b (by omega) q ?_;intro v n c X t j f;have u:=NF b;generalize (inb++⟨#[32,32]⟩:ByteArray)=in2 at u ⊢;generalize hN:v.length=nd at t ⊢;exact ih g v (dn+1) in2 n nd c X hN.symm t j u (by omega) f
theorem IU (ke kc:Nat) (ds l:List D) (v:Value) (w:World) (hz:ZT w ke kc v ds l) (h0:ckT ke kc ds l=0):Ro 20 #[v] w (.string ⟨(trT ke kc ds l).toArray⟩):=by
 obtain ⟨a,c,u,t,rfl,y,x⟩:=hz;have q:=F6 h0;have b:=Lu h0;have g:(AJ ke kc 1 l).length<=1000000:=by
  unfold trT at b;simp only [List.length_append] at b;omega
 exact Gd ke kc _ _ ds l a u c t w rfl rfl y q (by omega)
  (fun f B A X n j i=>Ff ke kc 6 f 1 ⟨#[32,32]⟩ B f.length A X rfl n j rfl (by decide) i)
  (fun X n=>Ff ke kc 6 l 1 ⟨#[32,32]⟩ u l.length t X rfl (Ao n x) (fun s r=>⟨q.2.1 s r,q.2.2 s r⟩) rfl (by decide) g)
theorem showShows_any (ke kc:Nat) (ds l:List D) (v:Value) (w:World) (ht:HT w) (hz:ZT w ke kc v ds l):Ro 6 #[v] w (zc true):=by
 obtain ⟨F,q⟩:=nm (ckT ke kc ds l);obtain ⟨tx,y⟩:=nm (⟨(trT ke kc ds l).toArray⟩:ByteArray);have x:Hx (∀ X,Ov w X->Calls Tryz.prog 19 #[v] X fun e S=>e=zg (zh #[.string (if F=0 then tx else ⟨#[]⟩),A J F])/\Ov X S):=fun X u=>by
  rw [q,y];exact LN ke kc ds l v X (ht.over u) (hz.over u)
 have E:Hx (∀ X,Ov w X->Ro 15 #[v] X (A J F)):=fun X u=>by
  rw [q];exact DN ke kc ds l v X (hz.over u)
 have KT:Hx (F=0->∀ X,Ov w X->Ro 20 #[v] X (.string tx)):=fun H X u=>by
  rw [y];exact IU ke kc ds l v X (hz.over u) (q ▸ H)
 have L:Hx (∀ X,Ov w X->Ro 21 #[] X (zc true)):=fun X u=>Ie X (ht.over u);obtain ⟨a,c,K,I,rfl,-,-⟩:=hz;clear q y ht;generalize ds.length=nd at x E KT ⊢;generalize l.length=nl at x E KT ⊢;obtain ⟨V,C⟩:=nm (w.alloc (zd #[O a nd c,O K nl I] 25));have g:Hx (Ov w V):=by show Ov _ _;rw [C];exact bA _ _
 obtain ⟨T,i⟩:=nm w.heap.size;have M:Hx (Ac [O a nd c,O K nl I] V T):=by show Ac _ _ _;rw [C,i];exact Ai w [O a nd c,O K nl I] 25
 obtain ⟨t,r⟩:=rc2 (Ai w [O a nd c,O K nl I] 25);by_cases H:F=0
 ·subst H
  rw [if_pos rfl] at x;go_enter Tryz.func6,Tryz.ntmps6;go_wp2_with fail;rw [<-C,<-i];clear t r C i;refine (x.o V g.o).mono ?_;rintro e P ⟨rfl,b⟩;have n:=Aa (Ab g.o b);have f:=Aa (M.o.over b);obtain ⟨t,r⟩:=rc2 f.o;clear b x g M;go_wp2_with fail;clear t r;refine (E.o P n.o).mono ?_;rintro e N ⟨rfl,b⟩;have j:=Aa (Ab n.o b);obtain ⟨t,r⟩:=rc2 (f.o.over b);clear b E f;go_wp2_with fail;clear t r;refine (KT.o (by first | rfl | trivial) N j.o).mono ?_;rintro e R ⟨rfl,b⟩;have G:=Aa (Ab j.o b);clear b KT;go_wp2_with fail;refine (L.o R G.o).mono ?_;rintro e Q ⟨rfl,b⟩;have B:=Aa (Ab G.o b);clear b L;go_wp2_with fail;go_ret;exact ⟨rfl,B.o⟩
 ·rw [if_neg H] at x
  go_enter Tryz.func6,Tryz.ntmps6;go_wp2_with fail;rw [<-C,<-i];clear t r C i;refine (x.o V g.o).mono ?_;rintro e P ⟨rfl,b⟩;have n:=Aa (Ab g.o b);have f:=Aa (M.o.over b);obtain ⟨t,r⟩:=rc2 f.o;clear b x g M;go_wp2_with fail;clear t r;refine (E.o P n.o).mono ?_;rintro e N ⟨rfl,b⟩;have j:=Aa (Ab n.o b);clear b E f KT;go_wp2_with fail;refine (L.o N j.o).mono ?_;rintro e Q ⟨rfl,b⟩;have B:=Aa (Ab j.o b);clear b L;go_wp2_with fail;go_ret;exact ⟨rfl,B.o⟩
end Go.Proofs.YtipngnjffjajpaaGreatDoor.Tx
namespace Go.Proofs.YtipngnjffjajpaaGreatDoor.Tx
open Go.RowKit Go.ChangeShapes Go.WideShapes
open Go.Value renaming int -> A, slice -> O, bool -> zc, agg -> ze, pointer -> zf, tuple -> zh
open Go.IntKind renaming i64 -> J
open Go.Obj renaming cells -> zd
open Go.Ending renaming returned -> zg
theorem Tryz.kE:Tryz.prog.cellsOf 49=5:=by kernel_rfl
theorem Tryz.kC:Tryz.prog.cellsOf 55=12:=by kernel_rfl
theorem Tryz.kD:Tryz.prog.cellsOf 51=13:=by kernel_rfl
theorem Tryz.kP:Tryz.prog.cellsOf 53=4:=by kernel_rfl
theorem Tryz.kT:Tryz.prog.cellsOf 25=2:=by kernel_rfl
theorem Tryz.kI:Tryz.prog.cellsOf 3=1:=by kernel_rfl
theorem Tryz.kB:Tryz.prog.cellsOf 4=1:=by kernel_rfl
theorem Tryz.kS:Tryz.prog.cellsOf 9=1:=by kernel_rfl
theorem Tryz.k22:Tryz.prog.cellsOf 22=1:=by kernel_rfl
theorem Tryz.k23:Tryz.prog.cellsOf 23=1:=by kernel_rfl
theorem Tryz.k45:Tryz.prog.cellsOf 45=1:=by kernel_rfl
theorem Tryz.k46:Tryz.prog.cellsOf 46=1:=by kernel_rfl
theorem Tryz.k47:Tryz.prog.cellsOf 47=1:=by kernel_rfl
section
variable {H:Type} {enc:TypeId × Value->H} {W:World}
theorem CQ {α:Type} {TS E s:Nat} (hU:Tryz.prog.underlying TS=some (.slice E)) (hc:Tryz.prog.cellsOf E=s) (hs:0 < s) {fuel:Nat} {v:Value} {x:DataW H × List MemPlace} (h:DataW.trod enc Tryz.prog W 0 (fun _=>true) true fuel TS [v]=some x)
  (hz:W.noneFrozen x.2) (d0:α) (R:List Value->α->Prop) (hel:∀ (m:Nat) (cs:List Value) (y:DataW H × List MemPlace),m < fuel->DataW.trod enc Tryz.prog W 0 (fun _=>true) true m E cs=some y->W.noneFrozen y.2->∃ d,R cs d):∃ (ds:List α) (ao:Option Addr) (cap:Nat),v=O ao ds.length cap/\LS s R W (O ao ds.length cap) ds:=by
 haveI:Inhabited α:=⟨d0⟩
 rcases DataW.trod_slice hU h with ⟨g,-⟩ | ⟨t,c,cap,S,U,m,rfl,g,V,-,ab,af,ae,I,-,-⟩
 ·simp at g
  subst g;exact ⟨[],none,0,rfl,LS.nil⟩
 ·simp at g
  subst g;rw [hc] at I;have F:∀ i,i < c->∃ d:α,∃ cs:List Value,cs.length=s/\(∀ (j:Nat) (u:Value),cs[j]? = some u->W.cell? (t.add (i*s+j))=some u)/\R cs d:=fun i J=>by
   have C:=I i J;rw [List.getElem?_eq_getElem (by omega),Option.bind_eq_some_iff] at C;obtain ⟨cs,Q,Y⟩:=C;obtain ⟨-,B,r⟩:=World.cells?_some Q;obtain ⟨d,G⟩:=hel m cs _ (Nat.lt_succ_self _) Y fun b a hm=>hz b a (by rw [V];exact List.mem_append_right _ (List.mem_flatMap.2 ⟨_,List.mem_append_left _ (List.getElem_mem _),hm⟩));refine ⟨d,cs,B,fun j u n=>?_,G⟩;have hj:j < s:=by have:=(List.getElem?_eq_some_iff.1 n).1;omega
   have q:=r j hj;rw [n] at q;rw [Addr.add_add] at q;exact q
  obtain ⟨f,N⟩:=Deep.choose_lt F;refine ⟨(List.range c).map f,some t,cap,by simp,by simp;omega,some t,cap,rfl,fun L=>?_⟩;have X:0 < c:=by
   rcases Nat.eq_zero_or_pos c with h | h
   ·subst h;simp at L
   ·exact h
  have Z:∃ b a,t=⟨b,a,none⟩:=by
   obtain ⟨cs,M,l,-⟩:=N 0 X;obtain ⟨u,n⟩:∃ u,cs[0]? = some u:=⟨cs[0]'(by omega),List.getElem?_eq_getElem (by omega)⟩;have q:=l 0 u n;have A:t.spot=none:=by simpa [Addr.add] using World.cell?_spot q
   obtain ⟨b,a,sp⟩:=t;simp only at A;subst A;exact ⟨b,a,rfl⟩
  obtain ⟨T,a,rfl⟩:=Z;have K:Fz0 W T a:=by
   obtain ⟨cs,M,l,-⟩:=N 0 X;obtain ⟨u,n⟩:∃ u,cs[0]? = some u:=⟨cs[0]'(by omega),List.getElem?_eq_getElem (by omega)⟩;have q:=l 0 u n;refine ⟨by simpa [Addr.add] using World.block_lt_of_cell? W _ q,hz T a ?_⟩;rw [V];refine List.mem_append_left _ (List.mem_map.2 ⟨0,List.mem_range.2 ?_,by simp⟩);rw [hc];exact Nat.mul_pos (by omega) hs
  refine ⟨T,a,rfl,K,fun i d G=>?_⟩;have J:i < c:=by
   have:=(List.getElem?_eq_some_iff.1 G).1;simpa using this
  have P:d=f i:=by
   rw [List.getElem?_map,List.getElem?_range J] at G;simpa using G.symm
  subst P;obtain ⟨cs,M,l,hr⟩:=N i J;exact ⟨cs,M,fun j u n=>by have:=l j u n;rw [Addr.add_lit] at this;simpa [Nat.add_assoc] using this,hr⟩
theorem DJ {m:Nat} {cs:List Value} {y:DataW H × List MemPlace} (h:DataW.trod enc Tryz.prog W 0 (fun _=>true) true m 3 cs=some y):∃ n:Int,cs=[A J n]:=by
 obtain ⟨n,e,-⟩:=DataW.trod_int Tryz.underlying3 h;exact ⟨n,e⟩
theorem Ei {m:Nat} {cs:List Value} {y:DataW H × List MemPlace} (h:DataW.trod enc Tryz.prog W 0 (fun _=>true) true m 9 cs=some y):∃ x:ByteArray,cs=[.string x]/\x.size<=maxLen:=by
 obtain ⟨n,e,-,a⟩:=DataW.trod_string Tryz.underlying9 h;exact ⟨n,e,a⟩
theorem Md {m:Nat} {cs:List Value} {y:DataW H × List MemPlace} (h:DataW.trod enc Tryz.prog W 0 (fun _=>true) true m 4 cs=some y):∃ x:Bool,cs=[zc x]:=by
 obtain ⟨n,e,-⟩:=DataW.trod_bool Tryz.underlying4 h;exact ⟨n,e⟩
theorem MY {k m:Nat} {cs:List Value} {d:D} (hk:k<=m) (h:ZE W k cs d):ZE W m cs d:=h.up (fun _ _ h=>h) (fun _ _ h=>h) hk
theorem MZ {ke k m:Nat} {cs:List Value} {d:D} (hk:k<=m) (h:ZC W ke k cs d):ZC W ke m cs d:=h.up (fun _ _ h=>h) (fun _ _ h=>h) (Nat.le_refl _) hk
theorem G0:∀ (fuel:Nat) (cs:List Value) (x:DataW H × List MemPlace),DataW.trod enc Tryz.prog W 0 (fun _=>true) true fuel 49 cs=some x->W.noneFrozen x.2->∃ d,ZE W fuel cs d:=by
 intro fuel
 induction fuel using Nat.strongRecOn with
 | ind fuel ih=>
  intro cs x h L;obtain ⟨K,n,rfl,N,r,i,c⟩:=DataW.trod_struct Tryz.underlying49 h;rw [Tryz.kE] at r
  match cs,r,K,i with
  | [c0,c1,c2,c3,c4],_,[y0,y1,y2,y3,y4],_=>
   have B:=c 0 _ rfl;have A:=c 1 _ rfl;have v:=c 2 _ rfl;have u:=c 3 _ rfl;have t:=c 4 _ rfl;simp [Tryz.kI,Tryz.kS,Tryz.k47] at B A v u t;have J:W.noneFrozen y4.2:=fun b f q=>L b f (by rw [N];simp [q]);obtain ⟨l,G⟩:=DJ B;obtain ⟨a,F⟩:=DJ A;obtain ⟨m,E⟩:=DJ v;obtain ⟨s,C,O⟩:=Ei u;obtain ⟨I,S,j,R,Q⟩:=CQ Tryz.underlying47 Tryz.kE (by omega) t J (.agg []:D) (ZE W n) fun m cs y q M g=>by
    obtain ⟨d,P⟩:=ih m (by omega) cs y M g;exact ⟨d,MY (by omega) P⟩
   simp at G F E C;subst G F E C R;exact ⟨eD l a m s I,l,a,m,s,S,j,I,rfl,rfl,O,Q⟩
theorem JO (K:Nat):∀ (fuel:Nat) (cs:List Value) (x:DataW H × List MemPlace),fuel<=K->DataW.trod enc Tryz.prog W 0 (fun _=>true) true fuel 55 cs=some x->W.noneFrozen x.2->∃ d,ZC W K fuel cs d:=by
 intro fuel
 induction fuel using Nat.strongRecOn with
 | ind fuel ih=>
  intro cs x hK h A;obtain ⟨xs,n,rfl,B,F,C,i⟩:=DataW.trod_struct Tryz.underlying55 h;rw [Tryz.kC] at F
  match cs,F,xs,C with
  | [c0,c1,c2,c3,c4,c5,c6,c7,c8,c9,c10,c11],_,[y0,y1,y2,y3,y4,y5,y6,y7],_=>
   have R:=i 0 _ rfl;have Q:=i 1 _ rfl;have P:=i 2 _ rfl;have O:=i 3 _ rfl;have N:=i 4 _ rfl;have M:=i 5 _ rfl;have L:=i 6 _ rfl;have J:=i 7 _ rfl;simp [Tryz.kI,Tryz.kS,Tryz.k47,Tryz.kE,Tryz.k23] at R Q P O N M L J;have z4:W.noneFrozen y4.2:=fun b c g=>A b c (by rw [B];simp [g]);have Z:W.noneFrozen y5.2:=fun b c g=>A b c (by rw [B];simp [g]);have Y:W.noneFrozen y6.2:=fun b c g=>A b c (by rw [B];simp [g]);have X:W.noneFrozen y7.2:=fun b c g=>A b c (by rw [B];simp [g]);obtain ⟨E,V⟩:=DJ R;obtain ⟨a,U⟩:=DJ Q;obtain ⟨s,T,hs⟩:=Ei P;obtain ⟨t,S,ht⟩:=Ei O;obtain ⟨e,I⟩:=G0 n _ _ N z4;obtain ⟨v,aA,cA,e5,hA⟩:=CQ Tryz.underlying47 Tryz.kE (by omega) M Z (.agg []:D) (ZE W K) fun m cs y g l f=>by
    obtain ⟨d,r⟩:=G0 m cs y l f;exact ⟨d,MY (by omega) r⟩
   obtain ⟨j,aT,cT,e6,hT⟩:=CQ Tryz.underlying23 Tryz.kC (by omega) L Y (.agg []:D) (ZC W K n) fun m cs y g l f=>by
    obtain ⟨d,r⟩:=ih m (by omega) cs y (by omega) l f;exact ⟨d,MZ (by omega) r⟩
   obtain ⟨u,aE,cE,e7,hE⟩:=CQ Tryz.underlying23 Tryz.kC (by omega) J X (.agg []:D) (ZC W K n) fun m cs y g l f=>by
    obtain ⟨d,r⟩:=ih m (by omega) cs y (by omega) l f;exact ⟨d,MZ (by omega) r⟩
   obtain ⟨k0,k1,k2,k3,q,q1,q2,G⟩:=I.cells;simp only [List.cons.injEq,and_true] at G;simp at V U T S;subst V U T S e5 e6 e7;obtain ⟨rfl,rfl,rfl,rfl,rfl⟩:=G;exact ⟨stD E a s t e v j u,E,a,s,t,k0,k1,k2,k3,q,q1,q2,e,aA,cA,v,aT,cT,j,aE,cE,u,rfl,rfl,hs,ht,MY (by omega) I,hA,hT,hE⟩
theorem JP {fuel:Nat} {v:Value} {x:DataW H × List MemPlace} (h:DataW.trod enc Tryz.prog W 0 (fun _=>true) true fuel 46 [v]=some x) (hz:W.noneFrozen x.2):∃ (ns:List ByteArray) (ao:Option Addr) (cap:Nat),v=O ao ns.length cap/\LS 1 ZN W (O ao ns.length cap) ns:=
 CQ Tryz.underlying46 Tryz.kS (by omega) h hz noS ZN fun m cs y hm hy hyz=>by
  obtain ⟨s,e,hs⟩:=Ei hy;exact ⟨s,e,hs⟩
theorem Nu {fuel:Nat} {cs:List Value} {x:DataW H × List MemPlace} (h:DataW.trod enc Tryz.prog W 0 (fun _=>true) true fuel 53 cs=some x) (hz:W.noneFrozen x.2):∃ d,ZP W cs d:=by
 obtain ⟨C,n,rfl,E,l,g,c⟩:=DataW.trod_struct Tryz.underlying53 h;rw [Tryz.kP] at l
 match cs,l,C,g with
 | [c0,c1,c2,c3],_,[y0,y1,y2,y3],_=>
  have u:=c 0 _ rfl;have t:=c 1 _ rfl;have r:=c 2 _ rfl;have q:=c 3 _ rfl;simp [Tryz.kI,Tryz.kS,Tryz.kB,Tryz.k46] at u t r q;have B:W.noneFrozen y3.2:=fun b f G=>hz b f (by rw [E];simp [G]);obtain ⟨a,A⟩:=DJ u;obtain ⟨s,y,F⟩:=Ei t;obtain ⟨b,v⟩:=Md r;obtain ⟨j,K,i,J,I⟩:=JP q B;simp at A y v;subst A y v J;exact ⟨C1 a s b j,a,s,b,K,i,j,rfl,rfl,F,I⟩
theorem Nv (K:Nat) {fuel:Nat} {cs:List Value} {x:DataW H × List MemPlace} (hK:fuel<=K) (h:DataW.trod enc Tryz.prog W 0 (fun _=>true) true fuel 51 cs=some x) (hz:W.noneFrozen x.2):∃ d,ZD W K K cs d:=by
 obtain ⟨xs,n,rfl,j,C,u,g⟩:=DataW.trod_struct Tryz.underlying51 h;rw [Tryz.kD] at C
 match cs,C,xs,u with
 | [c0,c1,c2,c3,c4,c5,c6,c7,c8,c9,c10,c11,c12],_,[y0,y1,y2,y3,y4,y5,y6,y7,y8],_=>
  have P:=g 0 _ rfl;have O:=g 1 _ rfl;have N:=g 2 _ rfl;have M:=g 3 _ rfl;have L:=g 4 _ rfl;have J:=g 5 _ rfl;have I:=g 6 _ rfl;have G:=g 7 _ rfl;have F:=g 8 _ rfl;simp [Tryz.kI,Tryz.kS,Tryz.kB,Tryz.k45,Tryz.k46,Tryz.k23,Tryz.kE] at P O N M L J I G F;have z5:W.noneFrozen y5.2:=fun b c f=>hz b c (by rw [j];simp [f]);have z6:W.noneFrozen y6.2:=fun b c f=>hz b c (by rw [j];simp [f]);have Z:W.noneFrozen y7.2:=fun b c f=>hz b c (by rw [j];simp [f]);have Y:W.noneFrozen y8.2:=fun b c f=>hz b c (by rw [j];simp [f]);obtain ⟨B,V⟩:=DJ P;obtain ⟨a,U⟩:=DJ O;obtain ⟨s,T,hs⟩:=Ei N;obtain ⟨t,S,ht⟩:=Ei M;obtain ⟨Q,R⟩:=Md L;obtain ⟨A,aL,cL,e5,hL⟩:=CQ Tryz.underlying45 Tryz.kP (by omega) J z5 (.agg []:D) (ZP W) fun m cs y f l i=>Nu l i;obtain ⟨v,aP,cP,e6,hP⟩:=JP I z6;obtain ⟨X,aB,cB,e7,hB⟩:=CQ Tryz.underlying23 Tryz.kC (by omega) G Z (.agg []:D) (ZC W K K) fun m cs y f l i=>by
   obtain ⟨d,hd⟩:=JO K m cs y (by omega) l i;exact ⟨d,MZ (by omega) hd⟩
  obtain ⟨r,hr⟩:=G0 n _ _ F Y;obtain ⟨k0,k1,k2,k3,q,q1,q2,E⟩:=hr.cells;simp only [List.cons.injEq,and_true] at E;simp at V U T S R;subst V U T S R e5 e6 e7;obtain ⟨rfl,rfl,rfl,rfl,rfl⟩:=E;exact ⟨deD B a s t Q A v X r,B,a,s,t,Q,aL,cL,A,aP,cP,v,aB,cB,X,k0,k1,k2,k3,q,q1,q2,r,rfl,rfl,hs,ht,hL,hP,hB,MY (by omega) hr⟩
theorem open_tree {r:Go.Reach} {b0:Nat} {v:Value} {d:DataW H} {p:List MemPlace} (hv:Value.okWide Tryz.prog W r b0 25 v) (h:DataW.Trod enc Tryz.prog W 0 (fun _=>true) true 25 v d p) (hz:W.noneFrozen p):∃ (K:Nat) (ds l:List D),ZT W K K v ds l:=by
 obtain ⟨f,rfl,L⟩:=okWide_struct Tryz.underlying25 hv;obtain ⟨F,t⟩:=h;obtain ⟨J,n,rfl,B,q,j,u⟩:=DataW.trod_struct Tryz.underlying25 t;rw [Tryz.kT] at q;have N:(Value.cells (.agg f)).toList=f.toList:=by simp [Value.cells]
 obtain ⟨x⟩:=f;simp [Value.cells] at q u
 match x,q,J,j with
 | [c0,c1],_,[y0,y1],_=>
  have E:=u 0 _ rfl;have C:=u 1 _ rfl;simp [Tryz.k22,Tryz.k23] at E C;have I:W.noneFrozen y0.2:=fun b a g=>hz b a (by rw [show p=_ from congrArg Prod.snd B];simp [g]);have G:W.noneFrozen y1.2:=fun b a g=>hz b a (by rw [show p=_ from congrArg Prod.snd B];simp [g]);obtain ⟨ds,T,A,R,P⟩:=CQ Tryz.underlying22 Tryz.kD (by omega) E I (.agg []:D) (ZD W n n) fun m f y g i c=>Nv n (by omega) i c;obtain ⟨l,U,S,Q,O⟩:=CQ Tryz.underlying23 Tryz.kC (by omega) C G (.agg []:D) (ZC W n n) fun m f y g i c=>by
   obtain ⟨d,M⟩:=JO n m f y (by omega) i c;exact ⟨d,MZ (by omega) M⟩
  subst R Q;exact ⟨n,ds,l,T,A,U,S,rfl,P,O⟩
end
end Go.Proofs.YtipngnjffjajpaaGreatDoor.Tx
