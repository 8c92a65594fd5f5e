/- What must be in any case: veilworklaw.labelBegun answers true, if the calls of package label keep their contracts. -/
import Derived.Deep.CutRange
import Derived.Test.YtfffpjkcfnekaaaGreatI14
import Derived.Deep.SlicePairs
import Derived.Maps.AppendAt
import Derived.Deep.RegionHeld2
set_option linter.unusedVariables false
set_option maxHeartbeats 8000000
set_option maxRecDepth 100000
namespace Go.Proofs.YtfffpjkcfnekaaaGreat
open Go.RowKit
open Go.Value renaming slice -> O, int -> zd, bool -> zg, agg -> zh, pointer -> zj, tuple -> zm
open Go.IntKind renaming i64 -> U
open Go.Obj renaming cells -> ze
open Go.Ending renaming returned -> zk
attribute [local go_sem ↓] Go.wp_at_zero Go.wp_at_succ
def lv:Lev:=⟨[false,true],[true,true]⟩
end Go.Proofs.YtfffpjkcfnekaaaGreat
namespace Go.Proofs.YtfffpjkcfnekaaaGreat.Ex
open Go.RowKit Go.ChangeShapes Go.WideShapes
open Go.Value renaming slice -> O, int -> zd, bool -> zg, agg -> zh, pointer -> zj, tuple -> zm
open Go.IntKind renaming i64 -> U
open Go.Obj renaming cells -> ze
open Go.Ending renaming returned -> zk
theorem Tryz.cells25:Tryz.prog.cellsOf 25=1:=by kernel_rfl
theorem Tryz.cells26:Tryz.prog.cellsOf 26=1:=by kernel_rfl
theorem Tryz.cells27:Tryz.prog.cellsOf 27=1:=by kernel_rfl
theorem Tryz.cells28:Tryz.prog.cellsOf 28=1:=by kernel_rfl
theorem Tryz.cells29:Tryz.prog.cellsOf 29=1:=by kernel_rfl
theorem Tryz.cells22:Tryz.prog.cellsOf 22=1:=by kernel_rfl
theorem Tryz.cells52:Tryz.prog.cellsOf 92=1:=by kernel_rfl
theorem Tryz.cells65:Tryz.prog.cellsOf 37=1:=by kernel_rfl
theorem Tryz.cells4:Tryz.prog.cellsOf 4=1:=by kernel_rfl
theorem Tryz.cells3':Tryz.prog.cellsOf 3=1:=by kernel_rfl
theorem Tryz.cells24:Tryz.prog.cellsOf 24=2:=by kernel_rfl
theorem Tryz.cells54:Tryz.prog.cellsOf 94=3:=by kernel_rfl
theorem Tryz.cells67:Tryz.prog.cellsOf 39=2:=by kernel_rfl
theorem Tryz.cells122:Tryz.prog.cellsOf 87=2:=by kernel_rfl
theorem Tryz.cells71:Tryz.prog.cellsOf 130=9:=by kernel_rfl
theorem Tryz.cells80:Tryz.prog.cellsOf 105=5:=by kernel_rfl
theorem Tryz.cells69:Tryz.prog.cellsOf 41=3:=by kernel_rfl
theorem Tryz.cells101:Tryz.prog.cellsOf 169=2:=by kernel_rfl
theorem Tryz.cells31:Tryz.prog.cellsOf 31=8:=by kernel_rfl
def LAt {α:Type} (s:Nat) (R:List Value->α->Prop) (W:World) (v:Value) (ds:List α):Prop:=
 ds.length<=maxLen/\∃ ao cap,v=O ao ds.length cap/\ds.length<=cap/\cap<=maxLen/\(ao=none->cap=0)/\(ds≠[]->∃ b off,ao=some ⟨b,off,none⟩ /\
  ∀ (i:Nat) (d:α),ds[i]? = some d->∃ cs:List Value,cs.length=s/\(∀ (j:Nat) (u:Value),cs[j]? = some u->W.cell? ⟨b,off+i*s+j,none⟩=some u)/\R cs d)
section
variable {H:Type} {enc:TypeId × Value->H} {W:World}
theorem Cc {α:Type} {TS E s:Nat} (hU:Tryz.prog.underlying TS=some (.slice E)) (hc:Tryz.prog.cellsOf E=s) (hs:0 < s) {fuel:Nat} {v:Value} {x:DataW H × List MemPlace} (h:DataW.trod enc Tryz.prog W 0 (fun _=>true) true fuel TS [v]=some x)
  (d0:α) (R:List Value->α->Prop) (hel:∀ (m:Nat) (cs:List Value) (y:DataW H × List MemPlace),m < fuel->DataW.trod enc Tryz.prog W 0 (fun _=>true) true m E cs=some y->∃ d,R cs d):∃ ds:List α,LAt s R W v ds:=by
 haveI:Inhabited α:=⟨d0⟩
 rcases DataW.trod_slice hU h with ⟨c,-⟩ | ⟨C,len,N,M,O,m,rfl,c,-,-,I,K,V,B,-,-⟩
 ·simp at c
  subst c;exact ⟨[],by simp,none,0,rfl,by simp,by unfold maxLen;omega,fun _=>rfl,fun h=>absurd rfl h⟩
 ·simp at c
  subst c;rw [hc] at B;have z:∀ i,i < len->∃ d:α,∃ cs:List Value,cs.length=s/\(∀ (j:Nat) (u:Value),cs[j]? = some u->W.cell? (C.add (i*s+j))=some u)/\R cs d:=fun i F=>by
   have t:=B i F;rw [List.getElem?_eq_getElem (by omega),Option.bind_eq_some_iff] at t;obtain ⟨cs,L,Q⟩:=t;obtain ⟨-,q,k⟩:=World.cells?_some L;obtain ⟨d,A⟩:=hel m cs _ (Nat.lt_succ_self _) Q;refine ⟨d,cs,q,fun j u l=>?_,A⟩;have U:j < s:=by have:=(List.getElem?_eq_some_iff.1 l).1;omega
   have hk:=k j U;rw [l] at hk;rw [Addr.add_add] at hk;exact hk
  obtain ⟨f,P⟩:=Deep.choose_lt z;refine ⟨(List.range len).map f,by simp;omega,some C,N,by simp,by simpa using I,K,fun h=>absurd h (by simp),fun G=>?_⟩;have X:0 < len:=by
   rcases Nat.eq_zero_or_pos len with h | h
   ·subst h;simp at G
   ·exact h
  have T:∃ b off,C=⟨b,off,none⟩:=by
   obtain ⟨cs,hl,g,-⟩:=P 0 X;obtain ⟨u,l⟩:∃ u,cs[0]? = some u:=⟨cs[0]'(by omega),List.getElem?_eq_getElem (by omega)⟩;have hk:=g 0 u l;have p:C.spot=none:=by simpa [Addr.add] using World.cell?_spot hk
   obtain ⟨b,off,Z⟩:=C;simp only at p;subst p;exact ⟨b,off,rfl⟩
  obtain ⟨Y,off,rfl⟩:=T;refine ⟨Y,off,rfl,fun i d A=>?_⟩;have F:i < len:=by
   have:=(List.getElem?_eq_some_iff.1 A).1;simpa using this
  have J:d=f i:=by
   rw [List.getElem?_map,List.getElem?_range F] at A;simpa using A.symm
  subst J;obtain ⟨cs,hl,g,S⟩:=P i F;exact ⟨cs,hl,fun j u l=>by have:=g j u l;rw [Addr.add_lit] at this;simpa [Nat.add_assoc] using this,S⟩
theorem Ly {v:Value} {l:List Int} (h:LAt 1 (fun cs x=>cs=[zd U x]) W v l):AQ W v l:=by
 obtain ⟨-,t,g,k,-,-,-,q⟩:=h;refine ⟨t,g,k,fun c=>?_⟩;obtain ⟨b,off,s,d⟩:=q c;refine ⟨b,off,s,fun i p=>?_⟩;obtain ⟨cs,-,f,rfl⟩:=d i l[i] (List.getElem?_eq_getElem p);have:=f 0 _ rfl;simpa using this
theorem CH {m:Nat} {cs:List Value} {y:DataW H × List MemPlace} (h:DataW.trod enc Tryz.prog W 0 (fun _=>true) true m 3 cs=some y):∃ n:Int,cs=[zd U n]/\Cq n:=by
 obtain ⟨n,e,-,hw⟩:=DataW.trod_int Tryz.underlying3 h;exact ⟨n,e,Q7 hw⟩
theorem Fa {fuel:Nat} {v:Value} {x:DataW H × List MemPlace} (h:DataW.trod enc Tryz.prog W 0 (fun _=>true) true fuel 25 [v]=some x):∃ l:List Int,LAt 1 (fun cs x=>cs=[zd U x]) W v l:=
 Cc Tryz.underlying25 Tryz.cells3' (by omega) h 0 _ fun m cs y _ hy=>by obtain ⟨n,e,-⟩:=CH hy;exact ⟨n,e⟩
theorem I7 {fuel:Nat} {v:Value} {x:DataW H × List MemPlace} (h:DataW.trod enc Tryz.prog W 0 (fun _=>true) true fuel 22 [v]=some x):∃ l:List (Int × Int),AB W v l:=by
 obtain ⟨l,hl⟩:=Cc Tryz.underlying22 Tryz.cells101 (by omega) h (0,0) (fun cs (x:Int × Int)=>cs=[zd U x.1,zd U x.2]) fun m cs y _ A=>by
  obtain ⟨z,n,rfl,-,hl,d,p⟩:=DataW.trod_struct Tryz.underlying169 A;rw [Tryz.cells101] at hl
  match cs,hl,z,d with
  | [c0,c1],_,[y0,y1],_=>
   have s:=p 0 _ rfl;have q:=p 1 _ rfl;simp [Tryz.cells3'] at s q;obtain ⟨a,u,-⟩:=CH s;obtain ⟨b,t,-⟩:=CH q;simp at u t;subst u;subst t;exact ⟨(a,b),rfl⟩
 obtain ⟨-,G,k,B,-,-,-,E⟩:=hl;refine ⟨l,G,k,B,fun f=>?_⟩;obtain ⟨b,off,F,g⟩:=E f;refine ⟨b,off,F,fun i C=>?_⟩;obtain ⟨cs,-,c,rfl⟩:=g i l[i] (List.getElem?_eq_getElem C);exact ⟨c 0 _ rfl,c 1 _ rfl⟩
theorem GQ {fuel:Nat} {v:Value} {x:DataW H × List MemPlace} (h:DataW.trod enc Tryz.prog W 0 (fun _=>true) true fuel 37 [v]=some x):∃ l:List Pol,Au W v l:=by
 obtain ⟨l,hl⟩:=Cc Tryz.underlying37 Tryz.cells122 (by omega) h ⟨0,[]⟩ (fun cs (x:Pol)=>∃ u,cs=[zd U x.owner,u]/\AQ W u x.names) fun m cs y _ C=>by
  obtain ⟨A,n,rfl,-,hl,d,q⟩:=DataW.trod_struct Tryz.underlying87 C;rw [Tryz.cells122] at hl
  match cs,hl,A,d with
  | [c0,c1],_,[y0,y1],_=>
   have t:=q 0 _ rfl;have s:=q 1 _ rfl;simp [Tryz.cells3',Tryz.cells25] at t s;obtain ⟨a,z,-⟩:=CH t;simp at z;subst z;obtain ⟨B,f⟩:=Fa s;exact ⟨⟨a,B⟩,c1,rfl,Ly f⟩
 obtain ⟨-,K,p,E,-,-,-,I⟩:=hl;refine ⟨l,K,p,E,fun g=>?_⟩;obtain ⟨b,off,J,k⟩:=I g;refine ⟨b,off,J,fun i G=>?_⟩;obtain ⟨cs,-,c,u,rfl,F⟩:=k i l[i] (List.getElem?_eq_getElem G);exact ⟨c 0 _ rfl,u,c 1 _ rfl,F⟩
theorem JK {m:Nat} {cs:List Value} {y:DataW H × List MemPlace} (h:DataW.trod enc Tryz.prog W 0 (fun _=>true) true m 39 cs=some y):∃ (l:Lab) (pr pw:Value),cs=[pr,pw]/\Au W pr l.r/\Au W pw l.w:=by
 obtain ⟨i,n,rfl,-,hl,c,d⟩:=DataW.trod_struct Tryz.underlying39 h;rw [Tryz.cells67] at hl
 match cs,hl,i,c with
 | [c0,c1],_,[y0,y1],_=>
  have g:=d 0 _ rfl;have f:=d 1 _ rfl;simp [Tryz.cells65] at g f;obtain ⟨a,p⟩:=GQ g;obtain ⟨b,k⟩:=GQ f;exact ⟨⟨a,b⟩,c0,c1,rfl,p,k⟩
theorem GR {fuel:Nat} {ao:Option Addr} {n cap:Nat} {x:DataW H × List MemPlace} (h:DataW.trod enc Tryz.prog W 0 (fun _=>true) true fuel 26 [O ao n cap]=some x):∃ l:List Lab,AX W (O ao n cap) l/\(ao=none->cap=0):=by
 obtain ⟨l,hl⟩:=Cc Tryz.underlying26 Tryz.cells67 (by omega) h ⟨[],[]⟩ (fun cs (l:Lab)=>∃ pr pw,cs=[pr,pw]/\Au W pr l.r/\Au W pw l.w) fun m cs y _ p=>JK p;obtain ⟨s,G,g,q,-,-,k,u⟩:=hl;injection q with F E C;subst F E C;refine ⟨l,⟨s,ao,cap,rfl,fun d=>?_⟩,k⟩;obtain ⟨b,off,z,f⟩:=u d;refine ⟨b,off,z,fun i t=>?_⟩;obtain ⟨cs,-,c,pr,pw,rfl,B,A⟩:=f i l[i] (List.getElem?_eq_getElem t);exact ⟨pr,pw,c 0 _ rfl,c 1 _ rfl,B,A⟩
theorem Lk {fuel:Nat} {v:Value} {x:DataW H × List MemPlace} (h:DataW.trod enc Tryz.prog W 0 (fun _=>true) true fuel 27 [v]=some x):∃ l:List (Bool × Lab),Bo W v l:=by
 obtain ⟨l,hl⟩:=Cc Tryz.underlying27 Tryz.cells69 (by omega) h (false,⟨[],[]⟩) (fun cs (l:Bool × Lab)=>∃ pr pw,cs=[zg l.1,pr,pw]/\Au W pr l.2.r/\Au W pw l.2.w) fun m cs y _ C=>by
  obtain ⟨A,n,rfl,-,hl,f,s⟩:=DataW.trod_struct Tryz.underlying41 C;rw [Tryz.cells69] at hl
  match cs,hl,A,f with
  | [c0,c1,c2],_,[y0,y1],_=>
   have t:=s 0 _ rfl;have d:=s 1 _ rfl;simp [Tryz.cells4,Tryz.cells67] at t d;obtain ⟨b,z,-⟩:=DataW.trod_bool Tryz.underlying4 t;simp at z;subst z;obtain ⟨B,pr,pw,u,p,K⟩:=JK d;simp at u;obtain ⟨rfl,rfl⟩:=u;exact ⟨(b,B),c1,c2,rfl,p,K⟩
 obtain ⟨F,L,q,E,-,-,-,I⟩:=hl;refine ⟨l,F,L,q,E,fun g=>?_⟩;obtain ⟨b,off,J,k⟩:=I g;refine ⟨b,off,J,fun i G=>?_⟩;obtain ⟨cs,-,c,pr,pw,rfl,d,p⟩:=k i l[i] (List.getElem?_eq_getElem G);exact ⟨pr,pw,c 0 _ rfl,c 1 _ rfl,c 2 _ rfl,d,p⟩
theorem Py {s:Nat} {R:List Value->D->Prop} {v:Value} {l:List D} (h:LAt s R W v l):XS s R W v l:=by
 obtain ⟨d,g,b,c,-,-,-,f⟩:=h;exact ⟨d,g,b,c,f⟩
theorem M6 (K:Nat):∀ (fuel:Nat) (cs:List Value) (x:DataW H × List MemPlace),fuel<=K->DataW.trod enc Tryz.prog W 0 (fun _=>true) true fuel 130 cs=some x->∃ d,RS W K fuel cs d:=by
 intro fuel
 induction fuel using Nat.strongRecOn with
 | ind fuel ih=>
  intro cs x S h;obtain ⟨J,n,rfl,-,hl,i,b⟩:=DataW.trod_struct Tryz.underlying130 h;rw [Tryz.cells71] at hl
  match cs,hl,J,i with
  | [c0,c1,c2,c3,c4,c5,c6,c7,c8],_,[y0,y1,y2,y3,y4,y5,y6],_=>
   have C:=b 0 _ rfl;have B:=b 1 _ rfl;have A:=b 2 _ rfl;have z:=b 3 _ rfl;have u:=b 4 _ rfl;have t:=b 5 _ rfl;have s:=b 6 _ rfl;simp [Tryz.cells3',Tryz.cells54,Tryz.cells52,Tryz.cells29] at C B A z u t s;obtain ⟨p,I,N⟩:=CH C;obtain ⟨va,G,M⟩:=CH B;obtain ⟨l,F,L⟩:=CH A;simp at I G F;subst I;subst G;subst F;obtain ⟨e,O⟩:=FT n _ _ z;obtain ⟨g,R⟩:=Cc Tryz.underlying92 Tryz.cells54 (by omega) u (.agg []) (RX W K) fun m cs y q c=>by
    obtain ⟨d,f⟩:=FT m _ _ c;exact ⟨d,RX.mono (fun _ _ h=>h) m K _ _ (by omega) f⟩
   obtain ⟨k,P⟩:=Cc Tryz.underlying29 Tryz.cells71 (by omega) t (.agg []) (RS W K n) fun m cs y q c=>by
    obtain ⟨d,f⟩:=ih m (by omega) cs y (by omega) c;exact ⟨d,RS.mono (fun _ _ h=>h) m n _ _ (by omega) f⟩
   obtain ⟨E,Q⟩:=Cc Tryz.underlying29 Tryz.cells71 (by omega) s (.agg []) (RS W K n) fun m cs y q c=>by
    obtain ⟨d,f⟩:=ih m (by omega) cs y (by omega) c;exact ⟨d,RS.mono (fun _ _ h=>h) m n _ _ (by omega) f⟩
   exact ⟨sD p va l e g k E,p,va,l,c3,c4,c5,e,c6,g,c7,k,c8,E,rfl,rfl,N,M,L,RX.mono (fun _ _ h=>h) n K _ _ (by omega) O,Py R,Py P,Py Q⟩
theorem Gf (K:Nat) {fuel:Nat} {v:Value} {x:DataW H × List MemPlace} (hK:fuel<=K) (h:DataW.trod enc Tryz.prog W 0 (fun _=>true) true fuel 29 [v]=some x):∃ l,AI W K K v l:=by
 obtain ⟨l,hl⟩:=Cc Tryz.underlying29 Tryz.cells71 (by omega) h (.agg []) (RS W K K) fun m cs y f b=>by
  obtain ⟨d,c⟩:=M6 K m cs y (by omega) b;exact ⟨d,RS.mono (fun _ _ h=>h) m K _ _ (by omega) c⟩
 exact ⟨l,Py hl⟩
theorem JL (K:Nat) {fuel:Nat} {v:Value} {x:DataW H × List MemPlace} (hK:fuel<=K) (h:DataW.trod enc Tryz.prog W 0 (fun _=>true) true fuel 28 [v]=some x):∃ l,Bi W K K v l:=by
 obtain ⟨l,hl⟩:=Cc Tryz.underlying28 Tryz.cells80 (by omega) h ⟨[],[],.agg []⟩ (fun cs (f:FnD)=>∃ vP vB x0 x1 x2,cs=[vP,vB,x0,x1,x2]/\AQ W vP f.ps/\QC vP f.ps/\AI W K K vB f.body/\RX W K [x0,x1,x2] f.res) fun m cs y E I=>by
  obtain ⟨G,n,rfl,-,hl,q,z⟩:=DataW.trod_struct Tryz.underlying105 I;rw [Tryz.cells80] at hl
  match cs,hl,G,q with
  | [c0,c1,c2,c3,c4],_,[y0,y1,y2],_=>
   have F:=z 0 _ rfl;have p:=z 1 _ rfl;have k:=z 2 _ rfl;simp [Tryz.cells25,Tryz.cells29,Tryz.cells54] at F p k;obtain ⟨ps,g⟩:=Fa F;obtain ⟨S,B⟩:=Gf K (by omega) p;obtain ⟨e,L⟩:=FT n _ _ k;refine ⟨⟨ps,S,e⟩,c0,c1,c2,c3,c4,rfl,Ly g,?_,B,RX.mono (fun _ _ h=>h) n K _ _ (by omega) L⟩;obtain ⟨u,C,d,s,P,O,-⟩:=g;exact ⟨u,C,d,s,P,O⟩
 obtain ⟨E,C,d,s,-,-,-,M⟩:=hl;refine ⟨l,E,C,d,s,fun t=>?_⟩;obtain ⟨b,off,N,A⟩:=M t;refine ⟨b,off,N,fun i J=>?_⟩;obtain ⟨cs,-,c,vP,vB,x0,x1,x2,rfl,p,k,R,Q⟩:=A i l[i] (List.getElem?_eq_getElem J);exact ⟨vP,vB,x0,x1,x2,c 0 _ rfl,c 1 _ rfl,c 2 _ rfl,c 3 _ rfl,c 4 _ rfl,p,k,R,Q⟩
end
section
variable {H:Type} {enc:TypeId × Value->H} {W:World}
theorem Ci {TS E:Nat} (hU:Tryz.prog.underlying TS=some (.slice E)) {fuel:Nat} {v:Value} {x:DataW H × List MemPlace} (h:DataW.trod enc Tryz.prog W 0 (fun _=>true) true fuel TS [v]=some x):∃ a n c,v=O a n c:=by
 rcases DataW.trod_slice hU h with ⟨b,-⟩ | ⟨i,len,g,d,f,m,rfl,b,-⟩
 ·simp at b
  exact ⟨_,_,_,b⟩
 ·simp at b
  exact ⟨_,_,_,b⟩
theorem M7 {fuel:Nat} {cs:List Value} {x:DataW H × List MemPlace} (h:DataW.trod enc Tryz.prog W 0 (fun _=>true) true fuel 31 cs=some x) :
  ∃ (m:Int) (ga:Option Addr) (gn gc:Nat) (sa:Option Addr) (sn sc:Nat) (ya:Option Addr) (yn yc:Nat) (oa:Option Addr) (on oc:Nat) (va:Option Addr) (vn vc:Nat) (fa:Option Addr) (fn fc:Nat) (ba:Option Addr) (bn bc:Nat) (gs:List (Int × Int)) (sp:List Int) (ls ms:List Lab) (vs:List (Bool × Lab)) (fs:List FnD) (l:List D),cs=[zd U m,O ga gn gc,O sa sn sc,O ya yn yc,O oa on oc,O va vn vc,O fa fn fc,O ba bn bc]/\Bg fuel fuel m ga gn gc sa sn sc ya yn yc oa on oc va vn vc fa fn fc ba bn bc gs sp ls ms vs fs l W:=by
 obtain ⟨M,n,rfl,-,hl,g,b⟩:=DataW.trod_struct Tryz.underlying31 h;rw [Tryz.cells31] at hl
 match cs,hl,M,g with
 | [c0,c1,c2,c3,c4,c5,c6,c7],_,[y0,y1,y2,y3,y4,y5,y6],_=>
  have I:=b 0 _ rfl;have E:=b 1 _ rfl;have C:=b 2 _ rfl;have B:=b 3 _ rfl;have A:=b 4 _ rfl;have z:=b 5 _ rfl;have y:=b 6 _ rfl;simp [Tryz.cells24,Tryz.cells25,Tryz.cells26,Tryz.cells27,Tryz.cells28,Tryz.cells29] at I E C B A z y;obtain ⟨L,G,rfl,-,P,f,d⟩:=DataW.trod_struct Tryz.underlying24 I
  match L,f with
  | [z0,z1],_=>
   have J:=d 0 _ rfl;have F:=d 1 _ rfl;simp [Tryz.cells3',Tryz.cells22] at J F;obtain ⟨m,K,N⟩:=CH J;simp at K;subst K;obtain ⟨ga,gn,gc,rfl⟩:=Ci Tryz.underlying22 F;obtain ⟨sa,sn,sc,rfl⟩:=Ci Tryz.underlying25 E;obtain ⟨ya,yn,yc,rfl⟩:=Ci Tryz.underlying26 C;obtain ⟨oa,on,oc,rfl⟩:=Ci Tryz.underlying26 B;obtain ⟨va,vn,vc,rfl⟩:=Ci Tryz.underlying27 A;obtain ⟨fa,fn,fc,rfl⟩:=Ci Tryz.underlying28 z;obtain ⟨ba,bn,bc,rfl⟩:=Ci Tryz.underlying29 y;obtain ⟨gs,t⟩:=I7 F;obtain ⟨sp,c⟩:=Fa E;obtain ⟨ls,q,s⟩:=GR C;obtain ⟨ms,k,p⟩:=GR B;obtain ⟨vs,i⟩:=Lk A;obtain ⟨fs,u⟩:=JL (G+1+1) (by omega) z;obtain ⟨l,hl⟩:=Gf (G+1+1) (by omega) y;exact ⟨m,ga,gn,gc,sa,sn,sc,ya,yn,yc,oa,on,oc,va,vn,vc,fa,fn,fc,ba,bn,bc,gs,sp,ls,ms,vs,fs,l,rfl,N,t,Ly c,by have:=c.1;unfold maxLen at this;omega,q,k,i,u,hl,s,p⟩
theorem open_program {r:Go.Reach} {b0:Nat} {v:Value} {d:DataW H} {p:List MemPlace} (hv:Value.okWide Tryz.prog W r b0 31 v) (h:DataW.Trod enc Tryz.prog W 0 (fun _=>true) true 31 v d p) :
  ∃ (K:Nat) (m:Int) (ga:Option Addr) (gn gc:Nat) (sa:Option Addr) (sn sc:Nat) (ya:Option Addr) (yn yc:Nat) (oa:Option Addr) (on oc:Nat) (va:Option Addr) (vn vc:Nat) (fa:Option Addr) (fn fc:Nat) (ba:Option Addr) (bn bc:Nat) (gs:List (Int × Int)) (sp:List Int) (ls ms:List Lab) (vs:List (Bool × Lab)) (fs:List FnD) (l:List D),v=zh #[zd U m,O ga gn gc,O sa sn sc,O ya yn yc,O oa on oc,O va vn vc,O fa fn fc,O ba bn bc]/\Bg K K m ga gn gc sa sn sc ya yn yc oa on oc va vn vc fa fn fc ba bn bc gs sp ls ms vs fs l W:=by
 obtain ⟨cs,rfl,f⟩:=okWide_struct Tryz.underlying31 hv;obtain ⟨b,i⟩:=h;have c:DataW.trod enc Tryz.prog W 0 (fun _=>true) true b 31 cs.toList=some (d,p):=by simpa [Value.cells] using i
 obtain ⟨m,ga,gn,gc,sa,sn,sc,ya,yn,yc,oa,on,oc,va,vn,vc,fa,fn,fc,ba,bn,bc,gs,sp,ls,ms,vs,fs,l,k,g⟩:=M7 c;refine ⟨b,m,ga,gn,gc,sa,sn,sc,ya,yn,yc,oa,on,oc,va,vn,vc,fa,fn,fc,ba,bn,bc,gs,sp,ls,ms,vs,fs,l,?_,g⟩;have:cs=#[zd U m,O ga gn gc,O sa sn sc,O ya yn yc,O oa on oc,O va vn vc,O fa fn fc,O ba bn bc]:=by
  cases cs
  simp_all
 rw [this]
end
end Go.Proofs.YtfffpjkcfnekaaaGreat.Ex
namespace Go.Proofs.YtfffpjkcfnekaaaGreat.Ex.Ez
open Go.RowKit
open Go.Value renaming slice -> O, int -> zd, bool -> zg, agg -> zh, pointer -> zj, tuple -> zm
open Go.IntKind renaming i64 -> U
open Go.Obj renaming cells -> ze
open Go.Ending renaming returned -> zk
def Dc (E:Int) (w:World) (e:Ending) (w':World):Prop:=((E=0/\e=zk (zm #[]))\/(E≠0/\e=Az E))/\Ov w w'
theorem Dc.imp {p q:Int} {w:World} {e:Ending} {w':World} (h:Dc p w e w') (hpq:p=q):Dc q w e w':=by
 subst hpq;exact h
end Go.Proofs.YtfffpjkcfnekaaaGreat.Ex.Ez
namespace Go.Proofs.YtfffpjkcfnekaaaGreat.Ex
open Go.RowKit
open Go.Value renaming slice -> O, int -> zd, bool -> zg, agg -> zh, pointer -> zj, tuple -> zm
open Go.IntKind renaming i64 -> U
open Go.Obj renaming cells -> ze
open Go.Ending renaming returned -> zk
theorem Pq (args:Array Value) (w:World):(callFunc 179 args).run Tryz.prog w=.ok (.enter 179 args) w:=by simp [go_sem]
theorem Ad.set {cs:List Value} {w:World} {b j:Nat} {v:Value} (h:Ad cs w b) (hj:j < cs.length):Ad (cs.set j v) (w.setCell ⟨b,j,none⟩ v) b:=by
 have d:=h j _ (List.getElem?_eq_getElem hj);have f:=bL d;intro k u c;by_cases hk:k=j
 ·subst hk
  rw [List.getElem?_set_self hj] at c;simp at c;subst c;simp [go_sem,d]
 ·rw [List.getElem?_set_ne (by omega)] at c
  have:=h k u c;simp [go_sem,this]
theorem Ad.other {cs:List Value} {w:World} {b b' j:Nat} {v:Value} (h:Ad cs w b) (hb:b≠b'):Ad cs (w.setCell ⟨b',j,none⟩ v) b:=fun k u hu=>by
 have:=h k u hu;simp [go_sem,this]
theorem O7 {w:World} {r n j:Nat} {u:Value}:w.grownBy ((w.drewN n).setCell ⟨r,j,none⟩ u) (some r):=by
 have h:=Below.heap_setCell (w.drewN n) ⟨r,j,none⟩ u;refine ⟨rfl,rfl,rfl,by simp [World.setCell],fun k hk b=>?_⟩;rw [h k (fun e=>b (by rw [e]))];rfl
theorem Iz {w w0 w1:World} {a0 a1 a2 a3:Addr} {v0 v1 v2 v3:Value}
  (h:w0.cell? a0=some v0/\w0.cell? a1=some v1/\w0.cell? a2=some v2/\w0.cell? a3=some v3/\Ov w w0) (hb:Ov w0 w1) :
  w1.cell? a0=some v0/\w1.cell? a1=some v1/\w1.cell? a2=some v2/\w1.cell? a3=some v3/\Ov w w1:=by
 obtain ⟨g,f,d,c,b⟩:=h;exact ⟨Ab hb _ _ g,Ab hb _ _ f,Ab hb _ _ d,Ab hb _ _ c,b.trans (hb.mono b.size)⟩
theorem Ad.newA (cs:Array Value) (t:Nat) (w:World):Ad cs.toList (w.alloc (.cells cs t)) w.heap.size:=fun j u hu=>by
 rw [Lib.cell_of_heap (heap_alloc_new w _)];simpa using hu
end Go.Proofs.YtfffpjkcfnekaaaGreat.Ex
namespace Go.Proofs.YtfffpjkcfnekaaaGreat.Ex
open Go.RowKit
open Go.Value renaming slice -> O, int -> zd, bool -> zg, agg -> zh, pointer -> zj, tuple -> zm
open Go.IntKind renaming i64 -> U
open Go.Obj renaming cells -> ze
open Go.Ending renaming returned -> zk
open Go.ChangeShapes Go.WideShapes Go.ChangeAt
end Go.Proofs.YtfffpjkcfnekaaaGreat.Ex
namespace Go.Proofs.YtfffpjkcfnekaaaGreat.Ex
open Go.RowKit
open Go.Value renaming slice -> O, int -> zd, bool -> zg, agg -> zh, pointer -> zj, tuple -> zm
open Go.IntKind renaming i64 -> U
open Go.Obj renaming cells -> ze
open Go.Ending renaming returned -> zk
abbrev En (l:List Int):List Value:=l.map fun x=>Value.int U x
theorem Np {w:World} {r j:Nat} {u:Value}:w.grownBy (w.setCell ⟨r,j,none⟩ u) (some r):=O7 (n:=0)
theorem LD {w:World} {a b j k:Nat} {u:Value}:(w.setCell ⟨a,j,none⟩ u).frozen? ⟨b,k,none⟩=w.frozen? ⟨b,k,none⟩:=by simp [go_sem]
def Off (B:Nat) (g:Option Nat) (w:World) (P:World->Prop):Prop:=∀ W:World,(∀ k,B<=k->k < w.heap.size->some k≠g->W.heap[k]? = w.heap[k]?)->P W
section
variable {B B':Nat} {g:Option Nat} {w w':World} {P P':World->Prop} {v v':Value}
theorem Off.self (h:Off B g w P):P w:=h w fun _ _ _ _=>rfl
theorem Off.imp (h:Off B g w P) (f:∀ W,P W->P' W):Off B g w P':=fun W hW=>f W (h W hW)
theorem Off.over (h:Off B g w P) (hb:Ov w w'):Off B g w' P:=fun W hW=>h W fun k h1 h2 h3=>(hW k h1 (Nat.lt_of_lt_of_le h2 hb.size) h3).trans (hb.block k h2)
theorem Off.base (h:Off B g w P) (hb:B'<=B):Off B' g w P:=fun W hW=>h W fun k h1 h2 h3=>hW k (Nat.le_trans hb h1) h2 h3
theorem Off.row (h:Off B v.ownBlock w P) (hg:w.grownBy w' v.ownBlock) (hv:v'.ownBlock=v.ownBlock\/v'.ownBlock=some w.heap.size):Off B v'.ownBlock w' P:=fun W hW=>h W fun k h1 h2 h3=>
 (hW k h1 (Nat.lt_of_lt_of_le h2 hg.size) (by
  rcases hv with e | e
  ·rw [e];exact h3
  ·rw [e];intro q;injection q with q;omega)).trans (hg.block k h2 h3)
theorem Off.weak (h:Off B none w P) (hb:B'<=B) (hg:∀ k,g=some k->k < B):Off B' g w P:=fun W hW=>h W fun k h1 h2 _=>hW k (Nat.le_trans hb h1) h2 (fun e=>by have:=hg k e.symm;omega)
theorem Off.set {b j:Nat} {u:Value} (h:Off B g w P) (hb:b < B):Off B g (w.setCell ⟨b,j,none⟩ u) P:=fun W hW=>h W fun k h1 h2 h3=>
 (hW k h1 (by simpa [World.setCell] using h2) h3).trans ((Np (w:=w) (r:=b) (j:=j) (u:=u)).block k h2 (fun e=>by injection e with e;omega))
end
def Cop (B T s:Nat) (P:Nat->List Value->World->Prop) (n:Nat) (v:Value) (w:World):Prop:=
 ∃ xs,w.ownsRow B T s v n xs/\∀ i,i < n->∃ cs:List Value,cs.length=s/\(∀ j u,cs[j]? = some u->xs[i*s+j]? = some u)/\Off B v.ownBlock w (P i cs)
section
variable {B T s n:Nat} {P:Nat->List Value->World->Prop} {v v':Value} {w w' w2:World}
theorem Cop.nil:Cop B T s P 0 (O none 0 0) w:=⟨[],World.ownsRow_nil w B T s,fun i hi=>absurd hi (Nat.not_lt_zero _)⟩
theorem Cop.over (h:Cop B T s P n v w) (hb:Ov w w'):Cop B T s P n v w':=by
 obtain ⟨b,c,f⟩:=h;refine ⟨b,GN c hb,fun i d=>?_⟩;obtain ⟨cs,l,k,g⟩:=f i d;exact ⟨cs,l,k,g.over hb⟩
theorem Cop.add {xs cs:List Value} {B1:Nat} (ho:w.ownsRow B T s v n xs) (he:∀ i,i < n->∃ cs:List Value,cs.length=s/\(∀ j u,cs[j]? = some u->xs[i*s+j]? = some u)/\Off B v.ownBlock w (P i cs))
  (hl:cs.length=s) (hn:Off B1 none w (P n cs)) (hB:B<=B1) (hrow:∀ k,v.ownBlock=some k->k < B1) (ho':w2.ownsRow B T s v' (n+1) (xs++cs)) (hg:w.grownBy w2 v.ownBlock) (hat:v'.ownBlock=v.ownBlock\/v'.ownBlock=some w.heap.size):Cop B T s P (n+1) v' w2:=by
 refine ⟨xs++cs,ho',fun i l=>?_⟩;by_cases h:i < n
 ·obtain ⟨g,f,d,c⟩:=he i h
  refine ⟨g,f,fun j u b=>?_,c.row hg hat⟩;have:=d j u b;rw [List.getElem?_append_left (List.getElem?_eq_some_iff.1 this).1];exact this
 ·obtain rfl:i=n:=by omega
  refine ⟨cs,hl,fun j u b=>?_,(hn.weak hB hrow).row hg hat⟩;rw [List.getElem?_append_right (by rw [ho.1];omega),ho.1,Nat.add_sub_cancel_left];exact b
theorem Cop.cells (h:Cop B T s P n v w) (hs:0 < s):∃ (a:Option Addr) (c:Nat),v=O a n c/\Off B none w (fun W=>(n≠0->∃ b,a=some ⟨b,0,none⟩/\∀ i,i < n->∃ cs:List Value,cs.length=s/\(∀ j u,cs[j]? = some u->W.cell? ⟨b,i*s+j,none⟩=some u)/\P i cs W)):=by
 obtain ⟨R,z,L⟩:=h;rcases z.2 with ⟨p,C⟩ | ⟨g,y,Q,p,M,A,V,U,S,N⟩
 ·exact ⟨none,0,by rw [p,C],fun W _ d=>absurd C d⟩
 ·refine ⟨some ⟨g,0,none⟩,y,p,fun W hW d=>⟨g,rfl,fun i K=>?_⟩⟩
  obtain ⟨cs,G,F,E⟩:=L i K;refine ⟨cs,G,fun j u J=>?_,E W fun k I H _=>hW k I H (by simp)⟩;have t:g < w.heap.size:=(Array.getElem?_eq_some_iff.1 A).1;have l:=F j u J;have f:W.heap[g]? = w.heap[g]?:=hW g M t (by simp);rw [World.cell?_of_block (a:=⟨g,i*s+j,none⟩) f,Lib.cell_of_heap A];have q:i*s+j < n*s:=by rw [<-z.1];exact (List.getElem?_eq_some_iff.1 l).1
  rw [<-N,List.getElem?_take,if_pos q] at l;simpa using l
end
theorem Tryz.infoFt:(Tryz.prog.info? 89).map (fun i=>(i.zero,i.size,i.bytes))=some (some (zh #[zd U 0,zd U 0]),2,16):=by kernel_rfl
theorem Cb {ops:Array Oper} {o:Oper} {a:Act} {W:World} {K:Act->World->Prop} {Q:Exit->Act->World->Prop} {E:Prop} (hg:o.guard=none) (s x:Operand) (t:TypeId) (hop:o.op=Op.call { callee:=Callee.builtin Builtin.append,args:=#[s,x],argTypes:=#[t,t] }) (v u v':Value) (W':World) (hs:a.eval s=v) (hx:a.eval x=u)
  (hr:(Builtin.append_ #[t,t] o.type #[v,u]).run Tryz.prog W=.ok v' W') (h:K (a.put o.dst v') W'):if Region.wanted o (yielded ops a.tmps)=true then Oper.wp Tryz.prog o a W K Q else E:=by
 have hw:Region.wanted o (yielded ops a.tmps)=true:=by simp [Region.wanted,hg]
 rw [if_pos hw];unfold Oper.wp execOp;simp only [hop,resolve,invoke,builtin,Sem.run_bind,Sem.run_pure,Result.andThen_ok,List.map_toArray,List.map_cons,List.map_nil,hs,hx,hr];exact h
theorem CF {cs:List Value} {w:World} {b j:Nat} {v:Value} (h:Ad cs w b) (hj:j < cs.length):Ad (cs.set j v) (w.setCell ⟨b,j,none⟩ v) b:=by
 intro i u c;by_cases hij:j=i
 ·subst hij
  rw [List.getElem?_set_self hj] at c;injection c with c;subst c;exact World.cell?_setCell_same _ _ _ (h j _ (List.getElem?_eq_getElem hj))
 ·rw [List.getElem?_set_ne hij] at c
  rw [World.cell?_setCell_other _ _ _ _ (by intro e;injection e with f d;exact hij d)];exact h i u c
theorem Bx {w:World} {b i k:Nat} (h:b≠k) (u:Value):(w.setCell ⟨b,i,none⟩ u).heap[k]? = w.heap[k]?:=by
 simp [World.setCell,Array.getElem?_modify,h]
theorem D1 {w:World} {b j:Nat} {u:Value}:w.grownBy (w.setCell ⟨b,j,none⟩ u) (some b):=
 ⟨rfl,rfl,rfl,by simp [World.setCell],fun k hk hne=>Bx (fun e=>hne (by rw [e])) u⟩
theorem Da {w w':World} {v:Value} {B:Nat} (h:w.grownBy w' v.ownBlock) (hv:∀ g,v.ownBlock=some g->B<=g) (hB:B<=w.heap.size):Below B w w':=
 ⟨h.os,h.tape,h.output,h.size,fun k hk=>h.block k (by omega) (fun e=>by have:=hv k e.symm;omega)⟩
def D2 (l:List (Int × Int)):List Value:=l.flatMap fun x=>[zd U x.1,zd U x.2]
theorem Kb (l:List (Int × Int)) (a k:Int):D2 (l++[(a,k)])=D2 l++[zd U a,zd U k]:=by simp [D2]
def addF (a k:Int) (fl:List (Int × Int)):Bool->List (Int × Int)
 | true=>fl++[(a,k)]
 | false=>fl
def XJ (bj:Nat) (W:World) (k:Nat):Prop:=W.heap.size<=bj\/k=bj\/∃ v,W.cell? ⟨bj,11,none⟩=some v/\v.ownBlock=some k
theorem An (bj:Nat):XOk (XJ bj):=⟨fun W W' hb k h=>by
 by_cases hlt:W.heap.size<=bj
 ·exact Or.inl hlt
 ·rcases h with h | h | ⟨v,hv,ho⟩
  ·exact absurd (Nat.le_trans hb.size h) hlt
  ·exact Or.inr (Or.inl h)
  ·refine Or.inr (Or.inr ⟨v,?_,ho⟩)
   rw [<-hv];exact (World.cell?_of_block (a:=⟨bj,11,none⟩) (hb.block bj (by omega))).symm⟩
structure AV (cs:List Value) (w0:World) (bj:Nat) (av:Value) (fl:List (Int × Int)) (fv:Value) (W:World):Prop where
 below:Ov w0 W
 row:Ad (cs++[av,fv]) W bj
 fz:∀ j,W.frozen? ⟨bj,j,none⟩=false
 own:W.ownsRow w0.heap.size 89 2 fv fl.length (D2 fl)
 ap:fv.ownBlock≠some bj
 lo:w0.heap.size<=bj/\bj < W.heap.size
 len:cs.length=10
theorem AV.c11 {cs:List Value} {w0:World} {bj:Nat} {av:Value} {fl:List (Int × Int)} {fv:Value} {W:World} (h:AV cs w0 bj av fl fv W):W.cell? ⟨bj,11,none⟩=some fv:=h.row 11 _ (by rw [List.getElem?_append_right (by rw [h.len];omega),h.len];rfl)
theorem AV.c10 {cs:List Value} {w0:World} {bj:Nat} {av:Value} {fl:List (Int × Int)} {fv:Value} {W:World} (h:AV cs w0 bj av fl fv W):W.cell? ⟨bj,10,none⟩=some av:=h.row 10 _ (by rw [List.getElem?_append_right (by rw [h.len];omega),h.len];rfl)
theorem AV.cw {cs:List Value} {w0:World} {bj:Nat} {av:Value} {fl:List (Int × Int)} {fv:Value} {W:World} (h:AV cs w0 bj av fl fv W):Ad cs W bj:=fun j u hu=>h.row j u (by rw [List.getElem?_append_left (List.getElem?_eq_some_iff.1 hu).1];exact hu)
theorem AV.over {cs:List Value} {w0:World} {bj:Nat} {av:Value} {fl:List (Int × Int)} {fv:Value} {W W':World} (h:AV cs w0 bj av fl fv W) (hb:Ov W W'):AV cs w0 bj av fl fv W':=
 ⟨h.below.trans (hb.mono h.below.size),h.row.over hb,fun j=>((Am hb).2 _ _ h.lo.2).trans (h.fz j),h.own.kept (row:=none) ⟨hb.os,hb.tape,hb.output,hb.size,fun k hk _=>hb.block k hk⟩ (by cases fv.ownBlock <;> simp),h.ap,⟨h.lo.1,Nat.lt_of_lt_of_le h.lo.2 hb.size⟩,h.len⟩
theorem Dd {W:World} {B e s n:Nat} {v:Value} {xs:List Value} (h:W.ownsRow B e s v n xs):∀ g,v.ownBlock=some g->B<=g/\g < W.heap.size:=by
 intro g b;rcases h.2 with ⟨h,-⟩ | ⟨k,i,f,h,d,c,-⟩
 ·rw [h] at b;cases b
 ·rw [h] at b
  simp [Value.ownBlock] at b;subst b;exact ⟨d,(Array.getElem?_eq_some_iff.1 c).1⟩
theorem AV.xlt {cs:List Value} {w0:World} {bj:Nat} {av:Value} {fl:List (Int × Int)} {fv:Value} {W:World} (h:AV cs w0 bj av fl fv W):∀ k,XJ bj W k->w0.heap.size<=k/\k < W.heap.size:=by
 rintro k (hk | rfl | ⟨v,b,c⟩)
 ·have:=h.lo.2;omega
 ·exact h.lo
 ·rw [h.c11] at b
  injection b with b;subst b;exact Dd h.own k c
theorem AV.add {cs:List Value} {w0:World} {bj:Nat} {av:Value} {fl:List (Int × Int)} {fv v':Value} {W W':World} {a k:Int} (h:AV cs w0 bj av fl fv W) (ho':W'.ownsRow w0.heap.size 89 2 v' (fl.length+1) (D2 fl++[zd U a,zd U k])) (hg:W.grownBy W' fv.ownBlock) (hat:v'.ownBlock=fv.ownBlock\/v'.ownBlock=some W.heap.size) :
  AV cs w0 bj av (fl++[(a,k)]) v' (W'.setCell ⟨bj,11,none⟩ v')/\FrW (XJ bj) W (W'.setCell ⟨bj,11,none⟩ v'):=by
 have i:W'.heap[bj]? = W.heap[bj]?:=hg.block bj h.lo.2 (fun e=>h.ap e.symm);have d:Ad (cs++[av,fv]) W' bj:=fun j u z=>(World.cell?_of_block (a:=⟨bj,j,none⟩) i).trans (h.row j u z);have y:Below w0.heap.size W W':=Da hg (fun g e=>(Dd h.own g e).1) h.below.size;have f:v'.ownBlock≠some bj:=by
  rcases hat with e | e
  ·rw [e];exact h.ap
  ·rw [e];intro e;injection e with e;have:=h.lo.2;omega
 have c:(W'.setCell ⟨bj,11,none⟩ v').heap.size=W'.heap.size:=by simp [World.setCell]
 have b:Ad (cs++[av,v']) (W'.setCell ⟨bj,11,none⟩ v') bj:=by
  have:=CF (j:=11) (v:=v') d (by simp [h.len]);rw [List.set_append,if_neg (by rw [h.len];omega),h.len] at this;simpa using this
 have t:CE (W'.setCell ⟨bj,11,none⟩ v') bj 11 v':=b 11 _ (by rw [List.getElem?_append_right (by rw [h.len];omega),h.len];rfl);refine ⟨⟨(h.below.trans y).setCell h.lo.1 _,b,fun j=>?_,?_,f,⟨h.lo.1,?_⟩,h.len⟩,⟨?_,?_,?_,?_,?_,?_⟩⟩
 ·have A:(W'.setCell ⟨bj,11,none⟩ v').frozen? ⟨bj,j,none⟩=W'.frozen? ⟨bj,j,none⟩:=by simp [go_sem]
  rw [A,World.frozen?_of_block (a:=⟨bj,j,none⟩) i];exact h.fz j
 ·rw [Kb,List.length_append]
  exact ho'.kept (row:=some bj) D1 (Or.inr f)
 ·rw [c];exact Nat.lt_of_lt_of_le h.lo.2 hg.size
 ·exact hg.os
 ·exact hg.tape
 ·exact hg.output
 ·rw [c];exact hg.size
 ·intro k hk l
  have s:k≠bj:=fun e=>l (Or.inr (Or.inl e));rw [Bx (Ne.symm s) v'];exact hg.block k hk (fun e=>l (Or.inr (Or.inr ⟨fv,h.c11,e.symm⟩)))
 ·rintro k hk (l | rfl | ⟨v,p,q⟩)
  ·rw [c] at l;have:=hg.size;have:=h.lo.2;omega
  ·exact Or.inr (Or.inl rfl)
  ·rw [t] at p
   injection p with p;subst p;rcases hat with e | e
   ·exact Or.inr (Or.inr ⟨fv,h.c11,by rw [<-e];exact q⟩)
   ·rw [e] at q;injection q with q;omega
theorem F9 (cs:List Value) (w0:World) (bj:Nat) (av:Value) (fl) (fv:Value) (a k:Int) (is:Bool) (bx ba:Nat) (W:World) (h:AV cs w0 bj av fl fv W) (hx:W.cell? ⟨bx,0,none⟩=some (zj (some ⟨bj,0,none⟩))) (ha:W.cell? ⟨ba,0,none⟩=some (zd U a)) (nx:¬ XJ bj W bx) (na:¬ XJ bj W ba) (hl:fl.length<=1000) :
  Calls Tryz.prog 149 #[zd U k,zg is,zj (some ⟨bx,0,none⟩),zj (some ⟨ba,0,none⟩)] W fun e W'=>e=zk (zm #[])/\(∃ fv',AV cs w0 bj av (addF a k fl is) fv' W')/\FrW (XJ bj) W W':=by
 cases is with
 | false=>
  go_enter Tryz.func149,Tryz.ntmps149;go_wp2_with fail;go_end0;exact ⟨rfl,⟨fv,h⟩,FrW.refl _⟩
 | true=>
  obtain ⟨Y,R,H,G,F⟩:=info_parts Tryz.infoFt;obtain ⟨fa,fn,fc,rfl⟩:=AG h.own;have l:Ov W (W.drew.alloc (ze #[zd U a,zd U k] 89)):=(bD W).alloc (Nat.le_refl _) _;have d:=h.over l;have S:=Ad.new [zd U a,zd U k] 89 W.drew;have M:w0.heap.size<=(W.drew.alloc (ze #[zd U a,zd U k] 89)).heap.size:=d.below.size;obtain ⟨v2,B,A,i,f,-,I⟩:=run_append_own_at (P:=Tryz.prog) (w:=W.drew.alloc (ze #[zd U a,zd U k] 89)) w0.heap.size 79 79 89 Y (zh #[zd U 0,zd U 0]) 2 16 Tryz.underlying79 R H G F rfl (by decide) _ _ _ d.own ⟨W.drew.heap.size,0,none⟩ 1 1 [zd U a,zd U k] rfl (fun X u Z=>by rw [Addr.add_lit,Nat.zero_add];exact S X u Z) (by simp [Value.oneCell']) (by unfold maxLen;omega) (by omega) M;obtain ⟨z,t,y,rfl⟩:=AG i;have g:=d.add i f I;have Q:=h.c11;have N:=d.c11;have V:=Ab (bA W (ze #[zd U a,zd U k] 89)) _ _ Q;have d2:=f.cell N (fun hx=>d.ap hx.symm);have f2:B.frozen? ⟨bj,11,none⟩=false:=(World.frozen?_of_block (a:=⟨bj,11,none⟩) (f.block bj d.lo.2 (fun hx=>d.ap hx.symm))).trans (d.fz 11);have C:¬ XJ bj (W.drew.alloc (ze #[zd U a,zd U k] 89)) bx:=fun e=>nx ((An bj).below _ _ l _ e);have E:¬ XJ bj (W.drew.alloc (ze #[zd U a,zd U k] 89)) ba:=fun e=>na ((An bj).below _ _ l _ e);have L:CE W.drew bx 0 (zj (some ⟨bj,0,none⟩))/\CE W.drew ba 0 (zd U a):=⟨hx,ha⟩;have p:CE (W.drew.alloc (ze #[zd U a,zd U k] 89)) bx 0 (zj (some ⟨bj,0,none⟩))/\CE (W.drew.alloc (ze #[zd U a,zd U k] 89)) ba 0 (zd U a):=⟨Ab l _ _ hx,Ab l _ _ ha⟩;have s:CE B bx 0 (zj (some ⟨bj,0,none⟩))/\CE B ba 0 (zd U a):=⟨f.cell p.1 (fun e=>C (Or.inr (Or.inr ⟨_,d.c11,e.symm⟩))),f.cell p.2 (fun e=>E (Or.inr (Or.inr ⟨_,d.c11,e.symm⟩)))⟩;have J:CE (B.setCell ⟨bj,11,none⟩ (O z t y)) bx 0 (zj (some ⟨bj,0,none⟩))/\CE (B.setCell ⟨bj,11,none⟩ (O z t y)) ba 0 (zd U a):=⟨g.2.cell p.1 C,g.2.cell p.2 E⟩;have q:Hx (AV cs w0 bj av (fl++[(a,k)]) (O z t y) (B.setCell ⟨bj,11,none⟩ (O z t y))/\FrW (XJ bj) W (B.setCell ⟨bj,11,none⟩ (O z t y))):=⟨g.1,(FrW.of_below (An bj) l).trans g.2⟩;clear g i f I S M d h nx na C E l R H G F;go_enter Tryz.func149,Tryz.ntmps149;go_wp2_with fail;refine gS (fun T=>CE T bx 0 (zj (some ⟨bj,0,none⟩))/\CE T ba 0 (zd U a)) (L) fun b=>?_;refine kT 0 ?_;refine kT 1 ?_;refine kT 2 ?_;refine kT 3 ?_;refine kT 5 ?_;refine kT 6 ?_;refine kT 7 ?_;refine rdB 4 8 rfl (fun K c=>?_) rfl fun K c=>?_
  ·go_simp
   refine xK c (L) fun b=>?_;refine rdA 8 rfl fun K c=>?_;go_simp;refine xK c (p) fun b=>?_;refine rdA 9 rfl fun K c=>?_;refine Cb rfl _ _ _ rfl _ _ _ _ rfl rfl A ?_;refine xK c (s) fun b=>?_;refine rdA 10 rfl fun K c=>?_;go_simp;refine xK c (s) fun b=>?_;refine rdA 11 rfl fun K c=>?_;go_simp;refine xK c (s) fun b=>?_;refine rdA 12 rfl fun K c=>?_;go_simp;refine xK c (J) fun b=>?_;refine gE ?_;go_end0;exact ⟨rfl,⟨_,q.o.1⟩,q.o.2⟩
  ·go_simp
   refine xK c (p) fun b=>?_;refine rdA 4 rfl fun K c=>?_;go_simp;refine xK c (p) fun b=>?_;refine rdA 9 rfl fun K c=>?_;refine Cb rfl _ _ _ rfl _ _ _ _ rfl rfl A ?_;refine xK c (s) fun b=>?_;refine rdA 10 rfl fun K c=>?_;go_simp;refine xK c (s) fun b=>?_;refine rdA 11 rfl fun K c=>?_;go_simp;refine xK c (s) fun b=>?_;refine rdA 12 rfl fun K c=>?_;go_simp;refine xK c (J) fun b=>?_;refine gE ?_;go_end0;exact ⟨rfl,⟨_,q.o.1⟩,q.o.2⟩
theorem J2 {k:Nat}:∀ {ds:List D},(∀ d∈ds,0 < (AO k d).length)->ds.length<=(ds.flatMap (AO k)).length
 | [],_=>Nat.le_refl _
 | d::ds,h=>by
  have h1:=h d (List.mem_cons_self ..);have h2:=J2 (fun x hx=>h x (List.mem_cons_of_mem _ hx));simp only [List.flatMap_cons,List.length_append,List.length_cons];omega
theorem Q4 (F:FuncId) (cap:List Value) (P:Nat->List Value->World->Prop) (ao:Option Addr) (n c:Nat) (w:World) (hn:n<=100) (hC:∀ (args:Array Value) (w:World),(callFunc F args).run Tryz.prog w=.ok (.enter F args) w)
  (hv:n≠0->∃ b off,ao=some ⟨b,off,none⟩/\∀ i,i < n->∃ (k1 k2:Int) (xa:Option Addr) (xl xc:Nat),(w.cell? ⟨b,off+i*3,none⟩=some (zd U k1)/\w.cell? ⟨b,off+i*3+1,none⟩=some (zd U k2)/\w.cell? ⟨b,off+i*3+2,none⟩=some (O xa xl xc))/\∀ W,Ov w W->Calls Tryz.prog F (zh #[zd U k1,zd U k2,O xa xl xc]::cap).toArray W fun e W'=>∃ (j1 j2:Int) (za:Option Addr) (zl zc:Nat),e=zk (zh #[zd U j1,zd U j2,O za zl zc])/\Off W.heap.size none W' (P i [zd U j1,zd U j2,O za zl zc])/\Ov W W') :
  Calls Tryz.prog 201 #[O ao n c,.func (.func F) #[] cap.toArray] w fun e w'=>∃ a c',e=zk (O a n c')/\Cop w.heap.size 94 3 P n (O a n c') w'/\Ov w w':=by
 obtain ⟨i0,hi,X,T,S⟩:=info_parts Tryz.infoX;have HV:=Aa hv;clear hv;go_enter Tryz.func201,Tryz.ntmps201;go_wp2_with fail;go_loopw [5,10] (fun u i wr=>∃ j:Nat,j<=n/\i=zd U j/\Cop w.heap.size 94 3 P j u wr/\Ov w wr) (fun _ i _=>n - (intOf i).toNat)
 case atStart=>exact ⟨0,Nat.zero_le _,rfl,Cop.nil,Below.refl _ _⟩
 case round=>
  obtain ⟨j,hj,rfl,B,E⟩:=hrel;by_cases hlt:j < n
  ·obtain ⟨b,off,rfl,K⟩:=HV.o (by omega)
   obtain ⟨k1,k2,xa,xl,xc,⟨c0,c1,c2⟩,hF⟩:=K j hlt;obtain ⟨c0,c1,c2⟩:=co3 E c0 c1 c2;obtain ⟨oa,oc,rfl,-⟩:=B.cells (by decide);have s:Ov wr (wr.alloc (ze #[zd U k1,zd U k2,O xa xl xc] 94)):=bA _ _;obtain ⟨V,M⟩:=nm (wr.alloc (ze #[zd U k1,zd U k2,O xa xl xc] 94));have I:Ad [zd U k1,zd U k2,O xa xl xc] V wr.heap.size:=by rw [M];exact AP wr [zd U k1,zd U k2,O xa xl xc] 94
   have H:V.heap.size=wr.heap.size+1:=by rw [M];simp
   rw [<-M] at s;have A:Ov w V:=E.trans (s.mono E.size);have KF:=Aa (hF V A);obtain ⟨d0,d1,d2⟩:=rc3 I;have HI:=Aa (B.over s);have ad:Hx (∀ g,(Value.slice oa j oc).ownBlock=some g->g < wr.heap.size):=fun g Z=>by
    obtain ⟨xs,ho,-⟩:=B;exact (E9 ho Z).2
   have t:=Aa A;have ac:=Aa H;have a0:=Aa E.size;have ae:(j:Int) < (n:Int):=by omega
   clear B E s I A H hF K HV;go_wp2_with fail;rw [<-M];clear M c0 c1 c2;refine KF.o.mono ?_;rintro e G ⟨j1,j2,za,zl,zc,rfl,hO,q⟩;have N:=HI.o.over q;have p:Ov G (G.alloc (ze #[zd U j1,zd U j2,O za zl zc] 94)):=bA _ _;obtain ⟨xs,k,y⟩:=N.over p;have hN:=AP G [zd U j1,zd U j2,O za zl zc] 94;have C:w.heap.size<=(G.alloc (ze #[zd U j1,zd U j2,O za zl zc] 94)).heap.size:=Nat.le_trans (Nat.le_trans t.o.size q.size) p.size;have HN:=Aa hN;have HO:=Aa (hO.over p);have Q:=Aa y;have R:Hx (Ov w (G.alloc (ze #[zd U j1,zd U j2,O za zl zc] 94))):=t.o.trans ((q.trans (p.mono q.size)).mono t.o.size);clear N hO q p hN y d0 d1 d2;go_wp2_with (at_builtin;refine wpList_append_own_at _ rfl _ _ 92 rfl w.heap.size 94 i0 (zh #[zd U 0,zd U 0,O none 0 0]) 3 40 Tryz.underlying92 hi X T S rfl (by decide) _ _ _ rfl k ⟨G.heap.size,0,none⟩ 1 1 [zd U j1,zd U j2,O za zl zc] rfl rfl (fun jj u hu=>by rw [Addr.add_lit,Nat.zero_add];exact HN.o jj u hu) (by simp [Value.oneCell']) (by unfold maxLen;omega) (by omega) C ?_);intro v2 w2 f l _ L;have z:=Cop.add k Q.o rfl HO.o t.o.size (fun g Z=>by have:=ad.o g Z;have:=ac.o;omega) f l (by simpa using L);obtain ⟨am,ak,al,rfl⟩:=AG f;have J:Ov w w2:=R.o.trans (Bz k l C);have d:=Aa (And.intro z J);clear z J k f l L C;go_wp2_with fail;exact ⟨⟨j+1,by omega,by go_num,d.o.1,d.o.2⟩,by simp [intOf];omega⟩
  ·have Y:j=n:=by omega
   subst Y;obtain ⟨oa,oc,rfl,-⟩:=B.cells (by decide);have d:=Aa (And.intro B E);clear B E HV hlt;go_wp2_with fail;go_ret;exact ⟨_,_,rfl,d.o.1,d.o.2⟩
end Go.Proofs.YtfffpjkcfnekaaaGreat.Ex
