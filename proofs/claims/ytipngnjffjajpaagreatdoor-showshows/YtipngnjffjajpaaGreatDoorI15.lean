/- Package show's Same of trees that are the same: true. -/
import Derived.Test.YtipngnjffjajpaaGreatDoorI13
import Derived.Test.YtipngnjffjajpaaGreatDoorI14
set_option linter.unusedVariables false
set_option maxHeartbeats 8000000
set_option maxRecDepth 100000
namespace Go.Proofs.YtipngnjffjajpaaGreatDoor.Tx
open Go.RowKit
open Go.Value renaming int -> A, slice -> O, bool -> zc, agg -> ze, pointer -> zf, tuple -> zh
open Go.IntKind renaming i64 -> J
open Go.Obj renaming cells -> zd
open Go.Ending renaming returned -> zg
theorem LS.fr {α:Type} {s:Nat} {R:List Value->α->Prop} {w:World} {ao:Option Addr} {n c:Nat} {l:List α} (h:LS s R w (O ao n c) l) (hs:0 < s) (hl:l≠[]):∃ b off,ao=some ⟨b,off,none⟩/\Fr0 w ⟨b,off,none⟩:=by
 obtain ⟨b,off,rfl,i⟩:=h.fz hl;obtain ⟨t,f,e,g,r,a,-⟩:=h.at (j:=0) (List.length_pos_iff.2 hl);simp only [Option.some.injEq,Addr.mk.injEq,and_true] at e;obtain ⟨rfl,rfl⟩:=e;obtain ⟨u,q⟩:∃ u,g[0]? = some u:=⟨g[0]'(by omega),List.getElem?_eq_getElem (by omega)⟩;exact ⟨b,off,rfl,i.2,Cbl.of_cell (a 0 u q)⟩
section
variable (w0:World) (m1 m2:Nat)
def Oa (k:Nat):Prop:=∀ (cs ct:List Value) (d e:D) (X:World),SW w0 m1 m2 X->ZE w0 k cs d->ZE w0 k ct e->seK false k d e=true->TC w0 m1 m2 128 #[ze #[.map (some m1),.map (some m2)],.agg cs.toArray,.agg ct.toArray] X
def Ob (ke k:Nat):Prop:=∀ (cs ct:List Value) (d e:D) (X:World),SW w0 m1 m2 X->ZC w0 ke k cs d->ZC w0 ke k ct e->ssK false ke k d e=true->TC w0 m1 m2 130 #[ze #[.map (some m1),.map (some m2)],.agg cs.toArray,.agg ct.toArray] X
variable {w0 m1 m2}
theorem Ik {k:Nat} (hE:Oa w0 m1 m2 k) (l m:List D) (ao bo:Option Addr) (c d:Nat) (X:World) (hX:SW w0 m1 m2 X) (hA:LS 5 (ZE w0 k) w0 (O ao l.length c) l) (hB:LS 5 (ZE w0 k) w0 (O bo m.length d) m) (hs:all2 (seK false k) l m=true):TC w0 m1 m2 152 #[ze #[.map (some m1),.map (some m2)],O ao l.length c,O bo m.length d] X:=by
 refine sEs w0 m1 m2 _ _ X hX fun Y g=>?_;have a:=DS hs;rw [<-a] at hB ⊢;by_cases hl:l=[]
 ·subst hl
  exact Nj w0 m1 m2 _ ao bo c d Y g
 ·have r:m≠[]:=by
   rintro rfl;exact hl (List.length_eq_zero_iff.1 a)
  obtain ⟨b,i,rfl,v⟩:=hA.fr (by decide) hl;obtain ⟨A,f,rfl,q⟩:=hB.fr (by decide) r;exact OY w0 m1 m2 _ l.length b i c A f d Y g (v.over g.ov) (q.over g.ov) (List.length_pos_iff.2 hl) hA.1 fun Z t=>Pu w0 m1 m2 k l m a.symm _ _ c d hA hB (fun j h q y x V u hr n=>hE y x _ _ V u hr n (EV hs j h q)) Z t
theorem Ev {ke k:Nat} (hE:Ob w0 m1 m2 ke k) (l m:List D) (ao bo:Option Addr) (c d:Nat) (X:World) (hX:SW w0 m1 m2 X) (hA:LS 12 (ZC w0 ke k) w0 (O ao l.length c) l) (hB:LS 12 (ZC w0 ke k) w0 (O bo m.length d) m) (hs:all2 (ssK false ke k) l m=true):TC w0 m1 m2 91 #[ze #[.map (some m1),.map (some m2)],O ao l.length c,O bo m.length d] X:=by
 refine sCs w0 m1 m2 _ _ X hX fun Y g=>?_;have a:=DS hs;rw [<-a] at hB ⊢;by_cases hl:l=[]
 ·subst hl
  exact Nh w0 m1 m2 _ ao bo c d Y g
 ·have r:m≠[]:=by
   rintro rfl;exact hl (List.length_eq_zero_iff.1 a)
  obtain ⟨b,i,rfl,v⟩:=hA.fr (by decide) hl;obtain ⟨A,f,rfl,q⟩:=hB.fr (by decide) r;exact OX w0 m1 m2 _ l.length b i c A f d Y g (v.over g.ov) (q.over g.ov) (List.length_pos_iff.2 hl) hA.1 fun Z t=>Pw w0 m1 m2 ke k l m a.symm _ _ c d hA hB (fun j h q y x V u hr n=>hE y x _ _ V u hr n (EV hs j h q)) Z t
theorem Fv:∀ k,Oa w0 m1 m2 k
 | 0=>fun cs ct d e X hX h1 _ _=>h1.elim
 | k+1=>fun cs ct d e X hX h1 h2 hq=>by
  obtain ⟨kd,a,n,x,ao,c,ds,rfl,rfl,-,hA⟩:=h1;obtain ⟨kd9,a9,n9,x9,bo,c9,es,rfl,rfl,-,hB⟩:=h2;simp only [seK,gEe,Bool.and_eq_true,decide_eq_true_eq] at hq;obtain ⟨⟨⟨⟨rfl,rfl⟩,hx⟩,-⟩,hs⟩:=hq;obtain rfl:x=x9:=by have:=Aj hx;rw [this]
  exact sE w0 m1 m2 kd a a9 n x ao _ c bo _ c9 X hX fun Y b=>Ik (Fv k) ds es ao bo c c9 Y b hA hB hs
theorem Fw (ke:Nat):∀ k,Ob w0 m1 m2 ke k
 | 0=>fun cs ct d e X hX h1 _ _=>h1.elim
 | k+1=>fun cs ct d e X hX h1 h2 hq=>by
  obtain ⟨kd,a,x,y,e0,e1,e2,e3,q,q1,q2,e,aA,cA,args,aT,cT,th,aE,cE,el,rfl,rfl,-,-,he,hA,hT,hE⟩:=h1;obtain ⟨kd9,a9,x9,y9,f0,f1,f2,f3,t,t1,t2,e9,bA9,bcA,args9,bT,bcT,th9,bE,bcE,el9,rfl,rfl,-,-,he9,hA9,hT9,hE9⟩:=h2;simp only [ssK,gSs,Bool.and_eq_true,decide_eq_true_eq] at hq;obtain ⟨⟨⟨⟨⟨⟨⟨rfl,-⟩,hx⟩,hy⟩,qe⟩,qa⟩,qt⟩,ql⟩:=hq;obtain rfl:x=x9:=by have:=Aj hx;rw [this]
  obtain rfl:y=y9:=by have:=Aj hy;rw [this]
  exact sC w0 m1 m2 kd a a9 x y e0 e1 e2 e3 q q1 q2 aA _ cA aT _ cT aE _ cE f0 f1 f2 f3 t t1 t2 bA9 _ bcA bT _ bcT bE _ bcE X hX (fun Y b=>Fv ke _ _ e e9 Y b he he9 qe) (fun Y b=>Ik (Fv ke) args args9 aA bA9 cA bcA Y b hA hA9 qa) (fun Y b=>Ev (Fw ke k) th th9 aT bT cT bcT Y b hT hT9 qt) fun Y b=>Ev (Fw ke k) el el9 aE bE cE bcE Y b hE hE9 ql
theorem FQ (ns ms:List ByteArray) (ao bo:Option Addr) (c d:Nat) (X:World) (hX:SW w0 m1 m2 X) (hA:LS 1 ZN w0 (O ao ns.length c) ns) (hB:LS 1 ZN w0 (O bo ms.length d) ms) (hs:ns=ms):TC w0 m1 m2 127 #[O ao ns.length c,O bo ms.length d] X:=by
 subst hs;exact O0 hX (O8 ns ao bo c d X (BB hX.ov hA) (BB hX.ov hB))
theorem Nq (cs ct:List Value) (d e:D) (X:World) (hX:SW w0 m1 m2 X) (h1:ZP w0 cs d) (h2:ZP w0 ct e) (hq:spD false d e=true):TC w0 m1 m2 126 #[.agg cs.toArray,.agg ct.toArray] X:=by
 obtain ⟨a,o,wr,j,i,q,rfl,rfl,-,v⟩:=h1;obtain ⟨x,n,l,c,b,f,rfl,rfl,-,g⟩:=h2;simp only [spD,gPp,Bool.and_eq_true,decide_eq_true_eq] at hq;obtain ⟨⟨⟨-,r⟩,rfl⟩,t⟩:=hq;obtain rfl:o=n:=by have:=Aj r;rw [this]
 exact sP w0 m1 m2 a x o wr j _ i c _ b X hX fun Y u=>FQ q f j c i b Y u v g (LA t)
theorem Nr (ke kc:Nat) (cs ct:List Value) (d e:D) (X:World) (hX:SW w0 m1 m2 X) (h1:ZD w0 ke kc cs d) (h2:ZD w0 ke kc ct e) (hq:sdK false ke kc d e=true):TC w0 m1 m2 90 #[ze #[.map (some m1),.map (some m2)],.agg cs.toArray,.agg ct.toArray] X:=by
 obtain ⟨kd,a,x,y,gv,P,M,lb,O,L,ps,Q,N,u,e0,e1,e2,e3,q,q1,q2,r,rfl,rfl,-,-,hL,hP,hB,hr⟩:=h1;obtain ⟨ag,a9,S,R,ao,A,l,E,v,i,C,B,n,g,f0,f1,f2,f3,t,U,T,W,rfl,rfl,-,-,I,H,J,F⟩:=h2;simp only [sdK,gDd,Bool.and_eq_true,decide_eq_true_eq] at hq;obtain ⟨⟨⟨⟨⟨⟨⟨⟨rfl,-⟩,hx⟩,hy⟩,rfl⟩,K⟩,qp⟩,qb⟩,Z⟩:=hq;obtain rfl:x=S:=by have:=Aj hx;rw [this]
 obtain rfl:y=R:=by have:=Aj hy;rw [this]
 have c:=DS K;have b:=I;rw [<-c] at b;exact sD w0 m1 m2 kd a a9 x y gv P _ M O _ L Q _ N e0 e1 e2 e3 q q1 q2 A _ l v _ i B _ n f0 f1 f2 f3 t U T X hX (fun Y f=>by rw [<-c];exact Pt w0 m1 m2 lb E c.symm P A M l hL b (fun j h h2 cs ct V hV hr G=>Nq cs ct _ _ V hV hr G (EV K j h h2)) Y f) (fun Y f=>FQ ps C O v L i Y f hP H (LA qp)) (fun Y f=>Ev (Fw ke kc) u g Q B N n Y f hB J qb) fun Y f=>Fv ke _ _ r W Y f hr F Z
end
theorem Oi (ke kc:Nat) (ds l ds' l':List D) (v v':Value) (w:World) (h1:ZT w ke kc v ds l) (h2:ZT w ke kc v' ds' l') (hq:stK false ke kc ds l ds' l'=true):Ro 22 #[v,v'] w (zc true):=by
 obtain ⟨a,c,B,y,rfl,u,t⟩:=h1;obtain ⟨b,d,A,x,rfl,i,g⟩:=h2;simp only [stK,Bool.and_eq_true] at hq;obtain ⟨C,G⟩:=hq;have f:=DS C;refine JK a _ c B _ y b _ d A _ x w true fun W F E X hW H=>?_;replace u:=FY hW u;replace t:=Ao hW t;replace i:=FY hW i;replace g:=Ao hW g;have n:=i;rw [<-f] at n;refine (sT W F E a _ c B _ y b _ d A _ x X H (fun Y r=>?_) fun Y r=>Ev (Fw ke kc) l l' B A y x Y r t g G).mono fun e L h=>⟨h.1,h.2.1.ov⟩;rw [<-f];exact Pv W F E ke kc ds ds' f.symm a b c d u n (fun j h h2 K J V I hr q=>Nr ke kc K J _ _ V I hr q (EV C j h h2)) Y r
abbrev Sg:=Nat × Bool
def Cv:List UInt8->Bool
 | []=>false
 | c::_=>isD c
section
variable (ts:List Tok) (en:Nat)
def tx (s:Sg) (k:Nat):ByteArray:=if s.2=true then noS else (Au ts (s.1+k)).text
def tl (s:Sg) (k:Nat):List UInt8:=(tx ts s k).data.toList
def Af (x:List UInt8) (s:Sg):Sg:=if s.2=true then s else if tl ts s 0=x then (s.1+1,false) else (s.1,true)
def B8 (s:Sg):Sg:=(s.1,true)
def Ay (s:Sg):ByteArray × Sg:=if nmS (tl ts s 0)=true then (tx ts s 0,(s.1+1,s.2)) else (noS,B8 s)
def DH (s:Sg):Int × Sg:=if Cv (tl ts s 0)=true then ((Dl (tl ts s 0):Int),(s.1+1,s.2)) else (0,B8 s)
def AQ:Nat->Nat->Sg->D × Sg
 | 0,_,s=>(noE,B8 s)
 | f+1,deep,s=>
  if tl ts s 0=[40]/\deep < 60 then
   (fun p1:D × Sg=>(fun p2:D × Sg=>(eD (Bz (tl ts p1.2 0)) (AA ts en s.1) 0 noS [p1.1,p2.1],Af ts [41] p2.2)) (AQ f (deep+1) (if Bz (tl ts p1.2 0)=0 then B8 p1.2 else Af ts (tl ts p1.2 0) p1.2))) (AQ f (deep+1) (Af ts [40] s))
  else if tl ts s 0=[45] then
   (fun s1:Sg=>(fun p:Int × Sg=>(eD 1 (AA ts en s.1) (-p.1) noS [],p.2)) (DH ts (if tl ts s1 0=[48] then B8 s1 else s1))) (Af ts [45] s)
  else if Cv (tl ts s 0)=true then (fun p:Int × Sg=>(eD 1 (AA ts en s.1) p.1 noS [],p.2)) (DH ts s)
  else (fun p:ByteArray × Sg=>(eD 2 (AA ts en s.1) 0 p.1 [],p.2)) (Ay ts s)
def rX (s:Sg):D × Sg:=AQ ts en 61 0 s
def Bl:Nat->List D->Sg->List D × Sg
 | 0,acc,s=>(acc,s)
 | g+1,acc,s=>if s.2=false/\tl ts s 0≠[41] then
   (fun p:D × Sg=>Bl g (acc++[p.1]) (if tl ts p.2 0≠[44]/\tl ts p.2 0≠[41] then B8 p.2 else p.2)) (rX ts en (if 0 < acc.length then Af ts [44] s else s))
  else (acc,s)
def C7 (s:Sg):List D × Sg:=(fun p:List D × Sg=>(p.1,Af ts [41] p.2)) (Bl ts en (ts.length+2) [] (Af ts [40] s))
def Ch:Nat->List ByteArray->Sg->List ByteArray × Sg
 | 0,acc,s=>(acc,s)
 | g+1,acc,s=>if tl ts s 0=[44] then (fun p:ByteArray × Sg=>Ch g (acc++[p.1]) p.2) (Ay ts (Af ts [44] s)) else (acc,s)
def CE (s:Sg):List ByteArray × Sg:=if tl ts s 0≠[59]/\tl ts s 0≠[125] then (fun p:ByteArray × Sg=>Ch ts (ts.length+1) [p.1] p.2) (Ay ts s) else ([],s)
def Ez (s:Sg):D × Sg:=(fun p:ByteArray × Sg=>(fun q:List ByteArray × Sg=>(C1 (AA ts en s.1) p.1 (decide (tl ts p.2 0=[33])) q.1,q.2)) (CE ts (if tl ts p.2 0=[33] then Af ts [33] p.2 else Af ts [58] p.2))) (Ay ts s)
def Cu:Nat->Bool->List D->Sg->List D × Sg
 | 0,_,acc,s=>(acc,s)
 | g+1,more,acc,s=>if more=true/\s.2=false then (fun p:D × Sg=>Cu g (decide (tl ts p.2 0=[59])) (acc++[p.1]) (if tl ts p.2 0=[59] then Af ts [59] p.2 else p.2)) (Ez ts en s) else (acc,s)
def C6 (s:Sg):List D × Sg:=(fun s1:Sg=>(fun p:List D × Sg=>(p.1,Af ts [125] p.2)) (Cu ts en (ts.length+2) (decide (tl ts s1 0≠[125])) [] s1)) (Af ts [123] s)
def Ci (s:Sg):D × Sg:=
 (fun p:ByteArray × Sg=>(fun s2:Sg=>
  if nmS (tl ts s2 0)=true/\tl ts s2 1=[40] then (fun q:ByteArray × Sg=>(fun l:List D × Sg=>(stD 2 (AA ts en s.1) p.1 q.1 noE l.1 [] [],l.2)) (C7 ts en q.2)) (Ay ts s2)
  else (fun e:D × Sg=>(stD 1 (AA ts en s.1) p.1 noS e.1 [] [] [],e.2)) (rX ts en s2)) (Af ts [61] p.2)) (Ay ts s)
def Bf (blk:Sg->List D × Sg) (s:Sg):D × Sg:=
 if tl ts s 0=[103,101,116] then (fun a:ByteArray × Sg=>(fun b:ByteArray × Sg=>(stD 3 (AA ts en s.1) a.1 b.1 noE [] [] [],Af ts [59] b.2)) (Ay ts a.2)) (Ay ts (Af ts [103,101,116] s))
 else if tl ts s 0=[112,117,116] then (fun b:ByteArray × Sg=>(fun e:D × Sg=>(stD 4 (AA ts en s.1) noS b.1 e.1 [] [] [],Af ts [59] e.2)) (rX ts en b.2)) (Ay ts (Af ts [112,117,116] s))
 else if tl ts s 0=[114,101,118,101,97,108] then (fun a:ByteArray × Sg=>(fun e:D × Sg=>(stD 5 (AA ts en s.1) a.1 noS e.1 [] [] [],Af ts [59] e.2)) (rX ts en a.2)) (Ay ts (Af ts [114,101,118,101,97,108] s))
 else if tl ts s 0=[116,114,117,115,116] then (fun a:ByteArray × Sg=>(fun e:D × Sg=>(stD 6 (AA ts en s.1) a.1 noS e.1 [] [] [],Af ts [59] e.2)) (rX ts en a.2)) (Ay ts (Af ts [116,114,117,115,116] s))
 else if tl ts s 0=[105,102] then (fun e:D × Sg=>(fun th:List D × Sg=>if tl ts th.2 0=[101,108,115,101] then (fun el:List D × Sg=>(stD 7 (AA ts en s.1) noS noS e.1 [] th.1 el.1,el.2)) (blk (Af ts [101,108,115,101] th.2)) else (stD 7 (AA ts en s.1) noS noS e.1 [] th.1 [],th.2)) (blk e.2)) (rX ts en (Af ts [105,102] s))
 else if tl ts s 0=[119,104,105,108,101] then (fun e:D × Sg=>(fun th:List D × Sg=>(stD 8 (AA ts en s.1) noS noS e.1 [] th.1 [],th.2)) (blk e.2)) (rX ts en (Af ts [119,104,105,108,101] s))
 else (fun p:D × Sg=>(p.1,Af ts [59] p.2)) (Ci ts en s)
def AU (ss:Sg->List D × Sg) (s:Sg):List D × Sg:=(fun p:List D × Sg=>(p.1,Af ts [125] p.2)) (ss (Af ts [123] s))
def AC:Nat->List UInt8->List D->Sg->List D × Sg
 | 0,_,acc,s=>(acc,s)
 | 1,_,acc,s=>(acc,s)
 | f+2,x,acc,s=>if s.2=false/\tl ts s 0≠x then (fun p:D × Sg=>AC (f+1) x (acc++[p.1]) p.2) (Bf ts en (AU ts (fun s=>AC f [125] [] s)) s) else (acc,s)
def Ct:Nat->Sg->D × Sg
 | 0,s=>(noE,B8 s)
 | f+1,s=>Bf ts en (AU ts (fun s=>AC ts en f [125] [] s)) s
def Cb:Nat->List ByteArray->Sg->List ByteArray × Sg
 | 0,acc,s=>(acc,s)
 | g+1,acc,s=>if s.2=false/\tl ts s 0≠[41] then (fun p:ByteArray × Sg=>Cb g (acc++[p.1]) p.2) (Ay ts (if 0 < acc.length then Af ts [44] s else s)) else (acc,s)
def Fj (at_:Int) (name:ByteArray) (s:Sg):D × Sg:=
 (fun ps:List ByteArray × Sg=>(fun bd:List D × Sg=>(fun r:D × Sg=>(deD 7 at_ name noS false [] ps.1 bd.1 r.1,Af ts [125] (Af ts [59] r.2)))
  (rX ts en (Af ts [114,101,116,117,114,110] bd.2)))
  (AC ts en (2*ts.length+3) [114,101,116,117,114,110] [] (Af ts [123] (Af ts [41] ps.2))))
  (Cb ts (ts.length+2) [] (Af ts [40] s))
def B0 (kd at_:Int) (name oth:ByteArray) (gv:Bool) (s:Sg):D × Sg:=
 if gv=true then (fun l:List D × Sg=>(deD kd at_ name oth true l.1 [] [] noE,Af ts [59] l.2)) (C6 ts en s) else (deD kd at_ name oth false [] [] [] noE,Af ts [59] s)
def Dt (s:Sg):D × Sg:=
 (fun a:ByteArray × Sg=>
  if Ba (tl ts s 0)=7 then Fj ts en (AA ts en s.1) a.1 a.2
  else if Ba (tl ts s 0)=2 then (fun b:ByteArray × Sg=>B0 ts en 2 (AA ts en s.1) a.1 b.1 false b.2) (Ay ts a.2)
  else B0 ts en (Ba (tl ts s 0)) (AA ts en s.1) a.1 noS (decide (Ba (tl ts s 0)=4) || decide (Ba (tl ts s 0)=5) || (decide (Ba (tl ts s 0)=6) && decide (tl ts a.2 0=[123]))) a.2) (Ay ts (Af ts (tl ts s 0) s))
def Cd:Nat->List D->Sg->List D × Sg
 | 0,acc,s=>(acc,s)
 | g+1,acc,s=>if s.2=false/\Ba (tl ts s 0)≠0 then (fun p:D × Sg=>Cd g (acc++[p.1]) p.2) (Dt ts en s) else (acc,s)
def JL:(List D × List D) × Sg:=(fun ds:List D × Sg=>(fun m:List D × Sg=>((ds.1,m.1),m.2)) (AU ts (AC ts en (2*ts.length+3) [125] []) (Af ts [109,97,105,110] ds.2))) (Cd ts en (ts.length+2) [] (0,false))
end
def Sim {α:Type} (r:Res α) (s:α × Sg):Prop:=match r with
 | .inl (a,n)=>s=(a,(n,false))
 | .inr m=>s.2=(m,true)
section
variable {α β:Type}
theorem Sim.bind {r:Res α} {s:α × Sg} {f:α->Nat->Res β} {g:α × Sg->β × Sg} (h:Sim r s) (hf:∀ a n,r=.inl (a,n)->Sim (f a n) (g (a,(n,false)))) (hg:∀ a m,(g (a,(m,true))).2=(m,true)):Sim (AH r f) (g s):=by
 rcases r with ⟨a,n⟩ | m
 ·have e:s=(a,(n,false)):=h
  rw [e];exact hf a n rfl
 ·obtain ⟨a,q⟩:=s
  have e:q=(m,true):=h;subst e;exact hg a m
def D8 (ts:List Tok) (x:List UInt8) (r:Res α) (s:α × Sg):Prop:=match r with
 | .inl (a,n)=>(isT ts n x=true->s=(a,(n,false)))/\(isT ts n x=false->s.2=(n,true)\/s.2=(n,false))
 | .inr m=>s.2=(m,true)
end
section
variable (ts:List Tok) (en:Nat)
theorem Es (m k:Nat):tl ts (m,true) k=[]:=rfl
theorem OW (n k:Nat):tl ts (n,false) k=(Au ts (n+k)).text.data.toList:=rfl
theorem Ge (n:Nat):tl ts (n,false) 0=(Au ts n).text.data.toList:=rfl
theorem AR (n:Nat) (x:List UInt8):(tl ts (n,false) 0=x) ↔ isT ts n x=true:=by
 rw [OW];unfold isT;simp
theorem Lx (n:Nat) (x:List UInt8):(tl ts (n,false) 1=x) ↔ isT ts (n+1) x=true:=by
 rw [OW];unfold isT;simp
theorem BA (x:List UInt8) (m:Nat):Af ts x (m,true)=(m,true):=rfl
theorem Bi (x:List UInt8) (n:Nat):Af ts x (n,false)=if isT ts n x=true then (n+1,false) else (n,true):=by
 unfold Af;rw [if_neg (by simp)];by_cases h:isT ts n x=true
 ·rw [if_pos h,if_pos ((AR ts n x).2 h)]
 ·rw [if_neg h,if_neg (fun e=>h ((AR ts n x).1 e))]
theorem EH:nmS []=false:=by decide
theorem FX (m:Nat):Ay ts (m,true)=(noS,(m,true)):=by
 unfold Ay;rw [Es,EH];rfl
theorem Jl:∀ (f deep m:Nat),(AQ ts en f deep (m,true)).2=(m,true)
 | 0,deep,m=>rfl
 | f+1,deep,m=>by
  unfold AQ;rw [Es,if_neg (by simp),if_neg (by simp),if_neg (by simp [Cv]),FX]
theorem x_f (m:Nat):(rX ts en (m,true)).2=(m,true):=Jl ts en 61 0 m
theorem IK (g:Nat) (acc:List D) (m:Nat):Bl ts en g acc (m,true)=(acc,(m,true)):=by
 cases g with
 | zero=>rfl
 | succ g=>unfold Bl;rw [if_neg (by simp)]
theorem G3 (g:Nat) (acc:List ByteArray) (m:Nat):Ch ts g acc (m,true)=(acc,(m,true)):=by
 cases g with
 | zero=>rfl
 | succ g=>unfold Ch;rw [Es,if_neg (by simp)]
theorem I8 (m:Nat):(CE ts (m,true)).2=(m,true):=by
 unfold CE;rw [Es,if_pos (by simp),FX];dsimp only;rw [G3]
theorem G6 (g:Nat) (mo:Bool) (acc:List D) (m:Nat):Cu ts en g mo acc (m,true)=(acc,(m,true)):=by
 cases g with
 | zero=>rfl
 | succ g=>unfold Cu;rw [if_neg (by simp)]
theorem ND (m:Nat):(C6 ts en (m,true)).2=(m,true):=by
 unfold C6;rw [BA];dsimp only;rw [G6];rfl
theorem CB (g:Nat) (x:List UInt8) (acc:List D) (m:Nat):AC ts en g x acc (m,true)=(acc,(m,true)):=by
 match g with
 | 0=>rfl
 | 1=>rfl
 | g+2=>unfold AC;rw [if_neg (by simp)]
theorem JZ {ss:Sg->List D × Sg} (h:∀ m,(ss (m,true)).2=(m,true)) (m:Nat):(AU ts ss (m,true)).2=(m,true):=by
 unfold AU;rw [BA];dsimp only;rw [h];rfl
theorem GY (g:Nat) (acc:List ByteArray) (m:Nat):Cb ts g acc (m,true)=(acc,(m,true)):=by
 cases g with
 | zero=>rfl
 | succ g=>unfold Cb;rw [if_neg (by simp)]
theorem OA (a:Int) (x:ByteArray) (m:Nat):(Fj ts en a x (m,true)).2=(m,true):=by
 unfold Fj;rw [BA,GY];dsimp only;rw [BA,BA,CB];dsimp only;rw [BA,x_f];rfl
theorem Hc (kd a:Int) (x y:ByteArray) (gv:Bool) (m:Nat):(B0 ts en kd a x y gv (m,true)).2=(m,true):=by
 unfold B0;split
 ·dsimp only
  rw [ND];rfl
 ·rfl
theorem Sim.take {β:Type} {x:List UInt8} {n:Nat} {F:Unit->Nat->Res β} {G:Sg->β × Sg} (hf:isT ts n x=true->Sim (F () (n+1)) (G (n+1,false))) (hg:∀ m,(G (m,true)).2=(m,true)):Sim (AH (Bs ts x n) F) (G (Af ts x (n,false))):=by
 rw [Bi];unfold Bs;by_cases h:isT ts n x=true
 ·rw [if_pos h,if_pos h];exact hf h
 ·rw [if_neg h,if_neg h];exact hg n
theorem D8.take {α β:Type} {x:List UInt8} {r:Res α} {s:α × Sg} {F:α->Nat->Res β} {G:α->Sg->β × Sg} (h:D8 ts x r s) (hf:∀ a n,r=.inl (a,n)->Sim (F a (n+1)) (G a (n+1,false))) (hg:∀ a m,(G a (m,true)).2=(m,true)):Sim (AH r fun a n1=>AH (Bs ts x n1) fun _ n2=>F a n2) (G s.1 (Af ts x s.2)):=by
 rcases r with ⟨a,n⟩ | m
 ·rw [Bc]
  unfold Bs;by_cases hx:isT ts n x=true
  ·have e:s=(a,(n,false)):=h.1 hx
   rw [e,if_pos hx,Bi,if_pos hx];exact hf a n rfl
  ·have b:isT ts n x=false:=by simpa using hx
   rcases h.2 b with e | e
   ·rw [e,if_neg hx,BA]
    exact hg _ n
   ·rw [e,if_neg hx,Bi,if_neg hx]
    exact hg _ n
 ·have e:s.2=(m,true):=h
  rw [e,BA];exact hg _ m
structure OQ:Prop where
 nm:∀ n,nmS (Au ts n).text.data.toList=Bo (Au ts n)
 nu:∀ n,Cv (Au ts n).text.data.toList=decide ((Au ts n).kind=2)

theorem BI (hT:OQ ts) (n:Nat):Sim (BT ts n) (Ay ts (n,false)):=by
 unfold BT Ay;rw [Ge,hT.nm];split
 ·rfl
 ·rfl
theorem EG (hT:OQ ts) {n:Nat} {x:List UInt8} (h:isT ts n x=true) (hx:nmS x=false):Bo (Au ts n)=false:=by
 rw [<-hT.nm,show (Au ts n).text.data.toList=x from (AR ts n x).2 h,hx]
theorem JR (hT:OQ ts) {n:Nat} {x:List UInt8} (h:isT ts n x=true) (hx:Cv x=false):¬ (Au ts n).kind=2:=by
 have:=hT.nu n;rw [show (Au ts n).text.data.toList=x from (AR ts n x).2 h,hx] at this;simpa using this.symm
theorem Ha {n:Nat} {x y:List UInt8} (h:isT ts n x=true) (hxy:x≠y):isT ts n y=false:=by
 unfold isT at *;have:(Au ts n).text.data.toList=x:=by simpa using h
 rw [this];simpa using hxy
theorem L3 (hT:OQ ts) (n:Nat):DH ts (n,false)=if (Au ts n).kind=2 then ((Dl (Au ts n).text.data.toList:Int),(n+1,false)) else (0,(n,true)):=by
 unfold DH;rw [Ge,hT.nu];by_cases h:(Au ts n).kind=2
 ·rw [if_pos h,if_pos (by simpa using h)]
 ·rw [if_neg h,if_neg (by simpa using h)];rfl
theorem LK (hT:OQ ts):∀ (f deep n:Nat),61<=f+deep->deep<=60->Sim (pE ts en f deep n) (AQ ts en f deep (n,false))
 | 0,deep,n,h1,h2=>absurd h1 (by omega)
 | f+1,deep,n,h1,h2=>by
  unfold pE AQ;by_cases h40:isT ts n [40]=true/\deep < 60
  ·have e:tl ts (n,false) 0=[40]/\deep < 60:=⟨(AR ts n _).2 h40.1,h40.2⟩
   rw [if_pos e,if_neg (JR ts hT h40.1 rfl),if_neg (by rw [Ha ts h40.1 (by decide)];simp),if_neg (by rw [EG ts hT h40.1 (by decide)];simp),if_pos ⟨h40.2,h40.1⟩,Bi,if_pos h40.1];have ha:=LK hT f (deep+1) (n+1) (by omega) (by omega);revert ha;generalize pE ts en f (deep+1) (n+1)=r;generalize AQ ts en f (deep+1) (n+1,false)=p1;intro ha;rcases r with ⟨a,n1⟩ | m
   ·have e1:p1=(a,(n1,false)):=ha
    subst e1;dsimp only;rw [Ge];by_cases hk:Bz (Au ts n1).text.data.toList=0
    ·rw [if_pos hk,if_pos hk]
     show (Af ts [41] (AQ ts en f (deep+1) (n1,true)).2)=(n1,true);rw [Jl];rfl
    ·rw [if_neg hk,if_neg hk,Bi,if_pos (by unfold isT;simp)]
     have hb:=LK hT f (deep+1) (n1+1) (by omega) (by omega);revert hb;generalize pE ts en f (deep+1) (n1+1)=r;generalize AQ ts en f (deep+1) (n1+1,false)=p2;intro hb;rcases r with ⟨b,n2⟩ | m
     ·have e2:p2=(b,(n2,false)):=hb
      subst e2;dsimp only;rw [Bi];by_cases h41:isT ts n2 [41]=true
      ·rw [if_pos h41,if_pos h41];rfl
      ·rw [if_neg h41,if_neg h41];rfl
     ·have e2:p2.2=(m,true):=hb
      show Af ts [41] p2.2=(m,true);rw [e2];rfl
   ·have e1:p1.2=(m,true):=ha
    dsimp only;rw [e1,Es,if_pos (by decide)];show Af ts [41] (AQ ts en f (deep+1) (m,true)).2=(m,true);rw [Jl];rfl
  ·have e40:¬ (tl ts (n,false) 0=[40]/\deep < 60):=fun e=>h40 ⟨(AR ts n _).1 e.1,e.2⟩
   rw [if_neg e40];by_cases h45:isT ts n [45]=true
   ·rw [if_pos ((AR ts n _).2 h45),if_neg (JR ts hT h45 rfl),if_pos h45,Bi,if_pos h45]
    dsimp only;by_cases h48:isT ts (n+1) [48]=true
    ·rw [if_pos h48,if_pos ((AR ts _ _).2 h48)]
     rfl
    ·rw [if_neg h48,if_neg (fun e=>h48 ((AR ts _ _).1 e)),L3 ts hT]
     by_cases hn:(Au ts (n+1)).kind=2
     ·rw [if_pos hn,if_pos hn];rfl
     ·rw [if_neg hn,if_neg hn];rfl
   ·have e45:¬ tl ts (n,false) 0=[45]:=fun e=>h45 ((AR ts n _).1 e)
    rw [if_neg e45,Ge,hT.nu,L3 ts hT];by_cases hn:(Au ts n).kind=2
    ·rw [if_pos hn,if_pos (decide_eq_true hn),if_pos hn];rfl
    ·rw [if_neg hn,if_neg h45,if_neg (show ¬ decide ((Au ts n).kind=2)=true by simpa using hn)]
     unfold Ay;rw [Ge,hT.nm];by_cases hnm:Bo (Au ts n)=true
     ·rw [if_pos hnm,if_pos hnm];rfl
     ·rw [if_neg hnm,if_neg hnm,if_neg (show ¬ (deep < 60/\isT ts n [40]=true) from fun e=>h40 ⟨e.2,e.1⟩)];rfl
theorem Eb (hT:OQ ts) (n:Nat):Sim (pX ts en n) (rX ts en (n,false)):=LK ts en hT 61 0 n (by omega) (by omega)
theorem FM {α:Type} {one:Nat->Res α} {rOne:Sg->α × Sg} {L:Nat->List α->Sg->List α × Sg} (h1:∀ n,Sim (one n) (rOne (n,false))) (hm:∀ n a n1,one n=.inl (a,n1)->n<=n1)
  (Lf:∀ g acc m,L g acc (m,true)=(acc,(m,true)))
  (Lend:∀ g acc n,isT ts n [41]=true->L (g+1) acc (n,false)=(acc,(n,false)))
  (Lgo:∀ g acc n n0,(acc=[]/\n0=n/\isT ts n0 [41]=false\/acc≠[]/\isT ts n0 [44]=true/\n=n0+1)->∃ fx:Sg->Sg,(∀ m,fx (m,true)=(m,true))/\(∀ m,isT ts m [44]=true\/isT ts m [41]=true->fx (m,false)=(m,false))/\(∀ m,isT ts m [44]=false->isT ts m [41]=false->(∀ g' acc',acc'≠[]->(L (g' + 1) acc' (fx (m,false))).2=(m,true)))/\L (g+1) acc (n0,false)=L g (acc++[(rOne (n,false)).1]) (fx (rOne (n,false)).2)) :
  ∀ (f g:Nat) (acc:List α) (n n0:Nat),(acc=[]/\n0=n/\isT ts n0 [41]=false\/acc≠[]/\isT ts n0 [44]=true/\n=n0+1)->ts.length - n < f->f+1<=g->D8 ts [41] (BU ts [44] one f true acc n) (L g acc (n0,false))
 | 0,g,acc,n,n0,h0,hf,hg=>absurd hf (by omega)
 | f+1,g,acc,n,n0,h0,hf,hg=>by
  obtain ⟨g,rfl⟩:∃ q,g=q+1:=⟨g - 1,by omega⟩;obtain ⟨fx,x1,x2,x3,x4⟩:=Lgo g acc n n0 h0;rw [x4];unfold BU;rw [if_pos rfl];have ho:=h1 n;have hmn:=hm n;revert ho hmn;generalize one n=r;generalize rOne (n,false)=p;intro ho hmn;rcases r with ⟨a,n1⟩ | m
  ·have e:p=(a,(n1,false)):=ho
   subst e;have hn1:=hmn a n1 rfl;rw [Bc];dsimp only;by_cases hc:isT ts n1 [44]=true
   ·rw [if_pos hc,x2 n1 (Or.inl hc)]
    have hlt:n1 < ts.length:=F0 hc (by decide);exact FM h1 hm Lf Lend Lgo f g (acc++[a]) (n1+1) n1 (Or.inr ⟨by simp,hc,rfl⟩) (by omega) (by omega)
   ·have hc':isT ts n1 [44]=false:=by simpa using hc
    rw [if_neg hc];obtain ⟨g,rfl⟩:∃ q,g=q+1:=⟨g - 1,by omega⟩;refine ⟨fun b=>?_,fun b=>?_⟩
    ·rw [x2 n1 (Or.inr b),Lend _ _ _ b]
    ·exact Or.inl (x3 n1 hc' b g _ (by simp))
  ·have e:p.2=(m,true):=ho
   rw [e,x1,Lf];rfl
theorem B7 {n:Nat} {x:List UInt8} (h:¬ isT ts n x=true):isT ts n x=false:=by simpa using h
theorem I5 (hT:OQ ts) (f g n:Nat) (hn:isT ts n [41]=false) (hf:ts.length - n < f) (hg:f+1<=g):D8 ts [41] (BU ts [44] (pX ts en) f true [] n) (Bl ts en g [] (n,false)):=by
 refine FM ts (L:=Bl ts en) (Eb ts en hT) (fun n a u h=>by have:=(FT _ _ _ _ _ h).2;omega) (IK ts en) (fun g i n h=>?_) (fun g i n v l=>?_) f g [] n n (Or.inl ⟨rfl,rfl,hn⟩) hf hg
 ·rw [Bl,if_neg (fun e=>e.2 ((AR ts n _).2 h))]
 ·refine ⟨fun s=>if tl ts s 0≠[44]/\tl ts s 0≠[41] then B8 s else s,fun m=>?_,fun m h=>?_,fun m j c q b _=>?_,?_⟩
  ·dsimp only;rw [Es,if_pos (by simp)];rfl
  ·dsimp only
   rw [if_neg];rintro ⟨t,r⟩;rcases h with h | h
   ·exact t ((AR ts m _).2 h)
   ·exact r ((AR ts m _).2 h)
  ·dsimp only
   rw [if_pos ⟨fun e=>absurd ((AR ts m _).1 e) (by rw [j];simp),fun e=>absurd ((AR ts m _).1 e) (by rw [c];simp)⟩];show (Bl ts en (q + 1) b (m,true)).2=_;rw [IK]
  ·rcases l with ⟨rfl,rfl,h⟩ | ⟨h,c,rfl⟩
   ·rw [Bl,if_pos ⟨rfl,fun e=>by rw [(AR ts _ _).1 e] at h;cases h⟩,if_neg (by simp)]
   ·rw [Bl,if_pos ⟨rfl,fun e=>by have:=(AR ts _ _).1 e;rw [Ha ts c (by decide)] at this;cases this⟩,if_pos (List.length_pos_iff.2 h),Bi,if_pos c]
theorem LH (hT:OQ ts) (f g n:Nat) (hn:isT ts n [41]=false) (hf:ts.length - n < f) (hg:f+1<=g):D8 ts [41] (BU ts [44] (BT ts) f true [] n) (Cb ts g [] (n,false)):=by
 refine FM ts (L:=Cb ts) (BI ts hT) (fun n a r h=>by have:=Bt h;omega) (GY ts) (fun g c n h=>?_) (fun g c n t q=>?_) f g [] n n (Or.inl ⟨rfl,rfl,hn⟩) hf hg
 ·rw [Cb,if_neg (fun e=>e.2 ((AR ts n _).2 h))]
 ·refine ⟨fun s=>s,fun m=>rfl,fun m h=>rfl,fun m l b u i j=>?_,?_⟩
  ·dsimp only
   rw [Cb,if_pos ⟨rfl,fun e=>by rw [(AR ts m _).1 e] at b;cases b⟩,if_pos (List.length_pos_iff.2 j),Bi,if_neg (by rw [l];simp),FX];dsimp only;rw [GY]
  ·rcases q with ⟨rfl,rfl,h⟩ | ⟨h,b,rfl⟩
   ·rw [Cb,if_pos ⟨rfl,fun e=>by rw [(AR ts _ _).1 e] at h;cases h⟩,if_neg (by simp)]
   ·rw [Cb,if_pos ⟨rfl,fun e=>by have:=(AR ts _ _).1 e;rw [Ha ts b (by decide)] at this;cases this⟩,if_pos (List.length_pos_iff.2 h),Bi,if_pos b]
end
theorem Mk (l:List UInt8):¬ Bz l=2:=by
 unfold Bz
 repeat' split
 all_goals omega
def Hv {α:Type} (ts:List Tok) (r:Res α) (s:α × Sg):Prop:=match r with
 | .inl (a,n)=>s=(a,(n,false))\/(s.2=(n,true)/\isT ts n [59]=false/\isT ts n [125]=false)
 | .inr m=>s.2=(m,true)
section
variable (ts:List Tok) (en:Nat)
theorem Ib (hT:OQ ts):∀ (f g:Nat) (acc:List ByteArray) (n:Nat),ts.length - n < f+1->f+1<=g->Sim (if isT ts n [44]=true then BU ts [44] (BT ts) f true acc (n+1) else .inl (acc,n)) (Ch ts g acc (n,false))
 | f,0,acc,n,hf,hg=>absurd hg (by omega)
 | f,g+1,acc,n,hf,hg=>by
  unfold Ch;by_cases hc:isT ts n [44]=true
  ·have hlt:n < ts.length:=F0 hc (by decide)
   obtain ⟨f,rfl⟩:∃ q,f=q+1:=⟨f - 1,by omega⟩;rw [if_pos hc,if_pos ((AR ts n _).2 hc),Bi,if_pos hc];unfold BU;rw [if_pos rfl];refine Sim.bind (g:=fun p:ByteArray × Sg=>Ch ts g (acc++[p.1]) p.2) (BI ts hT (n+1)) (fun a n1 h=>?_) (fun a m=>by dsimp only;rw [G3]);have:=Bt h;exact Ib hT f g (acc++[a]) n1 (by omega) (by omega)
  ·rw [if_neg hc,if_neg (fun e=>hc ((AR ts n _).1 e))]
   rfl
theorem Ia (hT:OQ ts) (n:Nat):Hv ts (CI ts (Bo (Au ts n)) n) (CE ts (n,false)):=by
 unfold CI CE;by_cases hn:Bo (Au ts n)=true
 ·have j:¬ tl ts (n,false) 0=[59]:=fun e=>by rw [EG ts hT ((AR ts n _).1 e) (by decide)] at hn;cases hn
  have c:¬ tl ts (n,false) 0=[125]:=fun e=>by rw [EG ts hT ((AR ts n _).1 e) (by decide)] at hn;cases hn
  rw [if_pos ⟨j,c⟩,hn];unfold BU;rw [if_pos rfl];have f:Sim (AH (BT ts n) fun a b=>if isT ts b [44]=true then BU ts [44] (BT ts) ts.length true ([]++[a]) (b+1) else .inl ([]++[a],b)) ((fun p:ByteArray × Sg=>Ch ts (ts.length+1) [p.1] p.2) (Ay ts (n,false))):=by
   refine Sim.bind (g:=fun p:ByteArray × Sg=>Ch ts (ts.length+1) [p.1] p.2) (BI ts hT n) (fun a b h=>?_) (fun a m=>by dsimp only;rw [G3]);exact Ib ts hT ts.length (ts.length+1) [a] b (by omega) (by omega)
  revert f;generalize (AH (BT ts n) fun a b=>if isT ts b [44]=true then BU ts [44] (BT ts) ts.length true ([]++[a]) (b+1) else .inl ([]++[a],b))=r;intro f;rcases r with ⟨a,b⟩ | m
  ·exact Or.inl f
  ·exact f
 ·have i:Bo (Au ts n)=false:=by simpa using hn
  rw [i];have l:BU ts [44] (BT ts) (ts.length+1) false [] n=.inl ([],n):=rfl;rw [l];by_cases he:tl ts (n,false) 0≠[59]/\tl ts (n,false) 0≠[125]
  ·rw [if_pos he]
   refine Or.inr ⟨?_,B7 ts fun e=>he.1 ((AR ts n _).2 e),B7 ts fun e=>he.2 ((AR ts n _).2 e)⟩;unfold Ay;rw [Ge,hT.nm,if_neg hn];show (Ch ts (ts.length+1) [noS] (n,true)).2=_;rw [G3]
  ·rw [if_neg he]
   exact Or.inl rfl
theorem Hv.map {α β:Type} {r:Res α} {s:α × Sg} (F:α->β) (h:Hv ts r s):Hv ts (AH r fun a n=>.inl (F a,n)) (F s.1,s.2):=by
 rcases r with ⟨a,n⟩ | m
 ·rcases h with h | ⟨c,b⟩
  ·exact Or.inl (by rw [h])
  ·exact Or.inr ⟨c,b⟩
 ·exact h
theorem Hv.bad {α:Type} {m:Nat} {s:α × Sg} (h:s.2=(m,true)):Hv ts (.inr m) s:=h
theorem I4 (hT:OQ ts) (n:Nat):Hv ts (Cj ts en n) (Ez ts en (n,false)):=by
 unfold Cj Ez;have c:=BI ts hT n;revert c;generalize BT ts n=r;generalize Ay ts (n,false)=p;intro c;rcases r with ⟨o,b⟩ | m
 ·have e:p=(o,(b,false)):=c
  subst e;rw [Bc];dsimp only;by_cases h33:isT ts b [33]=true
  ·have a:tl ts (b,false) 0=[33]:=(AR ts b _).2 h33
   rw [if_pos h33,if_pos a,Bi,if_pos h33,decide_eq_true a];exact (Ia ts hT (b+1)).map ts (fun f=>C1 (AA ts en n) o true f)
  ·have a:¬ tl ts (b,false) 0=[33]:=fun e=>h33 ((AR ts b _).1 e)
   rw [if_neg h33,if_neg a,Bi,decide_eq_false a];unfold Bs;by_cases h58:isT ts b [58]=true
   ·rw [if_pos h58,if_pos h58,Bc]
    exact (Ia ts hT (b+1)).map ts (fun f=>C1 (AA ts en n) o false f)
   ·rw [if_neg h58,if_neg h58]
    exact Hv.bad ts (I8 ts b)
 ·obtain ⟨o,q⟩:=p
  have e:q=(m,true):=c;subst e;refine Hv.bad ts ?_;dsimp only;rw [Es,if_neg (by simp),BA];exact I8 ts m
theorem Jc {n:Nat} {d:D} {n1:Nat} (h:Cj ts en n=.inl (d,n1)):n<=n1:=by
 have i:∀ sm n l n1,CI ts sm n=.inl (l,n1)->n<=n1:=fun sm n l n1 h=>DI (fun n a n1 h=>by have:=Bt h;omega) _ _ _ _ _ _ h;unfold Cj at h;obtain ⟨o,m,t,g⟩:=Ap h;have:=Bt t;split at g
 ·obtain ⟨j,q,f,c⟩:=Ap g
  have:=i _ _ _ _ f;have:=CA c;omega
 ·obtain ⟨_,u,b,r⟩:=Ap g
  obtain ⟨j,q,f,c⟩:=Ap r;have:=i _ _ _ _ f;have:=CA c;unfold Bs at b;split at b
  ·have:=CA b
   omega
  ·cases b
theorem Ic (hT:OQ ts):∀ (f g:Nat) (acc:List D) (n:Nat),ts.length - n < f->f+1<=g->D8 ts [125] (BU ts [59] (Cj ts en) f true acc n) (Cu ts en g true acc (n,false))
 | 0,g,acc,n,hf,hg=>absurd hf (by omega)
 | f+1,g,acc,n,hf,hg=>by
  obtain ⟨g,rfl⟩:∃ q,g=q+1:=⟨g - 1,by omega⟩;unfold BU Cu;rw [if_pos rfl,if_pos ⟨rfl,rfl⟩];have ho:=I4 ts en hT n;have hm:=fun a n1=>Jc ts en (n:=n) (d:=a) (n1:=n1);revert ho hm;generalize Cj ts en n=r;generalize Ez ts en (n,false)=p;intro ho hm;rcases r with ⟨a,n1⟩ | m
  ·rw [Bc]
   have hn1:=hm a n1 rfl;rcases ho with e | ⟨e,h59,h125⟩
   ·subst e
    dsimp only;by_cases hc:isT ts n1 [59]=true
    ·have ec:=(AR ts n1 _).2 hc
     have hlt:n1 < ts.length:=F0 hc (by decide);rw [if_pos hc,if_pos ec,decide_eq_true ec,Bi,if_pos hc];exact Ic hT f g (acc++[a]) (n1+1) (by omega) (by omega)
    ·have ec:¬ tl ts (n1,false) 0=[59]:=fun e=>hc ((AR ts n1 _).1 e)
     rw [if_neg hc,if_neg ec,decide_eq_false ec];have hr:Cu ts en g false (acc++[a]) (n1,false)=(acc++[a],(n1,false)):=by
      cases g with
      | zero=>rfl
      | succ g=>unfold Cu;rw [if_neg (by simp)]
     rw [hr];exact ⟨fun _=>rfl,fun _=>Or.inr rfl⟩
   ·rw [if_neg (by rw [h59];simp)]
    dsimp only;rw [e,Es,if_neg (by simp),G6];exact ⟨fun h=>absurd h (by rw [h125];simp),fun _=>Or.inl rfl⟩
  ·have e:p.2=(m,true):=ho
   dsimp only;rw [e,Es,if_neg (by simp),G6];rfl
theorem Kc (hT:OQ ts) (n:Nat):Sim (E8 ts en n) (C6 ts en (n,false)):=by
 unfold E8 C6;refine Sim.take ts (G:=fun c:Sg=>(fun p:List D × Sg=>(p.1,Af ts [125] p.2)) (Cu ts en (ts.length+2) (decide (tl ts c 0≠[125])) [] c)) (fun h=>?_) (fun m=>?_)
 ·have g:D8 ts [125] (BU ts [59] (Cj ts en) (ts.length+1) (!isT ts (n+1) [125]) [] (n+1)) (Cu ts en (ts.length+2) (decide (tl ts (n+1,false) 0≠[125])) [] (n+1,false)):=by
   by_cases hc:isT ts (n+1) [125]=true
   ·have b:=(AR ts (n+1) _).2 hc
    rw [hc,decide_eq_false (by simpa using b)];exact ⟨fun _=>rfl,fun h=>by rw [hc] at h;cases h⟩
   ·have b:tl ts (n+1,false) 0≠[125]:=fun e=>hc ((AR ts (n+1) _).1 e)
    rw [B7 ts hc,decide_eq_true b];exact Ic ts en hT (ts.length+1) (ts.length+2) [] (n+1) (by omega) (by omega)
  exact D8.take ts (F:=fun l f=>.inl (l,f)) (G:=fun a q=>(a,q)) g (fun a n h=>rfl) (fun a m=>rfl)
 ·dsimp only
  rw [G6];rfl
theorem JN (hT:OQ ts) {n:Nat} (h:Bo (Au ts n)=true):pX ts en n=.inl (eD 2 (AA ts en n) 0 (Au ts n).text [],n+1):=by
 have b:¬ (Au ts n).kind=2:=fun e=>by
  unfold Bo at h;rw [e] at h;cases h
 have a:¬ isT ts n [45]=true:=fun e=>by rw [EG ts hT e (by decide)] at h;cases h
 unfold pX pE;rw [if_neg b,if_neg a,if_pos h]
theorem Nt {n:Nat} {e:D} {n1:Nat} (h:pX ts en n=.inl (e,n1)) (hk:MF e=2):Bo (Au ts n)=true:=by
 have k1:∀ (kd a m:Int) (x:ByteArray) (ds:List D),MF (eD kd a m x ds)=kd:=fun _ _ _ _ _=>rfl;unfold pX pE at h;split at h
 ·injection h with h;injection h with h _;rw [<-h,k1] at hk;omega
 split at h
 ·split at h
  ·cases h
  split at h
  ·injection h with h;injection h with h _;rw [<-h,k1] at hk;omega
  ·cases h
 split at h
 ·assumption
 split at h
 ·revert h
  generalize pE ts en 60 (0+1) (n+1)=r;intro h;rcases r with ⟨a,m⟩ | m
  ·dsimp only at h
   split at h
   ·cases h
   revert h;generalize pE ts en 60 (0+1) (m+1)=r;intro h;rcases r with ⟨b,m2⟩ | m2
   ·dsimp only at h
    split at h
    ·injection h with h;injection h with h _;rw [<-h,k1] at hk;exact absurd hk (Mk _)
    ·cases h
   ·cases h
  ·cases h
 ·cases h
theorem Kd (hT:OQ ts) (n:Nat) (h:isT ts n [40]=true):Sim (AH (BU ts [44] (pX ts en) (ts.length+1) (!isT ts (n+1) [41]) [] (n+1)) fun l n4=>AH (Bs ts [41] n4) fun _ n5=>.inl (l,n5)) (C7 ts en (n,false)):=by
 unfold C7;rw [Bi,if_pos h];have c:D8 ts [41] (BU ts [44] (pX ts en) (ts.length+1) (!isT ts (n+1) [41]) [] (n+1)) (Bl ts en (ts.length+2) [] (n+1,false)):=by
  by_cases hc:isT ts (n+1) [41]=true
  ·rw [hc,Bl,if_neg (fun e=>e.2 ((AR ts (n+1) _).2 hc))]
   exact ⟨fun _=>rfl,fun h=>by rw [hc] at h;cases h⟩
  ·rw [B7 ts hc]
   exact I5 ts en hT (ts.length+1) (ts.length+2) (n+1) (B7 ts hc) (by omega) (by omega)
 exact D8.take ts (F:=fun l b=>.inl (l,b)) (G:=fun a q=>(a,q)) c (fun a n h=>rfl) (fun a m=>rfl)
theorem FN (hT:OQ ts) (n:Nat):Sim (D3 ts en (AA ts en n) n) (Ci ts en (n,false)):=by
 unfold D3 Ci;refine Sim.bind (g:=fun p:ByteArray × Sg=>(fun b:Sg=>
  if nmS (tl ts b 0)=true/\tl ts b 1=[40] then (fun q:ByteArray × Sg=>(fun l:List D × Sg=>(stD 2 (AA ts en n) p.1 q.1 noE l.1 [] [],l.2)) (C7 ts en q.2)) (Ay ts b)
  else (fun e:D × Sg=>(stD 1 (AA ts en n) p.1 noS e.1 [] [] [],e.2)) (rX ts en b)) (Af ts [61] p.2)) (BI ts hT n) (fun x y h=>?_) (fun a m=>?_)
 ·refine Sim.take ts (G:=fun b:Sg=>
   if nmS (tl ts b 0)=true/\tl ts b 1=[40] then (fun q:ByteArray × Sg=>(fun l:List D × Sg=>(stD 2 (AA ts en n) x q.1 noE l.1 [] [],l.2)) (C7 ts en q.2)) (Ay ts b)
   else (fun e:D × Sg=>(stD 1 (AA ts en n) x noS e.1 [] [] [],e.2)) (rX ts en b)) (fun h=>?_) (fun m=>?_)
  ·generalize y+1=n2
   rw [Ge,hT.nm];by_cases hn:Bo (Au ts n2)=true
   ·rw [JN ts en hT hn,Bc]
    by_cases h40:isT ts (n2+1) [40]=true
    ·have j:tl ts (n2,false) 1=[40]:=(Lx ts n2 _).2 h40
     rw [if_pos ⟨rfl,h40⟩,if_pos ⟨hn,j⟩];have c:=Kd ts en hT (n2+1) h40;have i:Ay ts (n2,false)=((Au ts n2).text,(n2+1,false)):=by
      unfold Ay;rw [Ge,hT.nm,if_pos hn];rfl
     rw [i];dsimp only;have A:(⟨(IM (eD 2 (AA ts en n2) 0 (Au ts n2).text [])).toArray⟩:ByteArray)=(Au ts n2).text:=by
      show (⟨(Au ts n2).text.data.toList.toArray⟩:ByteArray)=_;simp
     rw [A];have:=Sim.bind (g:=fun l:List D × Sg=>(stD 2 (AA ts en n) x (Au ts n2).text noE l.1 [] [],l.2)) c (f:=fun l t=>.inl (stD 2 (AA ts en n) x (Au ts n2).text noE l [] [],t)) (fun a n h=>rfl) (fun a m=>rfl);refine cast ?_ this;congr 1;unfold AH;generalize BU ts [44] (pX ts en) (ts.length+1) (!isT ts (n2+1+1) [41]) [] (n2+1+1)=r;rcases r with ⟨l,v⟩ | m
     ·dsimp only
      generalize Bs ts [41] v=q;rcases q with ⟨u,t⟩ | m <;> rfl
     ·rfl
    ·rw [if_neg (fun e=>h40 e.2),if_neg (fun e=>h40 ((Lx ts n2 _).1 e.2))]
     have c:=Eb ts en hT n2;rw [JN ts en hT hn] at c;have e:rX ts en (n2,false)=(eD 2 (AA ts en n2) 0 (Au ts n2).text [],(n2+1,false)):=c;rw [e];rfl
   ·rw [if_neg (fun e=>hn e.1)]
    refine Sim.bind (g:=fun e:D × Sg=>(stD 1 (AA ts en n) x noS e.1 [] [] [],e.2)) (Eb ts en hT n2) (fun e E B=>?_) (fun a m=>rfl);rw [if_neg (fun C=>hn (Nt ts en B C.1))];rfl
  ·dsimp only
   rw [Es,EH,if_neg (by simp)];exact x_f ts en m
 ·dsimp only
  rw [BA,Es,EH,if_neg (by simp)];exact x_f ts en m
theorem Kb (hT:OQ ts) {blk:Nat->Res (List D)} {blk':Sg->List D × Sg} (n:Nat) (hb:∀ n',n+1<=n'->n < ts.length->Sim (blk n') (blk' (n',false))) (hbf:∀ m,(blk' (m,true)).2=(m,true)) (hbl:∀ n l n1,blk n=.inl (l,n1)->n<=n1):Sim (Dj ts en blk n) (Bf ts en blk' (n,false)):=by
 have T:∀ {x:List UInt8},isT ts n x=true->tl ts (n,false) 0=x:=fun h=>(AR ts n _).2 h;have N:∀ {x y:List UInt8},isT ts n x=true->x≠y->¬ tl ts (n,false) 0=y:=fun h t e=>by rw [T h] at e;exact t e
 have I:∀ {x y:List UInt8},isT ts n x=true->x≠y->¬ isT ts n y=true:=fun h t e=>by rw [Ha ts h t] at e;cases e
 have F:∀ {x:List UInt8},¬ isT ts n x=true->¬ tl ts (n,false) 0=x:=fun h e=>h ((AR ts n _).1 e);unfold Dj Bf;by_cases h1:isT ts n [105,102]=true
 ·have j:n < ts.length:=F0 h1 (by decide)
  rw [if_pos h1,if_neg (N h1 (by decide)),if_neg (N h1 (by decide)),if_neg (N h1 (by decide)),if_neg (N h1 (by decide)),if_pos (T h1),Bi,if_pos h1];refine Sim.bind (g:=fun e:D × Sg=>(fun c:List D × Sg=>if tl ts c.2 0=[101,108,115,101] then (fun r:List D × Sg=>(stD 7 (AA ts en n) noS noS e.1 [] c.1 r.1,r.2)) (blk' (Af ts [101,108,115,101] c.2)) else (stD 7 (AA ts en n) noS noS e.1 [] c.1 [],c.2)) (blk' e.2)) (Eb ts en hT (n+1)) (fun e n1 A=>?_) (fun a m=>?_)
  ·have:=Ec A
   refine Sim.bind (g:=fun c:List D × Sg=>if tl ts c.2 0=[101,108,115,101] then (fun r:List D × Sg=>(stD 7 (AA ts en n) noS noS e [] c.1 r.1,r.2)) (blk' (Af ts [101,108,115,101] c.2)) else (stD 7 (AA ts en n) noS noS e [] c.1 [],c.2)) (hb n1 (by omega) j) (fun c f u=>?_) (fun a m=>?_)
   ·dsimp only
    by_cases hel:isT ts f [101,108,115,101]=true
    ·rw [if_pos hel,if_pos ((AR ts f _).2 hel),Bi,if_pos hel]
     have v:n+1<=f+1:=by have:=hbl _ _ _ u;omega
     exact Sim.bind (g:=fun r:List D × Sg=>(stD 7 (AA ts en n) noS noS e [] c r.1,r.2)) (hb (f+1) v j) (fun r C _=>rfl) (fun a m=>rfl)
    ·rw [if_neg hel,if_neg (fun e=>hel ((AR ts f _).1 e))]
     rfl
   ·dsimp only
    rw [Es,if_neg (by simp)]
  ·dsimp only
   rw [hbf,Es,if_neg (by simp)]
 rw [if_neg h1];by_cases h2:isT ts n [119,104,105,108,101]=true
 ·have j:n < ts.length:=F0 h2 (by decide)
  rw [if_pos h2,if_neg (N h2 (by decide)),if_neg (N h2 (by decide)),if_neg (N h2 (by decide)),if_neg (N h2 (by decide)),if_neg (N h2 (by decide)),if_pos (T h2),Bi,if_pos h2];refine Sim.bind (g:=fun e:D × Sg=>(fun c:List D × Sg=>(stD 8 (AA ts en n) noS noS e.1 [] c.1 [],c.2)) (blk' e.2)) (Eb ts en hT (n+1)) (fun e n1 A=>?_) (fun a m=>?_)
  ·have:=Ec A
   exact Sim.bind (g:=fun c:List D × Sg=>(stD 8 (AA ts en n) noS noS e [] c.1 [],c.2)) (hb n1 (by omega) j) (fun c f u=>rfl) (fun a m=>rfl)
  ·dsimp only
   rw [hbf]
 rw [if_neg h2];have i:∀ (s:D) (f:Nat),Sim (Ip ts s f) (s,Af ts [59] (f,false)):=fun s f=>Sim.take ts (G:=fun q=>(s,q)) (fun _=>rfl) (fun m=>rfl);by_cases h3:isT ts n [103,101,116]=true
 ·rw [if_pos h3,if_pos (T h3),Bi,if_pos h3]
  refine Sim.bind (g:=fun a:ByteArray × Sg=>(fun b:ByteArray × Sg=>(stD 3 (AA ts en n) a.1 b.1 noE [] [] [],Af ts [59] b.2)) (Ay ts a.2)) (BI ts hT (n+1)) (fun a n1 B=>?_) (fun a m=>?_)
  ·exact Sim.bind (g:=fun b:ByteArray × Sg=>(stD 3 (AA ts en n) a b.1 noE [] [] [],Af ts [59] b.2)) (BI ts hT n1) (fun b f hb=>i _ _) (fun a m=>rfl)
  ·dsimp only
   rw [FX];rfl
 rw [if_neg h3,if_neg (F h3)];by_cases h4:isT ts n [112,117,116]=true
 ·rw [if_pos h4,if_pos (T h4),Bi,if_pos h4]
  refine Sim.bind (g:=fun b:ByteArray × Sg=>(fun e:D × Sg=>(stD 4 (AA ts en n) noS b.1 e.1 [] [] [],Af ts [59] e.2)) (rX ts en b.2)) (BI ts hT (n+1)) (fun a n1 B=>?_) (fun a m=>?_)
  ·exact Sim.bind (g:=fun e:D × Sg=>(stD 4 (AA ts en n) noS a e.1 [] [] [],Af ts [59] e.2)) (Eb ts en hT n1) (fun b f hb=>i _ _) (fun a m=>rfl)
  ·dsimp only
   rw [x_f];rfl
 rw [if_neg h4,if_neg (F h4)];by_cases h5:isT ts n [114,101,118,101,97,108]=true
 ·rw [if_pos h5,if_pos (T h5),Bi,if_pos h5]
  refine Sim.bind (g:=fun a:ByteArray × Sg=>(fun e:D × Sg=>(stD 5 (AA ts en n) a.1 noS e.1 [] [] [],Af ts [59] e.2)) (rX ts en a.2)) (BI ts hT (n+1)) (fun a n1 B=>?_) (fun a m=>?_)
  ·exact Sim.bind (g:=fun e:D × Sg=>(stD 5 (AA ts en n) a noS e.1 [] [] [],Af ts [59] e.2)) (Eb ts en hT n1) (fun b f hb=>i _ _) (fun a m=>rfl)
  ·dsimp only
   rw [x_f];rfl
 rw [if_neg h5,if_neg (F h5)];by_cases h6:isT ts n [116,114,117,115,116]=true
 ·rw [if_pos h6,if_pos (T h6),Bi,if_pos h6]
  refine Sim.bind (g:=fun a:ByteArray × Sg=>(fun e:D × Sg=>(stD 6 (AA ts en n) a.1 noS e.1 [] [] [],Af ts [59] e.2)) (rX ts en a.2)) (BI ts hT (n+1)) (fun a n1 B=>?_) (fun a m=>?_)
  ·exact Sim.bind (g:=fun e:D × Sg=>(stD 6 (AA ts en n) a noS e.1 [] [] [],Af ts [59] e.2)) (Eb ts en hT n1) (fun b f hb=>i _ _) (fun a m=>rfl)
  ·dsimp only
   rw [x_f];rfl
 rw [if_neg h6,if_neg (F h6),if_neg (F h1),if_neg (F h2)];exact Sim.bind (g:=fun p:D × Sg=>(p.1,Af ts [59] p.2)) (FN ts en hT n) (fun s n1 E=>i _ _) (fun a m=>rfl)
theorem EY {blk':Sg->List D × Sg} {n:Nat} {y:List UInt8} (h:isT ts n y=true) (hy:nmS y=false) (h1:y≠[103,101,116]) (h2:y≠[112,117,116]) (h3:y≠[114,101,118,101,97,108]) (h4:y≠[116,114,117,115,116]) (h5:y≠[105,102]) (h6:y≠[119,104,105,108,101]):(Bf ts en blk' (n,false)).2=(n,true):=by
 have e:tl ts (n,false) 0=y:=(AR ts n _).2 h;unfold Bf;rw [e,if_neg h1,if_neg h2,if_neg h3,if_neg h4,if_neg h5,if_neg h6];have a:Ay ts (n,false)=(noS,(n,true)):=by
  unfold Ay;rw [e,hy];rfl
 unfold Ci;rw [a];dsimp only;rw [BA,Es,EH,if_neg (by simp)];dsimp only;rw [x_f];rfl
theorem OH {n:Nat} (h:¬ n < ts.length):isT ts n []=true:=by
 unfold isT Au;rw [List.getElem?_eq_none (by omega)];rfl
theorem DX (hT:OQ ts):∀ (f g:Nat) (x:List UInt8) (acc:List D) (n:Nat),(x=[125]\/x=[114,101,116,117,114,110])->2*(ts.length - n)+2<=f->f<=g->D8 ts x (Ce ts en f acc n) (AC ts en g x acc (n,false))
 | 0,g,x,acc,n,hx,hf,hg=>absurd hf (by omega)
 | 1,g,x,acc,n,hx,hf,hg=>absurd hf (by omega)
 | f+2,0,x,acc,n,hx,hf,hg=>absurd hg (by omega)
 | f+2,1,x,acc,n,hx,hf,hg=>absurd hg (by omega)
 | f+2,g+2,x,acc,n,hx,hf,hg=>by
  unfold Ce AC;by_cases ht:isT ts n [125]=true\/isT ts n [114,101,116,117,114,110]=true
  ·rw [if_pos ht]
   by_cases hxx:isT ts n x=true
   ·rw [if_neg (fun e=>e.2 ((AR ts n _).2 hxx))]
    exact ⟨fun _=>rfl,fun h=>by rw [hxx] at h;cases h⟩
   ·rw [if_pos ⟨rfl,fun e=>hxx ((AR ts n _).1 e)⟩]
    dsimp only;have hbad:(Bf ts en (AU ts fun s=>AC ts en g [125] [] s) (n,false)).2=(n,true):=by
     rcases ht with h | h
     ·exact EY ts en h (by decide) (by decide) (by decide) (by decide) (by decide) (by decide) (by decide)
     ·exact EY ts en h (by decide) (by decide) (by decide) (by decide) (by decide) (by decide) (by decide)
    rw [hbad,CB];exact ⟨fun h=>absurd h hxx,fun _=>Or.inl rfl⟩
  ·have i:¬ tl ts (n,false) 0=x:=fun e=>ht (by
    have:=(AR ts n _).1 e;rcases hx with rfl | rfl
    ·exact Or.inl this
    ·exact Or.inr this)
   rw [if_neg ht,if_pos ⟨rfl,i⟩];have c:Sim (Dj ts en (CW ts fun n=>Ce ts en f [] n) n) (Bf ts en (AU ts fun s=>AC ts en g [125] [] s) (n,false)):=by
    refine Kb ts en hT n (fun y A j=>?_) (JZ ts (fun m=>by rw [CB])) (fun n l n1 h=>by have:=Fa (fun n l n1 h=>Dd _ _ _ _ _ h) h;omega);unfold CW AU;refine Sim.take ts (G:=fun u=>(fun p:List D × Sg=>(p.1,Af ts [125] p.2)) (AC ts en g [125] [] u)) (fun h=>?_) (fun m=>by dsimp only;rw [CB];rfl);exact D8.take ts (F:=fun l v=>.inl (l,v)) (G:=fun a q=>(a,q)) (DX hT f g [125] [] (y + 1) (Or.inl rfl) (by omega) (by omega)) (fun a n h=>rfl) (fun a m=>rfl)
   have t:=fun d n1=>GA (ts:=ts) (en:=en) (blk:=CW ts fun n=>Ce ts en f [] n) (fun n l n1 h=>by have:=Fa (fun n l n1 h=>Dd _ _ _ _ _ h) h;omega) (n:=n) (d:=d) (n1:=n1);have b:¬ n < ts.length->(Bf ts en (AU ts fun s=>AC ts en g [125] [] s) (n,false)).2=(n,true):=fun h=>EY ts en (OH ts h) (by decide) (by decide) (by decide) (by decide) (by decide) (by decide) (by decide);revert c t b;generalize Dj ts en (CW ts fun n=>Ce ts en f [] n) n=r;generalize Bf ts en (AU ts fun s=>AC ts en g [125] [] s) (n,false)=p;intro c t b;rcases r with ⟨s,n1⟩ | m
   ·have e:p=(s,(n1,false)):=c
    subst e;have:=t s n1 rfl;rw [Bc];have j:n < ts.length:=by
     by_cases h:n < ts.length
     ·exact h
     ·have:=b h
      cases this
    exact DX hT (f+1) (g+1) x (acc++[s]) n1 hx (by omega) (by omega)
   ·have e:p.2=(m,true):=c
    dsimp only;rw [e,CB];rfl
theorem Ke (hT:OQ ts) (f g n:Nat) (hf:2*ts.length+2<=f) (hg:f<=g):Sim (CW ts (Ce ts en f []) n) (AU ts (AC ts en g [125] []) (n,false)):=by
 unfold CW AU;refine Sim.take ts (G:=fun b=>(fun p:List D × Sg=>(p.1,Af ts [125] p.2)) (AC ts en g [125] [] b)) (fun h=>?_) (fun m=>by dsimp only;rw [CB];rfl);exact D8.take ts (F:=fun l c=>.inl (l,c)) (G:=fun a q=>(a,q)) (DX ts en hT f g [125] [] (n+1) (Or.inl rfl) (by omega) (by omega)) (fun a n h=>rfl) (fun a m=>rfl)
theorem LI (hT:OQ ts) (a:Int) (x:ByteArray) (n:Nat):Sim (GB ts en a x n) (Fj ts en a x (n,false)):=by
 unfold GB Fj;refine Sim.take ts (G:=fun f=>(fun c:List ByteArray × Sg=>(fun b:List D × Sg=>(fun r:D × Sg=>(deD 7 a x noS false [] c.1 b.1 r.1,Af ts [125] (Af ts [59] r.2))) (rX ts en (Af ts [114,101,116,117,114,110] b.2))) (AC ts en (2*ts.length+3) [114,101,116,117,114,110] [] (Af ts [123] (Af ts [41] c.2)))) (Cb ts (ts.length+2) [] f)) (fun h=>?_) (fun m=>?_)
 ·have i:D8 ts [41] (CI ts (!isT ts (n+1) [41]) (n+1)) (Cb ts (ts.length+2) [] (n+1,false)):=by
   unfold CI;by_cases hc:isT ts (n+1) [41]=true
   ·rw [hc,Cb,if_neg (fun e=>e.2 ((AR ts (n+1) _).2 hc))]
    exact ⟨fun _=>rfl,fun h=>by rw [hc] at h;cases h⟩
   ·rw [B7 ts hc]
    exact LH ts hT (ts.length+1) (ts.length+2) (n+1) (B7 ts hc) (by omega) (by omega)
  refine D8.take ts (G:=fun c q=>(fun b:List D × Sg=>(fun r:D × Sg=>(deD 7 a x noS false [] c b.1 r.1,Af ts [125] (Af ts [59] r.2))) (rX ts en (Af ts [114,101,116,117,114,110] b.2))) (AC ts en (2*ts.length+3) [114,101,116,117,114,110] [] (Af ts [123] q))) i (fun c t h=>?_) (fun a m=>?_)
  ·refine Sim.take ts (G:=fun q=>(fun b:List D × Sg=>(fun r:D × Sg=>(deD 7 a x noS false [] c b.1 r.1,Af ts [125] (Af ts [59] r.2))) (rX ts en (Af ts [114,101,116,117,114,110] b.2))) (AC ts en (2*ts.length+3) [114,101,116,117,114,110] [] q)) (fun h=>?_) (fun m=>?_)
   ·refine D8.take ts (G:=fun b q=>(fun r:D × Sg=>(deD 7 a x noS false [] c b r.1,Af ts [125] (Af ts [59] r.2))) (rX ts en q)) (DX ts en hT (2*ts.length+3) (2*ts.length+3) [114,101,116,117,114,110] [] _ (Or.inr rfl) (by omega) (by omega)) (fun b l h=>?_) (fun a m=>?_)
    ·refine Sim.bind (g:=fun r:D × Sg=>(deD 7 a x noS false [] c b r.1,Af ts [125] (Af ts [59] r.2))) (Eb ts en hT _) (fun r j h=>?_) (fun a m=>rfl)
     refine Sim.take ts (G:=fun q=>(deD 7 a x noS false [] c b r,Af ts [125] q)) (fun h=>?_) (fun m=>rfl);exact Sim.take ts (G:=fun q=>(deD 7 a x noS false [] c b r,q)) (fun h=>rfl) (fun m=>rfl)
    ·dsimp only
     rw [x_f];rfl
   ·dsimp only
    rw [CB];dsimp only;rw [BA,x_f];rfl
  ·dsimp only
   rw [BA,CB];dsimp only;rw [BA,x_f];rfl
 ·dsimp only
  rw [GY];dsimp only;rw [BA,BA,CB];dsimp only;rw [BA,x_f];rfl
theorem DY (hT:OQ ts) (kd a:Int) (x y:ByteArray) (gv:Bool) (n:Nat):Sim (Dk ts en kd a x y gv n) (B0 ts en kd a x y gv (n,false)):=by
 unfold Dk B0
 cases gv with
 | true=>
  rw [if_pos rfl,if_pos rfl];refine Sim.bind (g:=fun l:List D × Sg=>(deD kd a x y true l.1 [] [] noE,Af ts [59] l.2)) (Kc ts en hT n) (fun l b h=>?_) (fun a m=>rfl);exact Sim.take ts (G:=fun q=>(deD kd a x y true l [] [] noE,q)) (fun h=>rfl) (fun m=>rfl)
 | false=>
  rw [if_neg (by simp),if_neg (by simp)];exact Sim.take ts (G:=fun q=>(deD kd a x y false [] [] [] noE,q)) (fun h=>rfl) (fun m=>rfl)
theorem LJ (hT:OQ ts) (n:Nat) (hk:¬ Ba (Au ts n).text.data.toList=0):Sim (EE ts en n) (Dt ts en (n,false)):=by
 unfold EE Dt;rw [if_neg hk,Ge,Bi,if_pos (by unfold isT;simp)];generalize Ba (Au ts n).text.data.toList=kd at hk ⊢;refine Sim.bind (g:=fun a:ByteArray × Sg=>if kd=7 then Fj ts en (AA ts en n) a.1 a.2 else if kd=2 then (fun b:ByteArray × Sg=>B0 ts en 2 (AA ts en n) a.1 b.1 false b.2) (Ay ts a.2) else B0 ts en kd (AA ts en n) a.1 noS (decide (kd=4) || decide (kd=5) || (decide (kd=6) && decide (tl ts a.2 0=[123]))) a.2) (BI ts hT (n+1)) (fun a c j=>?_) (fun a m=>?_)
 ·dsimp only
  by_cases h2:kd=2
  ·subst h2
   rw [if_pos rfl,if_neg (by omega),if_pos rfl];exact Sim.bind (g:=fun b:ByteArray × Sg=>B0 ts en 2 (AA ts en n) a b.1 false b.2) (BI ts hT c) (fun b f i=>DY ts en hT _ _ _ _ _ _) (fun a m=>Hc ts en _ _ _ _ _ _)
  by_cases h45:kd=4\/kd=5
  ·rw [if_neg h2,if_pos h45,if_neg (by omega),if_neg h2]
   have e:(decide (kd=4) || decide (kd=5) || (decide (kd=6) && decide (tl ts (c,false) 0=[123])))=true:=by rcases h45 with rfl | rfl <;> simp
   rw [e];exact DY ts en hT _ _ _ _ _ _
  rw [if_neg h2,if_neg h45];by_cases h6:kd=6
  ·subst h6
   rw [if_pos rfl,if_neg (by omega),if_neg (by omega)];have e:(decide ((6:Int)=4) || decide ((6:Int)=5) || (decide ((6:Int)=6) && decide (tl ts (c,false) 0=[123])))=isT ts c [123]:=by
    by_cases h:isT ts c [123]=true
    ·rw [h,(AR ts c _).2 h];simp
    ·rw [B7 ts h,decide_eq_false (fun e=>h ((AR ts c _).1 e))];simp
   rw [e];exact DY ts en hT _ _ _ _ _ _
  rw [if_neg h6];by_cases h7:kd=7
  ·subst h7
   rw [if_pos rfl,if_pos rfl];exact LI ts en hT _ _ _
  rw [if_neg h7,if_neg h7,if_neg h2];have e:(decide (kd=4) || decide (kd=5) || (decide (kd=6) && decide (tl ts (c,false) 0=[123])))=false:=by
   rw [decide_eq_false (fun e=>h45 (Or.inl e)),decide_eq_false (fun e=>h45 (Or.inr e)),decide_eq_false h6];rfl
  rw [e];exact DY ts en hT _ _ _ _ _ _
 ·dsimp only
  split
  ·exact OA ts en _ _ _
  split
  ·rw [FX];exact Hc ts en _ _ _ _ _ _
  ·exact Hc ts en _ _ _ _ _ _
def PA {α:Type} (ts:List Tok) (r:Res α) (s:α × Sg):Prop:=match r with
 | .inl (a,n)=>s=(a,(n,false))
 | .inr m=>s.2=(m,true)\/(s.2=(m,false)/\isT ts m [109,97,105,110]=false)
theorem Gu (hT:OQ ts):∀ (f g:Nat) (acc:List D) (n:Nat),ts.length - n < f->f<=g->PA ts (E9 ts en f acc n) (Cd ts en g acc (n,false))
 | 0,g,acc,n,hf,hg=>absurd hf (by omega)
 | f+1,0,acc,n,hf,hg=>absurd hg (by omega)
 | f+1,g+1,acc,n,hf,hg=>by
  unfold E9 Cd;rw [Ge];by_cases hm:isT ts n [109,97,105,110]=true
  ·have e:(Au ts n).text.data.toList=[109,97,105,110]:=(AR ts n _).2 hm
   rw [if_pos hm,e,if_neg (fun h=>h.2 (by decide))];rfl
  ·rw [if_neg hm]
   by_cases hk:Ba (Au ts n).text.data.toList=0
   ·rw [if_neg (fun h=>h.2 hk)]
    unfold EE;rw [if_pos hk];exact Or.inr ⟨rfl,B7 ts hm⟩
   ·rw [if_pos ⟨rfl,hk⟩]
    have hs:=LJ ts en hT n hk;have hl:=fun d n1=>Mb (ts:=ts) (en:=en) (n:=n) (d:=d) (n1:=n1);have hlt:n < ts.length:=GW (fun e=>hk (by rw [e];rfl));revert hs hl;generalize EE ts en n=r;generalize Dt ts en (n,false)=p;intro hs hl;rcases r with ⟨s,n1⟩ | m
    ·have e:p=(s,(n1,false)):=hs
     subst e;have:=hl s n1 rfl;exact Gu hT f g (acc++[s]) n1 (by omega) (by omega)
    ·have e:p.2=(m,true):=hs
     have hf:∀ g acc m,Cd ts en g acc (m,true)=(acc,(m,true)):=fun g acc m=>by
      cases g with
      | zero=>rfl
      | succ g=>unfold Cd;rw [if_neg (by simp)]
     dsimp only;rw [e,hf];exact Or.inl rfl
def Pz (ts:List Tok) (r:Res (List D × List D)) (s:(List D × List D) × Sg):Prop:=match r with
 | .inl (a,n)=>s=(a,(n,false))/\¬ n < ts.length
 | .inr m=>s.2=(m,true)\/(s.2=(m,false)/\m < ts.length)
theorem H8 (hT:OQ ts):Pz ts (C3 ts en) (JL ts en):=by
 unfold C3 JL;have c:=Gu ts en hT (ts.length+1) (ts.length+2) [] 0 (by omega) (by omega);have a:∀ m,(AU ts (AC ts en (2*ts.length+3) [125] []) (m,true)).2=(m,true):=JZ ts (fun m=>by rw [CB]);revert c;generalize E9 ts en (ts.length+1) [] 0=r;generalize Cd ts en (ts.length+2) [] (0,false)=p;intro c;rcases r with ⟨g,n⟩ | m
 ·have e:p=(g,(n,false)):=c
  subst e;rw [Bc];dsimp only;rw [Bi];unfold Bs;by_cases hm:isT ts n [109,97,105,110]=true
  ·rw [if_pos hm,if_pos hm,Bc]
   have b:=Ke ts en hT (2*ts.length+3) (2*ts.length+3) (n+1) (by omega) (by omega);revert b;generalize CW ts (Ce ts en (2*ts.length+3) []) (n+1)=r;generalize AU ts (AC ts en (2*ts.length+3) [125] []) (n+1,false)=q;intro b;rcases r with ⟨l,f⟩ | m
   ·have e:q=(l,(f,false)):=b
    subst e;rw [Bc];by_cases hlt:f < ts.length
    ·rw [if_pos hlt];exact Or.inr ⟨rfl,hlt⟩
    ·rw [if_neg hlt];exact ⟨rfl,hlt⟩
   ·have e:q.2=(m,true):=b
    exact Or.inl e
  ·rw [if_neg hm,if_neg hm]
   exact Or.inl (a n)
 ·dsimp only
  rcases c with e | ⟨e,hm⟩
  ·rw [e,BA]
   exact Or.inl (a m)
  ·rw [e,Bi,if_neg (by rw [hm];simp)]
   exact Or.inl (a m)
end
end Go.Proofs.YtipngnjffjajpaaGreatDoor.Tx
