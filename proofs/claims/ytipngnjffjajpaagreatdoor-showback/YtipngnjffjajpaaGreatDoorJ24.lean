/- The document's answer: things of two trees that are the same. -/
import Derived.Test.YtipngnjffjajpaaGreatDoorJ23
set_option linter.unusedVariables false
set_option maxHeartbeats 8000000
set_option maxRecDepth 100000
namespace Go.Proofs.YtipngnjffjajpaaGreatDoor.Tx
open Go.RowKit
open Go.Value renaming int -> I, slice -> zc, bool -> zd, pointer -> zf, agg -> zg, tuple -> zi
open Go.IntKind renaming i64 -> O
open Go.Obj renaming cells -> ze
open Go.Ending renaming returned -> zh
theorem FF {α:Type} {f:α->α->Bool}:∀ {l m:List α},all2 f l m=true->∀ (j:Nat) (h:j < l.length) (h':j < m.length),f l[j] m[j]=true
 | a::l,b::m,h,0,_,_=>by simp [all2] at h;exact h.1
 | a::l,b::m,h,j+1,h1,h2=>by simp [all2] at h;exact FF h.2 j (by simpa using h1) (by simpa using h2)
 | [],_,h,j,h1,h2=>absurd h1 (Nat.not_lt_zero _)
 | _::_,[],h,j,h1,h2=>absurd h2 (Nat.not_lt_zero _)
theorem MX:∀ {l m:List ByteArray},all2 sxS (l.map dS) (m.map dS)=true->l=m
 | [],[],_=>rfl
 | a::l,b::m,h=>by
  simp only [List.map_cons,all2,sxS,G2,Bool.and_eq_true] at h;have e:a=b:=by
   have:=Au (of_decide_eq_true h.1);rw [this]
  rw [e,MX h.2]
 | [],_::_,h=>by cases h
 | _::_,[],h=>by cases h
theorem LS.fr {α:Type} {s:Nat} {R:List Value->α->Prop} {w:World} {ao:Option Addr} {n c:Nat} {l:List α} (h:LS s R w (zc ao n c) l) (hs:0 < s) (hl:l≠[]):∃ b off,ao=some ⟨b,off,none⟩/\Fr0 w ⟨b,off,none⟩:=by
 obtain ⟨b,off,rfl,i⟩:=h.fz hl;obtain ⟨x,f,e,g,v,a,-⟩:=h.at (j:=0) (List.length_pos_iff.2 hl);simp only [Option.some.injEq,Addr.mk.injEq,and_true] at e;obtain ⟨rfl,rfl⟩:=e;obtain ⟨u,r⟩:∃ u,g[0]? = some u:=⟨g[0]'(by omega),List.getElem?_eq_getElem (by omega)⟩;exact ⟨b,off,rfl,i.2,Cbl.of_cell (a 0 u r)⟩
section
variable (w0:World) (m1 m2:Nat)
def PV (k:Nat):Prop:=∀ (cs ct:List Value) (d e:D) (X:World),SW w0 m1 m2 X->ZE w0 k cs d->ZE w0 k ct e->seK false k d e=true->TC w0 m1 m2 128 #[zg #[.map (some m1),.map (some m2)],.agg cs.toArray,.agg ct.toArray] X
def PW (ke k:Nat):Prop:=∀ (cs ct:List Value) (d e:D) (X:World),SW w0 m1 m2 X->ZC w0 ke k cs d->ZC w0 ke k ct e->ssK false ke k d e=true->TC w0 m1 m2 130 #[zg #[.map (some m1),.map (some m2)],.agg cs.toArray,.agg ct.toArray] X
variable {w0 m1 m2}
theorem Jp {k:Nat} (hE:PV w0 m1 m2 k) (l m:List D) (ao bo:Option Addr) (c d:Nat) (X:World) (hX:SW w0 m1 m2 X) (hA:LS 5 (ZE w0 k) w0 (zc ao l.length c) l) (hB:LS 5 (ZE w0 k) w0 (zc bo m.length d) m) (hs:all2 (seK false k) l m=true):TC w0 m1 m2 152 #[zg #[.map (some m1),.map (some m2)],zc ao l.length c,zc bo m.length d] X:=by
 refine sEs w0 m1 m2 _ _ X hX fun Y g=>?_;have a:=B8 hs;rw [<-a] at hB ⊢;by_cases hl:l=[]
 ·subst hl
  exact OV w0 m1 m2 _ ao bo c d Y g
 ·have u:m≠[]:=by
   rintro rfl;exact hl (List.length_eq_zero_iff.1 a)
  obtain ⟨b,i,rfl,y⟩:=hA.fr (by decide) hl;obtain ⟨C,f,rfl,r⟩:=hB.fr (by decide) u;exact QQ w0 m1 m2 _ l.length b i c C f d Y g (y.over g.ov) (r.over g.ov) (List.length_pos_iff.2 hl) hA.1 fun Z v=>RF w0 m1 m2 k l m a.symm _ _ c d hA hB (fun j h r B A V x hr n=>hE B A _ _ V x hr n (FF hs j h r)) Z v
theorem Fm {ke k:Nat} (hE:PW w0 m1 m2 ke k) (l m:List D) (ao bo:Option Addr) (c d:Nat) (X:World) (hX:SW w0 m1 m2 X) (hA:LS 12 (ZC w0 ke k) w0 (zc ao l.length c) l) (hB:LS 12 (ZC w0 ke k) w0 (zc bo m.length d) m) (hs:all2 (ssK false ke k) l m=true):TC w0 m1 m2 91 #[zg #[.map (some m1),.map (some m2)],zc ao l.length c,zc bo m.length d] X:=by
 refine sCs w0 m1 m2 _ _ X hX fun Y g=>?_;have a:=B8 hs;rw [<-a] at hB ⊢;by_cases hl:l=[]
 ·subst hl
  exact OU w0 m1 m2 _ ao bo c d Y g
 ·have u:m≠[]:=by
   rintro rfl;exact hl (List.length_eq_zero_iff.1 a)
  obtain ⟨b,i,rfl,y⟩:=hA.fr (by decide) hl;obtain ⟨C,f,rfl,r⟩:=hB.fr (by decide) u;exact QP w0 m1 m2 _ l.length b i c C f d Y g (y.over g.ov) (r.over g.ov) (List.length_pos_iff.2 hl) hA.1 fun Z v=>RH w0 m1 m2 ke k l m a.symm _ _ c d hA hB (fun j h r B A V x hr n=>hE B A _ _ V x hr n (FF hs j h r)) Z v
theorem Gg:∀ k,PV w0 m1 m2 k
 | 0=>fun cs ct d e X hX h1 _ _=>h1.elim
 | k+1=>fun cs ct d e X hX h1 h2 hq=>by
  obtain ⟨kd,a,n,x,ao,c,ds,rfl,rfl,-,hA⟩:=h1;obtain ⟨kd9,a9,n9,x9,bo,c9,es,rfl,rfl,-,hB⟩:=h2;simp only [seK,gEe,Bool.and_eq_true,decide_eq_true_eq] at hq;obtain ⟨⟨⟨⟨rfl,rfl⟩,hx⟩,-⟩,hs⟩:=hq;obtain rfl:x=x9:=by have:=Au hx;rw [this]
  exact sE w0 m1 m2 kd a a9 n x ao _ c bo _ c9 X hX fun Y b=>Jp (Gg k) ds es ao bo c c9 Y b hA hB hs
theorem Gh (ke:Nat):∀ k,PW w0 m1 m2 ke k
 | 0=>fun cs ct d e X hX h1 _ _=>h1.elim
 | k+1=>fun cs ct d e X hX h1 h2 hq=>by
  obtain ⟨kd,a,x,y,e0,e1,e2,e3,q,q1,q2,e,aA,cA,args,aT,cT,th,aE,cE,el,rfl,rfl,-,-,he,hA,hT,hE⟩:=h1;obtain ⟨kd9,a9,x9,y9,f0,f1,f2,f3,t,t1,t2,e9,bA9,bcA,args9,bT,bcT,th9,bE,bcE,el9,rfl,rfl,-,-,he9,hA9,hT9,hE9⟩:=h2;simp only [ssK,gSs,Bool.and_eq_true,decide_eq_true_eq] at hq;obtain ⟨⟨⟨⟨⟨⟨⟨rfl,-⟩,hx⟩,hy⟩,qe⟩,qa⟩,qt⟩,ql⟩:=hq;obtain rfl:x=x9:=by have:=Au hx;rw [this]
  obtain rfl:y=y9:=by have:=Au hy;rw [this]
  exact sC w0 m1 m2 kd a a9 x y e0 e1 e2 e3 q q1 q2 aA _ cA aT _ cT aE _ cE f0 f1 f2 f3 t t1 t2 bA9 _ bcA bT _ bcT bE _ bcE X hX (fun Y b=>Gg ke _ _ e e9 Y b he he9 qe) (fun Y b=>Jp (Gg ke) args args9 aA bA9 cA bcA Y b hA hA9 qa) (fun Y b=>Fm (Gh ke k) th th9 aT bT cT bcT Y b hT hT9 qt) fun Y b=>Fm (Gh ke k) el el9 aE bE cE bcE Y b hE hE9 ql
theorem GA (ns ms:List ByteArray) (ao bo:Option Addr) (c d:Nat) (X:World) (hX:SW w0 m1 m2 X) (hA:LS 1 ZN w0 (zc ao ns.length c) ns) (hB:LS 1 ZN w0 (zc bo ms.length d) ms) (hs:ns=ms):TC w0 m1 m2 127 #[zc ao ns.length c,zc bo ms.length d] X:=by
 subst hs;exact QW hX (Rf ns ao bo c d X (Ds hX.ov hA) (Ds hX.ov hB))
theorem O2 (cs ct:List Value) (d e:D) (X:World) (hX:SW w0 m1 m2 X) (h1:ZP w0 cs d) (h2:ZP w0 ct e) (hq:spD false d e=true):TC w0 m1 m2 126 #[.agg cs.toArray,.agg ct.toArray] X:=by
 obtain ⟨a,o,wr,j,i,r,rfl,rfl,-,y⟩:=h1;obtain ⟨A,n,l,c,b,f,rfl,rfl,-,g⟩:=h2;simp only [spD,gPp,Bool.and_eq_true,decide_eq_true_eq] at hq;obtain ⟨⟨⟨-,u⟩,rfl⟩,v⟩:=hq;obtain rfl:o=n:=by have:=Au u;rw [this]
 exact sP w0 m1 m2 a A o wr j _ i c _ b X hX fun Y x=>GA r f j c i b Y x y g (MX v)
theorem O3 (ke kc:Nat) (cs ct:List Value) (d e:D) (X:World) (hX:SW w0 m1 m2 X) (h1:ZD w0 ke kc cs d) (h2:ZD w0 ke kc ct e) (hq:sdK false ke kc d e=true):TC w0 m1 m2 90 #[zg #[.map (some m1),.map (some m2)],.agg cs.toArray,.agg ct.toArray] X:=by
 obtain ⟨kd,a,x,y,gv,P,M,lb,O,L,ps,Q,N,u,e0,e1,e2,e3,q,q1,q2,r,rfl,rfl,-,-,hL,hP,hB,hr⟩:=h1;obtain ⟨af,a9,S,R,an,A,l,E,v,i,C,B,n,g,f0,f1,f2,f3,t,U,T,W,rfl,rfl,-,-,I,H,J,F⟩:=h2;simp only [sdK,gDd,Bool.and_eq_true,decide_eq_true_eq] at hq;obtain ⟨⟨⟨⟨⟨⟨⟨⟨rfl,-⟩,hx⟩,hy⟩,rfl⟩,K⟩,qp⟩,qb⟩,Z⟩:=hq;obtain rfl:x=S:=by have:=Au hx;rw [this]
 obtain rfl:y=R:=by have:=Au hy;rw [this]
 have c:=B8 K;have b:=I;rw [<-c] at b;exact sD w0 m1 m2 kd a a9 x y gv P _ M O _ L Q _ N e0 e1 e2 e3 q q1 q2 A _ l v _ i B _ n f0 f1 f2 f3 t U T X hX (fun Y f=>by rw [<-c];exact RD w0 m1 m2 lb E c.symm P A M l hL b (fun j h h2 cs ct V hV hr G=>O2 cs ct _ _ V hV hr G (FF K j h h2)) Y f) (fun Y f=>GA ps C O v L i Y f hP H (MX qp)) (fun Y f=>Fm (Gh ke kc) u g Q B N n Y f hB J qb) fun Y f=>Gg ke _ _ r W Y f hr F Z
end
theorem Nk (ke kc:Nat) (ds l ds' l':List D) (v v':Value) (w:World) (h1:ZT w ke kc v ds l) (h2:ZT w ke kc v' ds' l') (hq:stK false ke kc ds l ds' l'=true):Ro 22 #[v,v'] w (zd true):=by
 obtain ⟨a,c,E,B,rfl,y,x⟩:=h1;obtain ⟨b,d,C,A,rfl,i,g⟩:=h2;simp only [stK,Bool.and_eq_true] at hq;obtain ⟨F,I⟩:=hq;have f:=B8 F;refine LN a _ c E _ B b _ d C _ A w true fun W H G X hW J=>?_;replace y:=GL hW y;replace x:=A6 hW x;replace i:=GL hW i;replace g:=A6 hW g;have n:=i;rw [<-f] at n;refine (sT W H G a _ c E _ B b _ d C _ A X J (fun Y u=>?_) fun Y u=>Fm (Gh ke kc) l l' E C B A Y u x g I).mono fun e N h=>⟨h.1,h.2.1.ov⟩;rw [<-f];exact RG W H G ke kc ds ds' f.symm a b c d y n (fun j h h2 M L V K hr r=>O3 ke kc M L _ _ V K hr r (FF F j h h2)) Y u
abbrev Sg:=Nat × Bool
def C8:List UInt8->Bool
 | []=>false
 | c::_=>isD c
section
variable (ts:List Tok) (en:Nat)
def tx (s:Sg) (k:Nat):ByteArray:=if s.2=true then noS else (Ag ts (s.1+k)).text
def tl (s:Sg) (k:Nat):List UInt8:=(tx ts s k).data.toList
def AB (x:List UInt8) (s:Sg):Sg:=if s.2=true then s else if tl ts s 0=x then (s.1+1,false) else (s.1,true)
def Dy (s:Sg):Sg:=(s.1,true)
def A9 (s:Sg):ByteArray × Sg:=if nmS (tl ts s 0)=true then (tx ts s 0,(s.1+1,s.2)) else (noS,Dy s)
def E7 (s:Sg):Int × Sg:=if C8 (tl ts s 0)=true then ((CF (tl ts s 0):Int),(s.1+1,s.2)) else (0,Dy s)
def BJ:Nat->Nat->Sg->D × Sg
 | 0,_,s=>(noE,Dy s)
 | f+1,deep,s=>
  if tl ts s 0=[40]/\deep < 60 then
   (fun p1:D × Sg=>(fun p2:D × Sg=>(eD (A0 (tl ts p1.2 0)) (Av ts en s.1) 0 noS [p1.1,p2.1],AB ts [41] p2.2)) (BJ f (deep+1) (if A0 (tl ts p1.2 0)=0 then Dy p1.2 else AB ts (tl ts p1.2 0) p1.2))) (BJ f (deep+1) (AB ts [40] s))
  else if tl ts s 0=[45] then
   (fun s1:Sg=>(fun p:Int × Sg=>(eD 1 (Av ts en s.1) (-p.1) noS [],p.2)) (E7 ts (if tl ts s1 0=[48] then Dy s1 else s1))) (AB ts [45] s)
  else if C8 (tl ts s 0)=true then (fun p:Int × Sg=>(eD 1 (Av ts en s.1) p.1 noS [],p.2)) (E7 ts s)
  else (fun p:ByteArray × Sg=>(eD 2 (Av ts en s.1) 0 p.1 [],p.2)) (A9 ts s)
def rX (s:Sg):D × Sg:=BJ ts en 61 0 s
def LO:Nat->List D->Sg->List D × Sg
 | 0,acc,s=>(acc,s)
 | g+1,acc,s=>if s.2=false/\tl ts s 0≠[41] then
   (fun p:D × Sg=>LO g (acc++[p.1]) (if tl ts p.2 0≠[44]/\tl ts p.2 0≠[41] then Dy p.2 else p.2)) (rX ts en (if 0 < acc.length then AB ts [44] s else s))
  else (acc,s)
def P4 (s:Sg):List D × Sg:=(fun p:List D × Sg=>(p.1,AB ts [41] p.2)) (LO ts en (ts.length+2) [] (AB ts [40] s))
def Dx:Nat->List ByteArray->Sg->List ByteArray × Sg
 | 0,acc,s=>(acc,s)
 | g+1,acc,s=>if tl ts s 0=[44] then (fun p:ByteArray × Sg=>Dx g (acc++[p.1]) p.2) (A9 ts (AB ts [44] s)) else (acc,s)
def Dp (s:Sg):List ByteArray × Sg:=if tl ts s 0≠[59]/\tl ts s 0≠[125] then (fun p:ByteArray × Sg=>Dx ts (ts.length+1) [p.1] p.2) (A9 ts s) else ([],s)
def GC (s:Sg):D × Sg:=(fun p:ByteArray × Sg=>(fun q:List ByteArray × Sg=>(Dv (Av ts en s.1) p.1 (decide (tl ts p.2 0=[33])) q.1,q.2)) (Dp ts (if tl ts p.2 0=[33] then AB ts [33] p.2 else AB ts [58] p.2))) (A9 ts s)
def EX:Nat->Bool->List D->Sg->List D × Sg
 | 0,_,acc,s=>(acc,s)
 | g+1,more,acc,s=>if more=true/\s.2=false then (fun p:D × Sg=>EX g (decide (tl ts p.2 0=[59])) (acc++[p.1]) (if tl ts p.2 0=[59] then AB ts [59] p.2 else p.2)) (GC ts en s) else (acc,s)
def Ip (s:Sg):List D × Sg:=(fun s1:Sg=>(fun p:List D × Sg=>(p.1,AB ts [125] p.2)) (EX ts en (ts.length+2) (decide (tl ts s1 0≠[125])) [] s1)) (AB ts [123] s)
def O4 (s:Sg):D × Sg:=
 (fun p:ByteArray × Sg=>(fun s2:Sg=>
  if nmS (tl ts s2 0)=true/\tl ts s2 1=[40] then (fun q:ByteArray × Sg=>(fun l:List D × Sg=>(stD 2 (Av ts en s.1) p.1 q.1 noE l.1 [] [],l.2)) (P4 ts en q.2)) (A9 ts s2)
  else (fun e:D × Sg=>(stD 1 (Av ts en s.1) p.1 noS e.1 [] [] [],e.2)) (rX ts en s2)) (AB ts [61] p.2)) (A9 ts s)
def FM (blk:Sg->List D × Sg) (s:Sg):D × Sg:=
 if tl ts s 0=[103,101,116] then (fun a:ByteArray × Sg=>(fun b:ByteArray × Sg=>(stD 3 (Av ts en s.1) a.1 b.1 noE [] [] [],AB ts [59] b.2)) (A9 ts a.2)) (A9 ts (AB ts [103,101,116] s))
 else if tl ts s 0=[112,117,116] then (fun b:ByteArray × Sg=>(fun e:D × Sg=>(stD 4 (Av ts en s.1) noS b.1 e.1 [] [] [],AB ts [59] e.2)) (rX ts en b.2)) (A9 ts (AB ts [112,117,116] s))
 else if tl ts s 0=[114,101,118,101,97,108] then (fun a:ByteArray × Sg=>(fun e:D × Sg=>(stD 5 (Av ts en s.1) a.1 noS e.1 [] [] [],AB ts [59] e.2)) (rX ts en a.2)) (A9 ts (AB ts [114,101,118,101,97,108] s))
 else if tl ts s 0=[116,114,117,115,116] then (fun a:ByteArray × Sg=>(fun e:D × Sg=>(stD 6 (Av ts en s.1) a.1 noS e.1 [] [] [],AB ts [59] e.2)) (rX ts en a.2)) (A9 ts (AB ts [116,114,117,115,116] s))
 else if tl ts s 0=[105,102] then (fun e:D × Sg=>(fun th:List D × Sg=>if tl ts th.2 0=[101,108,115,101] then (fun el:List D × Sg=>(stD 7 (Av ts en s.1) noS noS e.1 [] th.1 el.1,el.2)) (blk (AB ts [101,108,115,101] th.2)) else (stD 7 (Av ts en s.1) noS noS e.1 [] th.1 [],th.2)) (blk e.2)) (rX ts en (AB ts [105,102] s))
 else if tl ts s 0=[119,104,105,108,101] then (fun e:D × Sg=>(fun th:List D × Sg=>(stD 8 (Av ts en s.1) noS noS e.1 [] th.1 [],th.2)) (blk e.2)) (rX ts en (AB ts [119,104,105,108,101] s))
 else (fun p:D × Sg=>(p.1,AB ts [59] p.2)) (O4 ts en s)
def E8 (ss:Sg->List D × Sg) (s:Sg):List D × Sg:=(fun p:List D × Sg=>(p.1,AB ts [125] p.2)) (ss (AB ts [123] s))
def BP:Nat->List UInt8->List D->Sg->List D × Sg
 | 0,_,acc,s=>(acc,s)
 | 1,_,acc,s=>(acc,s)
 | f+2,x,acc,s=>if s.2=false/\tl ts s 0≠x then (fun p:D × Sg=>BP (f+1) x (acc++[p.1]) p.2) (FM ts en (E8 ts (fun s=>BP f [125] [] s)) s) else (acc,s)
def EW:Nat->Sg->D × Sg
 | 0,s=>(noE,Dy s)
 | f+1,s=>FM ts en (E8 ts (fun s=>BP ts en f [125] [] s)) s
def PQ:Nat->List ByteArray->Sg->List ByteArray × Sg
 | 0,acc,s=>(acc,s)
 | g+1,acc,s=>if s.2=false/\tl ts s 0≠[41] then (fun p:ByteArray × Sg=>PQ g (acc++[p.1]) p.2) (A9 ts (if 0 < acc.length then AB ts [44] s else s)) else (acc,s)
def PR (at_:Int) (name:ByteArray) (s:Sg):D × Sg:=
 (fun ps:List ByteArray × Sg=>(fun bd:List D × Sg=>(fun r:D × Sg=>(deD 7 at_ name noS false [] ps.1 bd.1 r.1,AB ts [125] (AB ts [59] r.2)))
  (rX ts en (AB ts [114,101,116,117,114,110] bd.2)))
  (BP ts en (2*ts.length+3) [114,101,116,117,114,110] [] (AB ts [123] (AB ts [41] ps.2))))
  (PQ ts (ts.length+2) [] (AB ts [40] s))
def FN (kd at_:Int) (name oth:ByteArray) (gv:Bool) (s:Sg):D × Sg:=
 if gv=true then (fun l:List D × Sg=>(deD kd at_ name oth true l.1 [] [] noE,AB ts [59] l.2)) (Ip ts en s) else (deD kd at_ name oth false [] [] [] noE,AB ts [59] s)
def Fp (s:Sg):D × Sg:=
 (fun a:ByteArray × Sg=>
  if AK (tl ts s 0)=7 then PR ts en (Av ts en s.1) a.1 a.2
  else if AK (tl ts s 0)=2 then (fun b:ByteArray × Sg=>FN ts en 2 (Av ts en s.1) a.1 b.1 false b.2) (A9 ts a.2)
  else FN ts en (AK (tl ts s 0)) (Av ts en s.1) a.1 noS (decide (AK (tl ts s 0)=4) || decide (AK (tl ts s 0)=5) || (decide (AK (tl ts s 0)=6) && decide (tl ts a.2 0=[123]))) a.2) (A9 ts (AB ts (tl ts s 0) s))
def DW:Nat->List D->Sg->List D × Sg
 | 0,acc,s=>(acc,s)
 | g+1,acc,s=>if s.2=false/\AK (tl ts s 0)≠0 then (fun p:D × Sg=>DW g (acc++[p.1]) p.2) (Fp ts en s) else (acc,s)
end
section
variable (ts:List Tok) (en:Nat)
theorem PZ (m k:Nat):tl ts (m,true) k=[]:=rfl
theorem NF (x:List UInt8) (m:Nat):AB ts x (m,true)=(m,true):=rfl
theorem LW:nmS []=false:=by decide
theorem Qb (m:Nat):A9 ts (m,true)=(noS,(m,true)):=by
 unfold A9;rw [PZ,LW];rfl
theorem Qc (g:Nat) (acc:List ByteArray) (m:Nat):Dx ts g acc (m,true)=(acc,(m,true)):=by
 cases g with
 | zero=>rfl
 | succ g=>unfold Dx;rw [PZ,if_neg (by simp)]
theorem P8 (m:Nat):(Dp ts (m,true)).2=(m,true):=by
 unfold Dp;rw [PZ,if_pos (by simp),Qb];dsimp only;rw [Qc]
structure Rt:Prop where
 nm:∀ n,nmS (Ag ts n).text.data.toList=AN (Ag ts n)
 nu:∀ n,C8 (Ag ts n).text.data.toList=decide ((Ag ts n).kind=2)

end
def Sd (rb:Nat) (tv:Value) (ts:List Tok) (en:Nat) (s:Sg) (w:World):Prop:=
 w.heap[rb]? = some (Obj.cells #[tv,I O (s.1:Int),I O (en:Int),zd s.2] 58 (0,0))/\s.1<=ts.length/\ts.length<=6000/\∃ ao cap,tv=zc ao ts.length cap /\
  (ts≠[]->∃ b off,ao=some ⟨b,off,none⟩/\b≠rb/\∀ (j:Nat) (u:Value),(AM ts)[j]? = some u->w.cell? ⟨b,off+j,none⟩=some u)
section
variable {rb:Nat} {tv:Value} {ts:List Tok} {en:Nat} {s s':Sg} {w w' V V':World}
theorem Sd.keep (h:Sd rb tv ts en s w) (hg:w.grownBy w' (some rb)) (hb:w'.heap[rb]? = some (Obj.cells #[tv,I O (s'.1:Int),I O (en:Int),zd s'.2] 58 (0,0))) (hm:s'.1<=ts.length):Sd rb tv ts en s' w':=by
 obtain ⟨_,_,x,y,l,n,v⟩:=h;refine ⟨hb,hm,x,y,l,n,fun f=>?_⟩;obtain ⟨b,c,i,a,g⟩:=v f;exact ⟨b,c,i,a,fun j u r=>hg.cell (g j u r) (by simpa using a)⟩
theorem Sd.below (h:Sd rb tv ts en s w) (hb:Ov w w'):Sd rb tv ts en s w':=by
 obtain ⟨n,A,y,B,l,r,x⟩:=h;refine ⟨by rw [hb.block rb (Array.getElem?_eq_some_iff.1 n).1];exact n,A,y,B,l,r,fun c=>?_⟩;obtain ⟨b,a,i,g,f⟩:=x c;exact ⟨b,a,i,g,fun j u v=>ce1 hb (f j u v)⟩
theorem Sd.lt (h:Sd rb tv ts en s w):rb < w.heap.size:=(Array.getElem?_eq_some_iff.1 h.1).1
theorem Sd.cells (h:Sd rb tv ts en s w):w.cell? ⟨rb,0,none⟩=some tv/\w.cell? ⟨rb,1,none⟩=some (I O (s.1:Int))/\w.cell? ⟨rb,2,none⟩=some (I O (en:Int))/\w.cell? ⟨rb,3,none⟩=some (zd s.2)/\w.frozen? ⟨rb,1,none⟩=false/\w.frozen? ⟨rb,3,none⟩=false:=by
 have:=h.1;refine ⟨?_,?_,?_,?_,?_,?_⟩ <;> simp [World.cell?,World.frozen?,this]
theorem Sd.next (h:Sd rb tv ts en s w) (hn:s.1 < ts.length) :
  Sd rb tv ts en (s.1+1,s.2) (w.setCell ⟨rb,1,none⟩ (I O ((s.1:Int)+1)))/\w.grownBy (w.setCell ⟨rb,1,none⟩ (I O ((s.1:Int)+1))) (some rb):=by
 have a:w.grownBy (w.setCell ⟨rb,1,none⟩ (I O ((s.1:Int)+1))) (some rb):=CV;refine ⟨h.keep a ?_ hn,a⟩;have:=h.1;simp [World.setCell,Array.getElem?_modify,this]
theorem Sd.fail (h:Sd rb tv ts en s w):Sd rb tv ts en (s.1,true) (w.setCell ⟨rb,3,none⟩ (zd true))/\w.grownBy (w.setCell ⟨rb,3,none⟩ (zd true)) (some rb):=by
 have a:w.grownBy (w.setCell ⟨rb,3,none⟩ (zd true)) (some rb):=CV;refine ⟨h.keep a ?_ h.2.1,a⟩;have:=h.1;simp [World.setCell,Array.getElem?_modify,this]
structure Rq (rb:Nat) (tv:Value) (ts:List Tok) (en:Nat) (w:World) (m:Nat) (s:Sg) (V:World):Prop where
 st0:∃ s0,Sd rb tv ts en s0 w
 st:Sd rb tv ts en s V
 gr:w.grownBy V (some rb)
 le:m<=s.1
theorem Rq.start (h:Sd rb tv ts en s w):Rq rb tv ts en w s.1 s w:=⟨⟨s,h⟩,h,Ah w _,Nat.le_refl _⟩
variable {m b j:Nat} {u:Value}
theorem Rq.rlt (h:Rq rb tv ts en w m s V):rb < w.heap.size:=by obtain ⟨b,a⟩:=h.st0;exact a.lt
theorem Rq.size (h:Rq rb tv ts en w m s V):w.heap.size<=V.heap.size:=h.gr.size
theorem Rq.call (h:Rq rb tv ts en w m s V) (hg:V.grownBy V' (some rb)) (hs:Sd rb tv ts en s' V') (hl:s.1<=s'.1):Rq rb tv ts en w m s' V':=⟨h.st0,hs,Ab h.gr hg,Nat.le_trans h.le hl⟩
theorem Rq.over (h:Rq rb tv ts en w m s V) (hb:Ov V V'):Rq rb tv ts en w m s V':=⟨h.st0,h.st.below hb,Ab h.gr (Ad hb),h.le⟩
theorem Rq.set (h:Rq rb tv ts en w m s V) (hb:w.heap.size<=b):Rq rb tv ts en w m s (V.setCell ⟨b,j,none⟩ u):=by
 obtain ⟨f,a⟩:=h.st0;have hr:=a.lt;have c:=Ak h.gr (p:=⟨b,j,none⟩) hb u;exact ⟨⟨f,a⟩,a.keep c (by rw [Below.heap_setCell _ _ _ _ (by show rb≠b;omega)];exact h.st.1) h.st.2.1,c,h.le⟩
theorem Rq.row {B T q k:Nat} {v:Value} {xs:List Value} (h:Rq rb tv ts en w m s V) (ho:V.ownsRow B T q v k xs) (hB:w.heap.size<=B) (hg:V.grownBy V' v.ownBlock):Rq rb tv ts en w m s V':=by
 obtain ⟨j,g⟩:=h.st0;have hr:=g.lt;have b:∀ i,i < w.heap.size->some i≠v.ownBlock:=fun i f e=>by have:=(AO ho e.symm).1;omega
 have a:=h.gr;have c:w.grownBy V' (some rb):=⟨hg.os.trans a.os,hg.tape.trans a.tape,hg.output.trans a.output,Nat.le_trans a.size hg.size,fun i f l=>(hg.block i (Nat.lt_of_lt_of_le f a.size) (b i f)).trans (a.block i f l)⟩;exact ⟨⟨j,g⟩,g.keep c (by rw [hg.block rb (Nat.lt_of_lt_of_le hr a.size) (b rb hr)];exact h.st.1) h.st.2.1,c,h.le⟩
theorem Rq.box (h:Rq rb tv ts en w m s V) (hg:V.grownBy V' (some b)) (hb:w.heap.size<=b):Rq rb tv ts en w m s V':=by
 obtain ⟨j,f⟩:=h.st0;have hr:=f.lt;have a:=h.gr;have c:w.grownBy V' (some rb):=⟨hg.os.trans a.os,hg.tape.trans a.tape,hg.output.trans a.output,Nat.le_trans a.size hg.size,fun i g l=>(hg.block i (Nat.lt_of_lt_of_le g a.size) (fun e=>by injection e with e;omega)).trans (a.block i g l)⟩;exact ⟨⟨j,f⟩,f.keep c (by rw [hg.block rb (Nat.lt_of_lt_of_le hr a.size) (fun e=>by injection e with e;omega)];exact h.st.1) h.st.2.1,c,h.le⟩
theorem Hz {x y z:World} {r b:Nat} (h:x.grownBy y (some r)) (hg:y.grownBy z (some b)) (hb:x.heap.size<=b):x.grownBy z (some r):=
 ⟨hg.os.trans h.os,hg.tape.trans h.tape,hg.output.trans h.output,Nat.le_trans h.size hg.size,fun i hi hn=>(hg.block i (Nat.lt_of_lt_of_le hi h.size) (fun e=>by injection e with e;omega)).trans (h.block i hi hn)⟩
def Qo (rb:Nat) (tv:Value) (ts:List Tok) (en:Nat) (w:World) (s s':Sg) (w':World):Prop:=w.grownBy w' (some rb)/\Sd rb tv ts en s' w'/\s.1<=s'.1
theorem Qo.rq (h:Rq rb tv ts en w m s V) (hq:Qo rb tv ts en V s s' V'):Rq rb tv ts en w m s' V':=h.call hq.1 hq.2.1 hq.2.2
theorem DZ (s:Sg) (w:World) (h:Sd rb tv ts en s w):Ro 28 #[zf (some ⟨rb,0,none⟩)] w (I O (Av ts en s.1)):=by
 obtain ⟨B,A,y,x,-,-⟩:=h.cells;obtain ⟨n,v⟩:=s;obtain ⟨_,r,u,C,l,rfl,f⟩:=h;dsimp only at *;by_cases hlt:n < ts.length
 ·obtain ⟨b,i,rfl,j,c⟩:=f (by rintro rfl;simp at hlt)
  obtain ⟨q0,q1,g⟩:=ET c hlt;have a:Av ts en n=ts[n].pos:=by simp [Av,hlt]
  rw [a];clear a c f q0 g;go_enter Tryz.func28,Tryz.ntmps28
  go_wp2
  go_quiet ((fail))
  go_wp2
  go_quiet ((fail))
  go_wp2
  go_ret;exact ⟨rfl,below_drewN (below_drewN (Below.refl _ w) _) _⟩
 ·have a:Av ts en n=en:=by simp [Av,hlt]
  rw [a];clear a f;go_enter Tryz.func28,Tryz.ntmps28
  go_wp2
  go_quiet ((fail))
  go_wp2
  go_ret;exact ⟨rfl,below_drewN (Below.refl _ w) _⟩
theorem BO (k:Nat) (hk:k<=1) (s:Sg) (w:World) (h:Sd rb tv ts en s w):Ro 57 #[zf (some ⟨rb,0,none⟩),I O (k:Int)] w (.string (tx ts s k)):=by
 obtain ⟨F,E,C,B,-,-⟩:=h.cells;obtain ⟨n,v⟩:=s;obtain ⟨_,y,A,G,x,rfl,f⟩:=h;dsimp only at *
 cases v with
 | true=>
  have a:tx ts (n,true) k=⟨#[]⟩:=rfl;rw [a];clear a f;go_enter Tryz.func57,Tryz.ntmps57
  go_wp2
  go_quiet ((fail))
  go_wp2
  go_ret;exact ⟨rfl,below_drewN (Below.refl _ w) _⟩
 | false=>
  by_cases hlt:n+k < ts.length
  ·obtain ⟨b,j,rfl,u,c⟩:=f (by rintro rfl;simp at hlt)
   obtain ⟨q0,q1,i⟩:=ET c hlt;have a:tx ts (n,false) k=ts[n+k].text:=by simp [tx,Ag,hlt]
   rw [a];generalize ts[n+k].text=tt at i ⊢;clear a c f q0 q1;generalize ts.length=nl at *;have l:(n:Int)+(k:Int) < (nl:Int):=by omega
   have r:decide ((nl:Int)<=(n:Int)+(k:Int))=false:=by simp;omega
   have g:decide (nl<=n+k)=false:=by simp;omega
   go_enter Tryz.func57,Tryz.ntmps57
   go_wp2
   go_quiet ((fail))
   go_wp2
   go_quiet ((fail))
   go_wp2
   go_ret;exact ⟨rfl,below_drewN (below_drewN (Below.refl _ w) _) _⟩
  ·have a:tx ts (n,false) k=⟨#[]⟩:=by simp [tx,Ag,hlt]
   rw [a];clear a f;generalize ts.length=nl at *;have l:¬ (n:Int)+(k:Int) < (nl:Int):=by omega
   have r:decide ((nl:Int)<=(n:Int)+(k:Int))=true:=by simp;omega
   have g:decide (nl<=n+k)=true:=by simp;omega
   go_enter Tryz.func57,Tryz.ntmps57
   go_wp2
   go_quiet ((fail))
   go_wp2
   go_ret;exact ⟨rfl,below_drewN (Below.refl _ w) _⟩
theorem L6 (a b:List UInt8):(a == b)=decide (a=b):=by by_cases h:a=b <;> simp [h]
theorem teq (t x:ByteArray):(t.toList == x.toList)=decide (t.data.toList=x.data.toList):=by
 rw [ByteArray.toList_eq,ByteArray.toList_eq];exact L6 _ _
theorem J6 (t:ByteArray) (l:List UInt8):(t.toList == l)=decide (t.data.toList=l):=by
 rw [ByteArray.toList_eq];exact L6 _ _
theorem G7 {t:ByteArray} {s:Sg} {k:Nat} {l:List UInt8} (ht:t=tx ts s k) (h:tl ts s k=l):(t.toList == l)=true:=by
 rw [J6,ht];exact decide_eq_true h
theorem DB {t:ByteArray} {s:Sg} {k:Nat} {l:List UInt8} (ht:t=tx ts s k) (h:¬ tl ts s k=l):(t.toList == l)=false:=by
 rw [J6,ht];exact decide_eq_false h
theorem I5 {s:Sg} {k:Nat} (h:tl ts s k≠[]):s.2=false/\s.1+k < ts.length:=by
 unfold tl tx at h;split at h
 ·exact absurd rfl h
 ·rename_i a
  exact ⟨by simpa using a,Cm h⟩
theorem Qa (x:ByteArray) (hx:x.data.toList≠[]) (s:Sg) (w:World) (h:Sd rb tv ts en s w):Calls Tryz.prog 26 #[zf (some ⟨rb,0,none⟩),.string x] w fun e w'=>e=zh (zi #[])/\Qo rb tv ts en w s (AB ts x.data.toList s) w':=by
 obtain ⟨y,v,u,F,j,i⟩:=h.cells;obtain ⟨n,J⟩:=s;dsimp only at *
 cases J with
 | true=>
  have a:AB ts x.data.toList (n,true)=(n,true):=rfl;rw [a];have A:=Aa h;clear a h hx j i;go_enter Tryz.func26,Tryz.ntmps26;go_wp2_with fail;refine bodyPost_ret (results_none rfl _ _ _) rfl ?_;exact ⟨rfl,Ah w _,A.o,Nat.le_refl _⟩
 | false=>
  obtain ⟨t,f⟩:=nm (tx ts (n,false) 0);have KT:Hx (Ro 57 #[zf (some ⟨rb,0,none⟩),I O 0] w (.string t)):=by rw [f];exact BO 0 (by omega) (n,false) w h
  have A:=Aa h;have H:n<=6000:=Nat.le_trans h.2.1 h.2.2.1;by_cases hq:t.data.toList=x.data.toList
  ·have a:AB ts x.data.toList (n,false)=(n+1,false):=by unfold AB tl;rw [if_neg (by simp),<-f,if_pos hq]
   have g:n < ts.length:=(I5 (ts:=ts) (s:=(n,false)) (k:=0) (by unfold tl;rw [<-f,hq];exact hx)).2;rw [a];have C:=Aa g;have B:(t.toList == x.toList)=true:=by rw [teq];simpa using hq
   clear a h hx f hq g y v u j i;go_enter Tryz.func26,Tryz.ntmps26;go_wp2_with fail;refine KT.o.mono ?_;rintro e G ⟨rfl,b⟩;have c:=A.o.below b;obtain ⟨y,v,u,F,j,i⟩:=c.cells;have l:=Aa (c.next C.o);have E:=Aa (Ad (r:=some rb) b);clear b c KT;dsimp only at *;go_wp2_with fail;go_end0;exact ⟨rfl,Ab E.o l.o.2,l.o.1,Nat.le_succ _⟩
  ·have a:AB ts x.data.toList (n,false)=(n,true):=by unfold AB tl;rw [if_neg (by simp),<-f,if_neg hq]
   rw [a];have B:(t.toList == x.toList)=false:=by rw [teq];simpa using hq
   clear a h hx f hq y v u j i;go_enter Tryz.func26,Tryz.ntmps26;go_wp2_with fail;refine KT.o.mono ?_;rintro e G ⟨rfl,b⟩;have c:=A.o.below b;obtain ⟨y,v,u,F,j,i⟩:=c.cells;have l:=Aa c.fail;have E:=Aa (Ad (r:=some rb) b);clear b c KT;dsimp only at *;go_wp2_with fail;go_end0;exact ⟨rfl,Ab E.o l.o.2,l.o.1,Nat.le_refl _⟩
end
end Go.Proofs.YtipngnjffjajpaaGreatDoor.Tx
