/- Package show's Same: its maps made; trees of which one has no declarations. -/
import Derived.Test.YtipngnjffjajpaaGreatDoorK29
import Derived.Test.YtipngnjffjajpaaGreatDoorK28
import Derived.Shelf.Strconv.Itoa4
import Derived.Lib.UnsafeStr
set_option linter.unusedVariables false
set_option maxHeartbeats 8000000
set_option maxRecDepth 100000
namespace Go.Proofs.YtipngnjffjajpaaGreatDoor.Tx
open Go.RowKit
open Go.Value renaming int -> O, slice -> zd, bool -> ze, agg -> zf, pointer -> zh, tuple -> zj
open Go.IntKind renaming i64 -> zc
open Go.Obj renaming cells -> zg
open Go.Ending renaming returned -> zi
theorem Sn {w w':World} {i j:Nat} {T:Array Value} {k:Nat} (hi:i=w.heap.size) (hj:j=w.heap.size+1) (h:w'=((w.alloc (.map #[] 0)).alloc (.map #[] 0)).alloc (.cells T k)):SW w i j w':=by
 subst h hi hj;have b:=heap_alloc_new w (.map #[] 0);have a:=heap_alloc_new (w.alloc (.map #[] 0)) (.map #[] 0);have l0:w.heap.size < (w.alloc (.map #[] 0)).heap.size:=by rw [alS];omega
 have l1:w.heap.size < ((w.alloc (.map #[] 0)).alloc (.map #[] 0)).heap.size:=by rw [alS];omega
 have c:w.heap.size+1 < ((w.alloc (.map #[] 0)).alloc (.map #[] 0)).heap.size:=by rw [alS,alS];omega
 rw [alS] at a;replace b:=(Lib.alloc_old _ (.cells T k) _ l1).trans ((Lib.alloc_old _ (.map #[] 0) _ l0).trans b);replace a:=(Lib.alloc_old _ (.cells T k) _ c).trans a;exact ⟨Ab (Ab (bA _ _) (bA _ _)) (bA _ _),by omega,Nat.le_refl _,by omega,⟨#[],0,b,fun _ h=>by cases h⟩,⟨#[],0,a,fun _ h=>by cases h⟩⟩
theorem Mi (a:Option Addr) (n c:Nat) (a2:Option Addr) (n2 c2:Nat) (b:Option Addr) (m d:Nat) (b2:Option Addr) (m3 d2:Nat) (w:World) (r:Bool) (hK:∀ W m1 m2 X,Ov w W->SW W m1 m2 X->Calls Tryz.prog 49 #[zf #[.map (some m1),.map (some m2)],zf #[zd a n c,zd a2 n2 c2],zf #[zd b m d,zd b2 m3 d2]] X fun e w'=>e=zi (ze r)/\Ov W w') :
  Ro 22 #[zf #[zd a n c,zd a2 n2 c2],zf #[zd b m d,zd b2 m3 d2]] w (ze r):=by
 have j:=Aa hK;clear hK;have g:=run_makeMap (P:=Tryz.prog) 86 ((w.alloc (zg #[zd a n c,zd a2 n2 c2] 25)).alloc (zg #[zd b m d,zd b2 m3 d2] 25));have f:=run_makeMap (P:=Tryz.prog) 87 (((w.alloc (zg #[zd a n c,zd a2 n2 c2] 25)).alloc (zg #[zd b m d,zd b2 m3 d2] 25)).alloc (.map #[] 0));go_enter Tryz.func22,Tryz.ntmps22;go_wp2_with fail;refine mo (j.o ((w.alloc (zg #[zd a n c,zd a2 n2 c2] 25)).alloc (zg #[zd b m d,zd b2 m3 d2] 25)) _ _ _ (Ab (bA _ _) (bA _ _)) (Sn (by simp only [alS]) (by simp only [alS]) rfl)) fun l i=>?_;have u:Hx (Ov w l):=Ab (Ab (bA _ _) (bA _ _)) i;clear i j g f;go_wp2_with fail;go_ret;exact ⟨rfl,u.o⟩
theorem Qf (a:Option Addr) (n c:Nat) (b:Option Addr) (m d:Nat) (f:Value) (w:World) (hn:n<=maxLen) (hm:m<=maxLen) (h:n≠m):Ro 89 #[zd a n c,zd b m d,f] w (ze false):=by
 have g:n<=9223372036854775807:=hn;have i:m<=9223372036854775807:=hm;have j:¬ (n:Int)=(m:Int):=by omega
 clear hn hm;go_enter Tryz.func89,Tryz.ntmps89;go_wp2_with fail;go_ret;exact ⟨rfl,Below.refl _ _⟩
theorem PN (a:Option Addr) (n c:Nat) (a2:Option Addr) (n2 c2:Nat) (b:Option Addr) (m d:Nat) (b2:Option Addr) (m3 d2:Nat) (w:World) (hn:n<=maxLen) (hm:m<=maxLen) (h:n≠m) :
  Ro 22 #[zf #[zd a n c,zd a2 n2 c2],zf #[zd b m d,zd b2 m3 d2]] w (ze false):=by
 refine Mi a n c a2 n2 c2 b m d b2 m3 d2 w false fun W x v X hW i=>?_;have l:=Aa i;have j:Hx (∀ f Y,Ro 89 #[zd a n c,zd b m d,f] Y (ze false)):=fun f Y=>Qf a n c b m d f Y hn hm h;clear hn hm h i;go_enter Tryz.func49,Tryz.ntmps49;go_wp2_with fail;refine mo (j.o _ _) fun r g=>?_;have u:Hx (Ov W r):=Ab l.o.ov (Ab (Ab (Ab (bA _ _) (bA _ _)) (bA _ _)) g);clear g j l;go_wp2_with fail;go_ret;exact ⟨rfl,u.o⟩
theorem LS.fr {α:Type} {s:Nat} {R:List Value->α->Prop} {w:World} {ao:Option Addr} {n c:Nat} {l:List α} (h:LS s R w (zd ao n c) l) (hs:0 < s) (hl:l≠[]):∃ b off,ao=some ⟨b,off,none⟩/\Fr0 w ⟨b,off,none⟩:=by
 obtain ⟨b,off,rfl,i⟩:=h.fz hl;obtain ⟨x,f,e,g,v,a,-⟩:=h.at (j:=0) (List.length_pos_iff.2 hl);simp only [Option.some.injEq,Addr.mk.injEq,and_true] at e;obtain ⟨rfl,rfl⟩:=e;obtain ⟨u,r⟩:∃ u,g[0]? = some u:=⟨g[0]'(by omega),List.getElem?_eq_getElem (by omega)⟩;exact ⟨b,off,rfl,by simpa using i.2 0 (Nat.mul_pos (List.length_pos_iff.2 hl) hs),Cbl.of_cell (a 0 u r)⟩
section
variable (w0:World) (m1 m2:Nat)
def QD (k:Nat):Prop:=∀ (cs ct:List Value) (d e:D) (X:World),SW w0 m1 m2 X->ZE w0 k cs d->ZE w0 k ct e->seK false k d e=true->TC w0 m1 m2 128 #[zf #[.map (some m1),.map (some m2)],.agg cs.toArray,.agg ct.toArray] X
def QE (ke k:Nat):Prop:=∀ (cs ct:List Value) (d e:D) (X:World),SW w0 m1 m2 X->ZC w0 ke k cs d->ZC w0 ke k ct e->ssK false ke k d e=true->TC w0 m1 m2 130 #[zf #[.map (some m1),.map (some m2)],.agg cs.toArray,.agg ct.toArray] X
variable {w0 m1 m2}
theorem JX {k:Nat} (hE:QD w0 m1 m2 k) (l m:List D) (ao bo:Option Addr) (c d:Nat) (X:World) (hX:SW w0 m1 m2 X) (hA:LS 5 (ZE w0 k) w0 (zd ao l.length c) l) (hB:LS 5 (ZE w0 k) w0 (zd bo m.length d) m) (hs:all2 (seK false k) l m=true):TC w0 m1 m2 152 #[zf #[.map (some m1),.map (some m2)],zd ao l.length c,zd bo m.length d] X:=by
 refine sEs w0 m1 m2 _ _ X hX fun Y g=>?_;have a:=BM hs;rw [<-a] at hB ⊢;by_cases hl:l=[]
 ·subst hl
  exact PI w0 m1 m2 _ ao bo c d Y g
 ·have u:m≠[]:=by
   rintro rfl;exact hl (List.length_eq_zero_iff.1 a)
  obtain ⟨b,i,rfl,y⟩:=hA.fr (by decide) hl;obtain ⟨C,f,rfl,r⟩:=hB.fr (by decide) u;exact RM w0 m1 m2 _ l.length b i c C f d Y g (y.over g.ov) (r.over g.ov) (List.length_pos_iff.2 hl) hA.1 fun Z v=>Sw w0 m1 m2 k l m a.symm _ _ c d hA hB (fun j h r B A V x hr n=>hE B A _ _ V x hr n (Dw hs j h r)) Z v
theorem FE {ke k:Nat} (hE:QE w0 m1 m2 ke k) (l m:List D) (ao bo:Option Addr) (c d:Nat) (X:World) (hX:SW w0 m1 m2 X) (hA:LS 12 (ZC w0 ke k) w0 (zd ao l.length c) l) (hB:LS 12 (ZC w0 ke k) w0 (zd bo m.length d) m) (hs:all2 (ssK false ke k) l m=true):TC w0 m1 m2 91 #[zf #[.map (some m1),.map (some m2)],zd ao l.length c,zd bo m.length d] X:=by
 refine sCs w0 m1 m2 _ _ X hX fun Y g=>?_;have a:=BM hs;rw [<-a] at hB ⊢;by_cases hl:l=[]
 ·subst hl
  exact PG w0 m1 m2 _ ao bo c d Y g
 ·have u:m≠[]:=by
   rintro rfl;exact hl (List.length_eq_zero_iff.1 a)
  obtain ⟨b,i,rfl,y⟩:=hA.fr (by decide) hl;obtain ⟨C,f,rfl,r⟩:=hB.fr (by decide) u;exact RL w0 m1 m2 _ l.length b i c C f d Y g (y.over g.ov) (r.over g.ov) (List.length_pos_iff.2 hl) hA.1 fun Z v=>Sy w0 m1 m2 ke k l m a.symm _ _ c d hA hB (fun j h r B A V x hr n=>hE B A _ _ V x hr n (Dw hs j h r)) Z v
theorem GF:∀ k,QD w0 m1 m2 k
 | 0=>fun cs ct d e X hX h1 _ _=>h1.elim
 | k+1=>fun cs ct d e X hX h1 h2 hq=>by
  obtain ⟨kd,a,n,x,ao,c,ds,rfl,rfl,-,hA⟩:=h1;obtain ⟨kd9,a9,n9,x9,bo,c9,es,rfl,rfl,-,hB⟩:=h2;simp only [seK,gEe,Bool.and_eq_true,decide_eq_true_eq] at hq;obtain ⟨⟨⟨⟨rfl,rfl⟩,hx⟩,-⟩,hs⟩:=hq;obtain rfl:x=x9:=by have:=An hx;rw [this]
  exact sE w0 m1 m2 kd a a9 n x ao _ c bo _ c9 X hX fun Y b=>JX (GF k) ds es ao bo c c9 Y b hA hB hs
theorem GG (ke:Nat):∀ k,QE w0 m1 m2 ke k
 | 0=>fun cs ct d e X hX h1 _ _=>h1.elim
 | k+1=>fun cs ct d e X hX h1 h2 hq=>by
  obtain ⟨kd,a,x,y,e0,e1,e2,e3,q,q1,q2,e,aA,cA,args,aT,cT,th,aE,cE,el,rfl,rfl,-,-,he,hA,hT,hE⟩:=h1;obtain ⟨kd9,a9,x9,y9,f0,f1,f2,f3,t,t1,t2,e9,bA9,bcA,args9,bT,bcT,th9,bE,bcE,el9,rfl,rfl,-,-,he9,hA9,hT9,hE9⟩:=h2;simp only [ssK,gSs,Bool.and_eq_true,decide_eq_true_eq] at hq;obtain ⟨⟨⟨⟨⟨⟨⟨rfl,-⟩,hx⟩,hy⟩,qe⟩,qa⟩,qt⟩,ql⟩:=hq;obtain rfl:x=x9:=by have:=An hx;rw [this]
  obtain rfl:y=y9:=by have:=An hy;rw [this]
  exact sC w0 m1 m2 kd a a9 x y e0 e1 e2 e3 q q1 q2 aA _ cA aT _ cT aE _ cE f0 f1 f2 f3 t t1 t2 bA9 _ bcA bT _ bcT bE _ bcE X hX (fun Y b=>GF ke _ _ e e9 Y b he he9 qe) (fun Y b=>JX (GF ke) args args9 aA bA9 cA bcA Y b hA hA9 qa) (fun Y b=>FE (GG ke k) th th9 aT bT cT bcT Y b hT hT9 qt) fun Y b=>FE (GG ke k) el el9 aE bE cE bcE Y b hE hE9 ql
theorem G2 (ns ms:List ByteArray) (ao bo:Option Addr) (c d:Nat) (X:World) (hX:SW w0 m1 m2 X) (hA:LS 1 ZN w0 (zd ao ns.length c) ns) (hB:LS 1 ZN w0 (zd bo ms.length d) ms) (hs:ns=ms):TC w0 m1 m2 127 #[zd ao ns.length c,zd bo ms.length d] X:=by
 subst hs;exact RP hX (R6 ns ao bo c d X (Bu hX.ov hA) (Bu hX.ov hB))
theorem PP (cs ct:List Value) (d e:D) (X:World) (hX:SW w0 m1 m2 X) (h1:ZP w0 cs d) (h2:ZP w0 ct e) (hq:spD false d e=true):TC w0 m1 m2 126 #[.agg cs.toArray,.agg ct.toArray] X:=by
 obtain ⟨a,o,wr,j,i,r,rfl,rfl,-,y⟩:=h1;obtain ⟨A,n,l,c,b,f,rfl,rfl,-,g⟩:=h2;simp only [spD,gPp,Bool.and_eq_true,decide_eq_true_eq] at hq;obtain ⟨⟨⟨-,u⟩,rfl⟩,v⟩:=hq;obtain rfl:o=n:=by have:=An u;rw [this]
 exact sP w0 m1 m2 a A o wr j _ i c _ b X hX fun Y x=>G2 r f j c i b Y x y g (JG v)
theorem PQ (ke kc:Nat) (cs ct:List Value) (d e:D) (X:World) (hX:SW w0 m1 m2 X) (h1:ZD w0 ke kc cs d) (h2:ZD w0 ke kc ct e) (hq:sdK false ke kc d e=true):TC w0 m1 m2 90 #[zf #[.map (some m1),.map (some m2)],.agg cs.toArray,.agg ct.toArray] X:=by
 obtain ⟨kd,a,x,y,gv,P,M,lb,O,L,ps,Q,N,u,e0,e1,e2,e3,q,q1,q2,r,rfl,rfl,-,-,hL,hP,hB,hr⟩:=h1;obtain ⟨af,a9,S,R,an,A,l,E,v,i,C,B,n,g,f0,f1,f2,f3,t,U,T,W,rfl,rfl,-,-,I,H,J,F⟩:=h2;simp only [sdK,gDd,Bool.and_eq_true,decide_eq_true_eq] at hq;obtain ⟨⟨⟨⟨⟨⟨⟨⟨rfl,-⟩,hx⟩,hy⟩,rfl⟩,K⟩,qp⟩,qb⟩,Z⟩:=hq;obtain rfl:x=S:=by have:=An hx;rw [this]
 obtain rfl:y=R:=by have:=An hy;rw [this]
 have c:=BM K;have b:=I;rw [<-c] at b;exact sD w0 m1 m2 kd a a9 x y gv P _ M O _ L Q _ N e0 e1 e2 e3 q q1 q2 A _ l v _ i B _ n f0 f1 f2 f3 t U T X hX (fun Y f=>by rw [<-c];exact Sv w0 m1 m2 lb E c.symm P A M l hL b (fun j h h2 cs ct V hV hr G=>PP cs ct _ _ V hV hr G (Dw K j h h2)) Y f) (fun Y f=>G2 ps C O v L i Y f hP H (JG qp)) (fun Y f=>FE (GG ke kc) u g Q B N n Y f hB J qb) fun Y f=>GF ke _ _ r W Y f hr F Z
end
theorem QQ (ke kc:Nat) (ds l ds' l':List D) (v v':Value) (w:World) (h1:ZT w ke kc v ds l) (h2:ZT w ke kc v' ds' l') (hq:stK false ke kc ds l ds' l'=true):Ro 22 #[v,v'] w (ze true):=by
 obtain ⟨a,c,E,B,rfl,y,x⟩:=h1;obtain ⟨b,d,C,A,rfl,i,g⟩:=h2;simp only [stK,Bool.and_eq_true] at hq;obtain ⟨F,I⟩:=hq;have f:=BM F;refine Mi a _ c E _ B b _ d C _ A w true fun W H G X hW J=>?_;replace y:=Ha hW y;replace x:=Ar hW x;replace i:=Ha hW i;replace g:=Ar hW g;have n:=i;rw [<-f] at n;refine (sT W H G a _ c E _ B b _ d C _ A X J (fun Y u=>?_) fun Y u=>FE (GG ke kc) l l' E C B A Y u x g I).mono fun e N h=>⟨h.1,h.2.1.ov⟩;rw [<-f];exact Sx W H G ke kc ds ds' f.symm a b c d y n (fun j h h2 M L V K hr r=>PQ ke kc M L _ _ V K hr r (Dw F j h h2)) Y u
def AB (x:List UInt8):List (List UInt8)->List UInt8
 | []=>[]
 | [a]=>a
 | a::b::l=>a++x++AB x (b::l)
def BP (k:Int):List UInt8:=
 if k=3 then [32,43,32] else if k=4 then [32,45,32] else if k=5 then [32,42,32] else if k=6 then [32,60,32] else [32,61,61,32]
def exT:Nat->D->List UInt8
 | 0,_=>[]
 | k+1,d=>if gI 0 d=1 then Lib.itoa (gI 2 d) else if gI 0 d=2 then gZ 3 d else [40]++AB (BP (gI 0 d)) ((gL 4 d).map (exT k))++[41]
def inT (deep:Nat):List UInt8:=(List.replicate deep [32,32]).flatten
def cmT (ke:Nat):Nat->Nat->D->List UInt8
 | 0,_,_=>[]
 | k+1,deep,d=>
  let i:=inT deep
  let e:=exT ke (gD 4 d)
  let body:=fun l:List D=>(l.map (cmT ke k (deep+1))).flatten
  if gI 0 d=1 then i++gZ 2 d++[32,61,32]++e++[59,10]
  else if gI 0 d=2 then i++gZ 2 d++[32,61,32]++gZ 3 d++[40]++AB [44,32] ((gL 5 d).map (exT ke))++[41,59,10]
  else if gI 0 d=3 then i++[103,101,116,32]++gZ 2 d++[32]++gZ 3 d++[59,10]
  else if gI 0 d=4 then i++[112,117,116,32]++gZ 3 d++[32]++e++[59,10]
  else if gI 0 d=5 then i++[114,101,118,101,97,108,32]++gZ 2 d++[32]++e++[59,10]
  else if gI 0 d=6 then i++[116,114,117,115,116,32]++gZ 2 d++[32]++e++[59,10]
  else (if gI 0 d=7 then i++[105,102,32] else i++[119,104,105,108,101,32])++e++[32,123,10]++body (gL 6 d)
   ++ (if gL 7 d=[] then [] else i++[125,32,101,108,115,101,32,123,10]++body (gL 7 d))++i++[125,10]
def AO (ke k deep:Nat) (l:List D):List UInt8:=(l.map (cmT ke k deep)).flatten
def poT (d:D):List UInt8:=gZ 1 d++(if gB 2 d=true then [33] else [58])++(if gL 3 d=[] then [] else [32]++AB [44,32] ((gL 3 d).map asS))
def laT (d:D):List UInt8:=if gB 4 d=true then [32,123]++AB [59,32] ((gL 5 d).map poT)++[125] else []
def wdT (k:Int):List UInt8:=
 if k=1 then [97,99,116,111,114,32] else if k=2 then [103,114,97,110,116,32] else if k=3 then [115,112,101,97,107,32] else if k=4 then [105,110,32] else if k=5 then [111,117,116,32] else if k=6 then [118,97,114,32] else [102,117,110,99,32]
def deT (ke kc:Nat) (d:D):List UInt8:=
 if gI 0 d=7 then wdT 7++gZ 2 d++[40]++AB [44,32] ((gL 6 d).map asS)++[41,32,123,10]++AO ke kc 1 (gL 7 d)++[32,32,114,101,116,117,114,110,32]++exT ke (gD 8 d)++[59,10,125,10]
 else wdT (gI 0 d)++gZ 2 d++(if gI 0 d=2 then [32]++gZ 3 d else [])++laT d++[59,10]
def trT (ke kc:Nat) (ds l:List D):List UInt8:=(ds.map (deT ke kc)).flatten++[109,97,105,110,32,123,10]++AO ke kc 1 l++[125,10]
theorem JK:trT 61 (2*(Aq Da).length+3) Ee EE=Da.data.toList:=by kernel_rfl
def Dq (B b:Nat) (deep:Int) (p:Value) (bs:List Value) (w:World):Prop:=
 B<=b/\∃ v,w.heap[b]? = some (zg #[p,v,O zc deep] 79 (0,0))/\w.ownsRow B 5 1 v bs.length bs/\v.ownBlock≠some b
def Bf (B b:Nat) (deep:Int) (bs:List Value) (w:World):Prop:=Dq B b deep (zh none) bs w\/Dq B b deep (zh (some ⟨b,0,none⟩)) bs w
def Ax (w w':World):Prop:=∀ (g:Nat) (cs:Array Value) (T:TypeId) (fr:Nat × Nat),w.heap[g]? = some (Obj.cells cs T fr)->T≠79->T≠5->w'.heap[g]? = some (Obj.cells cs T fr)
theorem Ax.refl (w:World):Ax w w:=fun _ _ _ _ h _ _=>h
theorem Ax.trans {a b c:World} (h:Ax a b) (k:Ax b c):Ax a c:=fun g cs T fr hg h1 h2=>k g cs T fr (h g cs T fr hg h1 h2) h1 h2
theorem Ax.alloc (w:World) (o:Obj):Ax w (w.alloc o):=fun g cs T fr hg _ _=>by
 rw [Below.heap_alloc _ _ _ (Array.getElem?_eq_some_iff.1 hg).1];exact hg
theorem Ax.over {w w':World} (h:Ov w w'):Ax w w':=fun g cs T fr hg _ _=>by
 rw [h.block g (Array.getElem?_eq_some_iff.1 hg).1];exact hg
theorem Ax.setCell {w:World} {b:Nat} {cs:Array Value} {fr:Nat × Nat} (hb:w.heap[b]? = some (.cells cs 79 fr)) (o:Nat) (v:Value):Ax w (w.setCell ⟨b,o,none⟩ v):=fun g cs' T fr' hg h1 _=>by
 rw [Below.heap_setCell _ _ _ _ (fun e=>?_)]
 ·exact hg
 ·simp only at e
  rw [e] at hg;rw [hg] at hb;simp at hb;exact h1 hb.2.1
theorem Ax.grown {w w':World} {B:Nat} {v:Value} {n:Nat} {xs:List Value} (hown:w.ownsRow B 5 1 v n xs) (hg:w.grownBy w' v.ownBlock):Ax w w':=fun g cs T fr hh _ h2=>by
 rw [hg.block g (Array.getElem?_eq_some_iff.1 hh).1 (fun e=>?_)]
 ·exact hh
 ·rcases hown.2 with ⟨rfl,_⟩ | ⟨g',cap,cur,rfl,_,hk,_⟩
  ·simp [Value.ownBlock] at e
  ·simp [Value.ownBlock] at e
   subst e;rw [hk] at hh;simp at hh;exact h2 hh.2.1.symm
theorem Dq.cells {B b:Nat} {deep:Int} {p:Value} {bs:List Value} {w:World} (h:Dq B b deep p bs w):w.cell? ⟨b,0,none⟩=some p/\w.frozen? ⟨b,0,none⟩=false/\w.shape? b=some (79,3)/\w.cell? ⟨b,2,none⟩=some (O zc deep)/\w.frozen? ⟨b,2,none⟩=false/\b < w.heap.size:=by
 obtain ⟨_,v,a,_⟩:=h;refine ⟨by rw [Lib.cell_of_heap a];rfl,Lib.frozen_of_heap a 0,by simp [World.shape?,a],by rw [Lib.cell_of_heap a];rfl,Lib.frozen_of_heap a 2,Cl a⟩
theorem I3 {w:World} {B b o:Nat} {q v:Value} {bs:List Value} (hown:w.ownsRow B 5 1 v bs.length bs) (hne:v.ownBlock≠some b):(w.setCell ⟨b,o,none⟩ q).ownsRow B 5 1 v bs.length bs:=
 hown.kept (row:=some b) ⟨rfl,rfl,rfl,by simp [World.setCell],fun k _ hk=>Below.heap_setCell _ _ _ _ (fun e=>hk (by simp [e]))⟩ (Or.inr hne)
theorem Dq.used {B b:Nat} {deep:Int} {p:Value} {bs:List Value} {w:World} (h:Dq B b deep p bs w) (q:Value):Dq B b deep q bs (w.setCell ⟨b,0,none⟩ q):=by
 obtain ⟨g,v,f,a,c⟩:=h;exact ⟨g,v,by simp [World.setCell,Array.getElem?_modify,f],I3 a c,c⟩
theorem Dq.move {B b:Nat} {deep:Int} {p:Value} {bs:List Value} {w:World} (h:Dq B b deep p bs w) (d:Int):Dq B b d p bs (w.setCell ⟨b,2,none⟩ (O zc d)):=by
 obtain ⟨g,v,f,a,c⟩:=h;exact ⟨g,v,by simp [World.setCell,Array.getElem?_modify,f],I3 a c,c⟩
theorem Dq.put {B b:Nat} {deep:Int} {p v v':Value} {bs':List Value} {w:World} (hB:B<=b) (hb:w.heap[b]? = some (zg #[p,v,O zc deep] 79 (0,0))) (hown:w.ownsRow B 5 1 v' bs'.length bs'):Dq B b deep p bs' (w.setCell ⟨b,1,none⟩ v'):=by
 have a:=Lib.ownBlock_ne hown hb (by decide);exact ⟨hB,v',by simp [World.setCell,Array.getElem?_modify,hb],I3 hown a,a⟩
theorem Dq.alloc {B b:Nat} {deep:Int} {p:Value} {bs:List Value} {w:World} (h:Dq B b deep p bs w) (o:Obj):Dq B b deep p bs (w.alloc o):=by
 obtain ⟨g,v,f,a,c⟩:=h;exact ⟨g,v,(Lib.alloc_old w _ b (Cl f)).trans f,a.alloc _,c⟩
theorem Bf.alloc {B b:Nat} {deep:Int} {bs:List Value} {w:World} (h:Bf B b deep bs w) (o:Obj):Bf B b deep bs (w.alloc o):=h.imp (fun h=>h.alloc o) fun h=>h.alloc o
theorem Dq.over {B b:Nat} {deep:Int} {p:Value} {bs:List Value} {w w':World} (h:Dq B b deep p bs w) (hb:Ov w w'):Dq B b deep p bs w':=by
 obtain ⟨g,v,f,a,c⟩:=h;exact ⟨g,v,(hb.block b (Cl f)).trans f,FK a hb,c⟩
theorem Bf.over {B b:Nat} {deep:Int} {bs:List Value} {w w':World} (h:Bf B b deep bs w) (hb:Ov w w'):Bf B b deep bs w':=h.imp (fun h=>h.over hb) fun h=>h.over hb
theorem Bf.move {B b:Nat} {deep:Int} {bs:List Value} {w:World} (h:Bf B b deep bs w) (d:Int):Bf B b d bs (w.setCell ⟨b,2,none⟩ (O zc d)):=h.imp (fun h=>h.move d) fun h=>h.move d
theorem Bf.cells {B b:Nat} {deep:Int} {bs:List Value} {w:World} (h:Bf B b deep bs w):w.cell? ⟨b,2,none⟩=some (O zc deep)/\w.frozen? ⟨b,2,none⟩=false/\b < w.heap.size/\B<=b:=by
 rcases h with h | h
 ·exact ⟨h.cells.2.2.2.1,h.cells.2.2.2.2.1,h.cells.2.2.2.2.2,h.1⟩
 ·exact ⟨h.cells.2.2.2.1,h.cells.2.2.2.2.1,h.cells.2.2.2.2.2,h.1⟩
theorem Bf.heap {B b:Nat} {deep:Int} {bs:List Value} {w:World} (h:Bf B b deep bs w):∃ cs,w.heap[b]? = some (.cells cs 79 (0,0)):=by
 rcases h with ⟨_,v,a,_⟩ | ⟨_,v,a,_⟩ <;> exact ⟨_,a⟩
theorem Q6:liesAt Tryz.prog Tryz.prog.depth 79 (3 / Tryz.prog.cellsOf 79) 0 77 1=true:=by kernel_rfl
theorem Oh (B b:Nat) (deep:Int) (bs:List Value) (w:World) (h:Bf B b deep bs w) :
  Calls Tryz.prog 121 #[zh (some ⟨b,0,none⟩)] w fun e w'=>e=zi (zj #[])/\Dq B b deep (zh (some ⟨b,0,none⟩)) bs w'/\Below B w w'/\Ax w w':=by
 obtain ⟨j,g,f⟩:=Option.map_eq_some_iff.1 Tryz.size48;rcases h with h | h
 ·obtain ⟨y,A,c,-⟩:=h.cells
  have n:=Lib.run_to_unsafe w ⟨b,0,none⟩ Tryz.underlying74 Tryz.underlying158 g (by rw [f];decide) c (Nat.zero_lt_succ 2);have r:=Tryz.run39;have i:=Lib.run_from_unsafe w ⟨b,0,none⟩ Tryz.underlying158 Tryz.underlying74 g c Q6;have a:Dq B b deep (zh (some ⟨b,0,none⟩)) bs (w.setCell ⟨b,0,none⟩ (zh (some ⟨b,0,none⟩)))/\Below B w (w.setCell ⟨b,0,none⟩ (zh (some ⟨b,0,none⟩)))/\Ax w (w.setCell ⟨b,0,none⟩ (zh (some ⟨b,0,none⟩))):=
   ⟨h.used _,(Below.refl B w).setCell (p:=⟨b,0,none⟩) h.1 _,by obtain ⟨_,v,x,_⟩:=h;exact Ax.setCell x _ _⟩
  have l:=Aa a;clear a h f g c;go_enter Tryz.func121,Tryz.ntmps121
  go_wp2
  go_end0;exact ⟨rfl,l.o⟩
 ·have y:=h.cells.1
  have u:=Lib.run_neq_ptr_same w ⟨b,0,none⟩ Tryz.underlying74 g;have l:=Aa h;clear h f g;go_enter Tryz.func121,Tryz.ntmps121
  go_wp2
  go_end0;exact ⟨rfl,l.o,Below.refl B w,Ax.refl w⟩
theorem RV (B b:Nat) (deep:Int) (bs:List Value) (c:Int) (w:World) (h:Bf B b deep bs w) (hl:bs.length<=100000000) (hBw:B<=w.heap.size) :
  Calls Tryz.prog 83 #[zh (some ⟨b,0,none⟩),O .u8 c] w fun e w'=>e=zi .nilIface/\Dq B b deep (zh (some ⟨b,0,none⟩)) (bs++[O .u8 c]) w'/\Below B w w'/\Ax w w':=by
 obtain ⟨S,T,I,H,G⟩:=info_parts Tryz.info5;go_enter Tryz.func83,Tryz.ntmps83;go_wp2_with fail;refine (Oh B b deep bs _ h).mono ?_;rintro e E ⟨rfl,⟨M,v,y,f,J⟩,l,x⟩;have k1:E.cell? ⟨b,1,none⟩=some v:=by rw [Lib.cell_of_heap y];rfl
 have K:=Cl y;obtain ⟨P,C,rfl⟩:=AX f;go_wp2_with (at_builtin;refine wpList_append_own _ rfl _ _ 75 rfl B 5 S (O .u8 0) 1 1 Tryz.underlying75 T I H G rfl (by decide) _ _ _ rfl (f.alloc _) ⟨E.heap.size,0,none⟩ 1 1 [O .u8 c] rfl rfl ?c1 ?c2 ?c3 ?c4 ?c5 ?_)
 case c1=>
  intro j u F
  match j,F with
  | 0,F=>simp at F;subst F;simp [Addr.add]
 case c2=>intro u L;simp at L;subst L;rfl
 case c3=>unfold maxLen;omega
 case c4=>omega
 case c5=>have:=l.size;simp;omega
 ·intro Q n g a _
  have i:n.heap[b]? = some (zg #[zh (some ⟨b,0,none⟩),zd P bs.length C,O zc deep] 79 (0,0)):=by
   rw [a.block b (by simp;omega) (fun e=>J e.symm),Lib.alloc_old E _ b K];exact y
  have Y:n.cell? ⟨b,1,none⟩=some (zd P bs.length C):=by rw [Lib.cell_of_heap i];rfl
  have X:n.frozen? ⟨b,1,none⟩=false:=Lib.frozen_of_heap i 1;have r:Ax w (n.setCell ⟨b,1,none⟩ Q):=((x.trans (Ax.alloc E _)).trans (Ax.grown (f.alloc _) a)).trans (Ax.setCell i _ _);have A:Below B w n:=(l.alloc (by have:=l.size;omega) _).grown a (by have:=l.size;simp;omega) (fun k y=>(f.lt k y).1);obtain ⟨U,N,rfl⟩:=AX g;have R:=Dq.put M i (bs':=bs++[O .u8 c]) (by simpa using g);have V:=Aa R;have W:=Aa r;clear R k1 f a g r x
  go_wp2
  go_ret;exact ⟨rfl,V.o,A.setCell (p:=⟨b,1,none⟩) M _,W.o⟩
theorem RU (B b:Nat) (deep:Int) (bs:List Value) (s:ByteArray) (w:World) (h:Bf B b deep bs w) (hl:bs.length<=100000000) (hs:s.size<=100000000) (hBw:B<=w.heap.size) :
  Calls Tryz.prog 84 #[zh (some ⟨b,0,none⟩),.string s] w fun e w'=>e=zi (zj #[O zc s.size,.nilIface])/\Dq B b deep (zh (some ⟨b,0,none⟩)) (bs++Lib.strCells s) w'/\Below B w w'/\Ax w w':=by
 obtain ⟨L,M,C,A,y⟩:=info_parts Tryz.info5;go_enter Tryz.func84,Tryz.ntmps84;go_wp2_with fail;refine (Oh B b deep bs _ h).mono ?_;rintro e J ⟨rfl,⟨G,v,r,c,E⟩,i,n⟩;have k1:J.cell? ⟨b,1,none⟩=some v:=by rw [Lib.cell_of_heap r];rfl
 have F:=Cl r;obtain ⟨I,x,rfl⟩:=AX c;go_wp2_with (at_builtin;refine Lib.wpList_append_own_string _ rfl _ _ 75 9 rfl B 5 L Tryz.underlying75 Tryz.underlying9 M C A y _ _ _ rfl c s rfl ?c3 ?c4 ?c5 ?_)
 case c3=>unfold maxLen;omega
 case c4=>omega
 case c5=>have:=i.size;omega
 ·intro K j f a _
  have g:j.heap[b]? = some (zg #[zh (some ⟨b,0,none⟩),zd I bs.length x,O zc deep] 79 (0,0)):=by
   rw [a.block b F (fun e=>E e.symm)];exact r
  have T:j.cell? ⟨b,1,none⟩=some (zd I bs.length x):=by rw [Lib.cell_of_heap g];rfl
  have S:j.frozen? ⟨b,1,none⟩=false:=Lib.frozen_of_heap g 1;have l:Ax w (j.setCell ⟨b,1,none⟩ K):=(n.trans (Ax.grown c a)).trans (Ax.setCell g _ _);have u:Below B w j:=i.grown a (by have:=i.size;omega) (fun k r=>(c.lt k r).1);obtain ⟨N,H,rfl⟩:=AX f;have R:=Dq.put G g (bs':=bs++Lib.strCells s) (by simpa [Lib.strCells_length] using f);have P:=Aa R;have Q:=Aa l;clear R k1 c a f l n
  go_wp2
  go_ret2
  exact ⟨rfl,P.o,u.setCell (p:=⟨b,1,none⟩) G _,Q.o⟩
theorem RR (B b:Nat) (deep:Int) (l:List UInt8) (w:World) (h:Bf B b deep (Lib.byteCells l) w) (h0:l≠[]) (hl:l.length<=100000000) :
  Calls Tryz.prog 44 #[zh (some ⟨b,0,none⟩)] w fun e w'=>e=zi (.string ⟨l.toArray⟩)/\Below B w w':=by
 obtain ⟨p,S,v,C,f,A⟩:∃ p,Dq B b deep p (Lib.byteCells l) w:=by
  rcases h with h | h
  ·exact ⟨_,h⟩
  ·exact ⟨_,h⟩
 have a:=Lib.byteCells_length l;rcases f.2 with ⟨rfl,I⟩ | ⟨g,c,G,rfl,F,E,r,J,y,u⟩
 ·rw [a] at I
  exact absurd (List.eq_nil_of_length_eq_zero I) h0
 ·have L:0 < l.length:=List.length_pos_iff.2 h0
  rw [a] at r C;have k1:w.drew.cell? ⟨b,1,none⟩=some (zd (some ⟨g,0,none⟩) l.length c):=by
   have e:w.drew.heap[b]? = _:=C;rw [Lib.cell_of_heap e];rfl
  have n:w.drew.shape? g=some (5,c):=by
   have e:w.drew.heap[g]? = _:=E;simp [World.shape?,e,y]
  have R:=Lib.run_unsafeSliceData_row (P:=Tryz.prog) w.drew #[75] 128 ⟨g,0,none⟩ l.length c (by omega);have Q:=Lib.run_unsafeString_row (P:=Tryz.prog) w.drew 128 3 9 5 Tryz.underlying128 (by kernel_rfl) g c n l h0 r (by omega) (fun j x H=>by
   have e:w.drew.heap[g]? = _:=E;have M:j < l.length:=(List.getElem?_eq_some_iff.1 H).1;have N:(⟨g,0,none⟩:Addr).add j=⟨g,j,none⟩:=by cases j <;> simp [Addr.add]
   rw [N,Lib.cell_of_heap e];have K:(G.toList.take ((Lib.byteCells l).length*1))[j]? = (Lib.byteCells l)[j]?:=congrArg (fun z:List Value=>z[j]?) u;rw [a,Nat.mul_one,List.getElem?_take,if_pos M] at K;rw [<-Array.getElem?_toList,K];simp [Lib.byteCells,H])
  have i:Below B w (w.drew.freeze ⟨g,0,none⟩ l.length):=Lib.below_freeze (Below.refl B w).drew F _;have O:=Aa i;clear i f A C E n;go_enter Tryz.func44,Tryz.ntmps44;go_wp2_with fail;go_region;all_goals (go_wp2_with fail;go_ret;exact ⟨rfl,O.o⟩)
end Go.Proofs.YtipngnjffjajpaaGreatDoor.Tx
