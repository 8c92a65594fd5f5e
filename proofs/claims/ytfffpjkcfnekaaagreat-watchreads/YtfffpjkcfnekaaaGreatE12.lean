/- One who watches: a call. -/
import Derived.Test.YtfffpjkcfnekaaaGreatE11
set_option linter.unusedVariables false
set_option maxHeartbeats 8000000
set_option maxRecDepth 100000
namespace Go.Proofs.YtfffpjkcfnekaaaGreat.Ex
open Go.RowKit
open Go.Value renaming slice -> O, int -> zd, bool -> zg, agg -> zh, pointer -> zi, tuple -> zk
open Go.IntKind renaming i64 -> U
open Go.Obj renaming cells -> ze
open Go.Ending renaming returned -> zj
theorem Tf (n:Nat) (hn:n<=6) (w:World):(Instr.makeSlice 42 (zd U n) (zd U n)).run Tryz.prog w=.ok (O (some ⟨w.heap.size,0,none⟩) n n) (w.alloc (.cells (List.replicate (n*2) (Value.slice none 0 0)).toArray 50)):=by
 obtain ⟨i,d,c,b,a⟩:=info_parts Tryz.infoLk;have:=run_make (P:=Tryz.prog) w 42 50 i _ Tryz.underlying42 d c U U (n:Int) (n:Int) (by omega) (by omega) (by rw [a];omega) (by omega);rw [this,b];simp only [Int.toNat_natCast];have e:madeCells (Value.agg #[O none 0 0,O none 0 0]).cells (n*2)=(List.replicate (n*2) (Value.slice none 0 0)).toArray:=by
  apply Array.ext
  ·simp [madeCells]
  ·intro j b a
   rcases Nat.mod_two_eq_zero_or_one j with h | h <;> simp [madeCells,Value.cells,h]
 rw [e]
theorem CG {x:WX} {n b j:Nat} {W:World} {v:Value} {l:Lev} {a:Option Addr} {m c:Nat} (h:Aw n (XW x) W v l) (hc:W.cell? ⟨b,j,none⟩=some (O a m c)) (hne:x.bw≠b) (u:Value):Aw n (XW x) (W.setCell ⟨b,j,none⟩ u) v l:=by
 obtain ⟨y,w,g,i,hw⟩:=h.off;have f:∀ k,XW x (W.setCell ⟨b,j,none⟩ u) k->XW x W k:=by
  have d:(W.setCell ⟨b,j,none⟩ u).heap.size=W.heap.size:=by simp [World.setCell]
  rintro k (h | h | h | h | ⟨q,o,p⟩)
  ·exact Or.inl h
  ·rw [d] at h;exact Or.inr (Or.inl h)
  ·exact Or.inr (Or.inr (Or.inl h))
  ·exact Or.inr (Or.inr (Or.inr (Or.inl h)))
  ·exact Or.inr (Or.inr (Or.inr (Or.inr ⟨q,(World.cell?_of_block (a:=⟨x.bw,11,none⟩) (Au (Ne.symm hne) u)).symm.trans o,p⟩)))
 exact ⟨Cz hc h.at_ _,h.len,y,w,g,fun a m c e q=>i a m c e (f _ q),fun a m c e q=>hw a m c e (f _ q)⟩
def DI (x:WX) (B ba n:Nat) (Ls:List Lev) (W:World):Prop:=
 ∃ us:List Value,W.ownsRow B 50 2 (O (some ⟨ba,0,none⟩) n n) n us/\(∀ j,j < n*2->∃ a b c,us[j]? = some (O a b c))/\∀ i (h:i < Ls.length),∃ u v,us[i*2]? = some u/\us[i*2+1]? = some v/\Aw x.c.n (XW x) W (zh #[u,v]) Ls[i]
section
variable {x:WX} {B ba n:Nat} {Ls:List Lev} {W W':World}
theorem PL (x) (B n:Nat) (W:World) (hn:n<=6) (hB:B<=W.heap.size):DI x B W.heap.size n [] (W.alloc (.cells (Array.replicate (n*2) (Value.slice none 0 0)) 50)):=by
 refine ⟨List.replicate (n*2) (O none 0 0),?_,fun j a=>⟨none,0,0,by simp [a]⟩,fun i h=>absurd h (by simp)⟩;have:=World.ownsRow_lit (base:=B) (e:=50) (size:=2) W (Array.replicate (n*2) (Value.slice none 0 0)) n hB (by unfold maxLen;omega) (by simp);simpa using this
theorem DI.lt (h:DI x B ba n Ls W):B<=ba/\ba < W.heap.size:=by
 obtain ⟨b,a,-⟩:=h;exact a.lt ba rfl
theorem DI.over (h:DI x B ba n Ls W) (hb:Ov W W'):DI x B ba n Ls W':=by
 have e:=h.lt;obtain ⟨c,b,d,a⟩:=h;refine ⟨c,AD b (fun g k=>hb.block g (b.lt g k).2),d,fun i j=>?_⟩;obtain ⟨u,v,m,l,f⟩:=a i j;exact ⟨u,v,m,l,f.over (A5 x) hb⟩
theorem DI.keep (n1:1<=x.c.n) (h:DI x B ba n Ls W) (hf:FrW (XV x) W W') (hx:¬ XV x W ba):DI x B ba n Ls W':=by
 have a:=h.lt;obtain ⟨e,j,f,b⟩:=h;refine ⟨e,AD j (fun g d=>?_),f,fun i l=>?_⟩
 ·simp [Value.ownBlock] at d
  subst d;exact hf.block _ a.2 hx
 ·obtain ⟨u,v,o,m,k⟩:=b i l
  exact ⟨u,v,o,m,k.keep n1 (L8 hf)⟩
theorem DI.cell (h:DI x B ba n Ls W) {j:Nat} (hj:j < n*2):∃ a b c,W.cell? ⟨ba,j,none⟩=some (O a b c)/\W.frozen? ⟨ba,j,none⟩=false:=by
 obtain ⟨g,d,f,-⟩:=h;obtain ⟨a,b,c,e⟩:=f j hj;exact ⟨a,b,c,(d.cellAt j hj).trans e,d.frozenAt j⟩
theorem DI.get (h:DI x B ba n Ls W) {i:Nat} (hi:i < Ls.length) (hn:i < n):∃ o1 o2 o3 o4 o5 o6,W.cell? ⟨ba,i*2,none⟩=some (O o1 o2 o3)/\W.cell? ⟨ba,i*2+1,none⟩=some (O o4 o5 o6)/\Aw x.c.n (XW x) W (zh #[O o1 o2 o3,O o4 o5 o6]) Ls[i]:=by
 obtain ⟨g,b,j,a⟩:=h;obtain ⟨u,v,f,e,d⟩:=a i hi;obtain ⟨q,p,o,m,l,k,rfl,rfl⟩:=AX d.at_;exact ⟨_,_,_,_,_,_,(b.cellAt _ (by omega)).trans f,(b.cellAt _ (by omega)).trans e,d⟩
theorem DI.set {m:Nat} {o1:Option Addr} {o2 o3:Nat} {o4:Option Addr} {o5 o6:Nat} {l:Lev} (h:DI x B ba n Ls W) (hm:m=Ls.length) (hn:m < n) (hne:x.bw≠ba) (hl:Aw x.c.n (XW x) W (zh #[O o1 o2 o3,O o4 o5 o6]) l):DI x B ba n (Ls++[l]) ((W.setCell ⟨ba,m*2,none⟩ (O o1 o2 o3)).setCell ⟨ba,m*2+1,none⟩ (O o4 o5 o6)):=by
 obtain ⟨J,I,H,G,-⟩:=h.cell (j:=m*2) (by omega);obtain ⟨D,C,A,F,-⟩:=h.cell (j:=m*2+1) (by omega);have o:(W.setCell ⟨ba,m*2,none⟩ (O o1 o2 o3)).cell? ⟨ba,m*2+1,none⟩=some (O D C A):=by rw [World.cell?_setCell_other _ _ _ _ (by simp)];exact F
 have r:∀ {v:Value} {l:Lev},Aw x.c.n (XW x) W v l->Aw x.c.n (XW x) ((W.setCell ⟨ba,m*2,none⟩ (O o1 o2 o3)).setCell ⟨ba,m*2+1,none⟩ (O o4 o5 o6)) v l:=fun t=>CG (CG t G hne _) o hne _;obtain ⟨s,p,w,g⟩:=h;have q:=p.1;refine ⟨(s.set (m*2) (O o1 o2 o3)).set (m*2+1) (O o4 o5 o6),((p.stored _ _).1.stored _ _).1,fun j y=>?_,fun i z=>?_⟩
 ·by_cases h1:m*2+1=j
  ·exact ⟨o4,o5,o6,by rw [<-h1,List.getElem?_set_self (by rw [List.length_set];omega)]⟩
  ·by_cases h2:m*2=j
   ·exact ⟨o1,o2,o3,by rw [List.getElem?_set_ne h1,<-h2,List.getElem?_set_self (by omega)]⟩
   ·obtain ⟨a,b,c,e⟩:=w j y
    exact ⟨a,b,c,by rw [List.getElem?_set_ne h1,List.getElem?_set_ne h2];exact e⟩
 ·by_cases hii:i < Ls.length
  ·obtain ⟨u,v,E,k,d⟩:=g i hii
   refine ⟨u,v,by rw [List.getElem?_set_ne (by omega),List.getElem?_set_ne (by omega)];exact E,by rw [List.getElem?_set_ne (by omega),List.getElem?_set_ne (by omega)];exact k,?_⟩;rw [List.getElem_append_left hii];exact r d
  ·have f:i=m:=by rw [List.length_append,List.length_singleton] at z;omega
   subst f;refine ⟨_,_,by rw [List.getElem?_set_ne (by omega),List.getElem?_set_self (by omega)],by rw [List.getElem?_set_self (by rw [List.length_set];omega)],?_⟩;rw [List.getElem_append_right (by omega)];simp;exact r hl
end
theorem Hj {n:Nat} {X:World->Nat->Prop} {B:Nat} {W:World} {v:Value} {Ls:List Lev} {g c:Nat} (h:BE n X B W v Ls) (hv:v=O (some ⟨g,0,none⟩) Ls.length c) (j:Nat):W.frozen? ⟨g,j,none⟩=false:=by
 obtain ⟨b,a,-⟩:=h;rw [hv] at a;exact a.frozenAt j
theorem J2 (vs) (q:List (Int × Lev)) (y:Int × Lev):setLev vs (q++[y])=(setLev vs q).set y.1.toNat y.2:=by simp [setLev]
theorem DL:∀ (q:List (Int × Lev)) (vs:List Lev),(setLev vs q).length=vs.length
 | [],vs=>rfl
 | y::q,vs=>by
  show (setLev (vs.set y.1.toNat y.2) q).length=vs.length;rw [DL q];simp
abbrev Q9 (x:WX) (b8 z8:Nat) (W:World) (j:Nat) (pa:Option Addr) (pn pc:Nat) (Wz:World):Prop:=Wz.cell? ⟨x.bw,7,none⟩=some (O (some ⟨b8,z8,none⟩) x.c.fn x.c.fc)/\Wz.cell? ⟨W.heap.size,2,none⟩=some (zd U (j:Int))/\Wz.cell? ⟨b8,z8+j*5,none⟩=some (O pa pn pc)
abbrev Q8 (x:WX) (W:World) (p1:Option Addr) (q1 r1:Nat) (p2:Option Addr) (q2 r2 b6 z6 al ac m:Nat) (k1 k2:Int) (k3:Option Addr) (k4 k5:Nat) (Wz:World):Prop:=Wz.cell? ⟨x.bw,1,none⟩=some (zd U (x.c.n:Int))/\Wz.cell? ⟨x.bw,2,none⟩=some (O x.c.ga x.c.gn x.c.gc)/\Wz.cell? ⟨x.bw,3,none⟩=some (O x.c.sa x.c.sn x.c.sc)/\Wz.cell? ⟨x.bw,4,none⟩=some (O x.c.ya x.c.yn x.c.yc)/\Wz.cell? ⟨x.bw,5,none⟩=some (O x.c.oa x.c.on x.c.oc)/\Wz.cell? ⟨x.bw,6,none⟩=some (O x.c.va x.c.vn x.c.vc)/\Wz.cell? ⟨x.bw,7,none⟩=some (O x.c.fa x.c.fn x.c.fc)/\Wz.cell? ⟨x.bw,8,none⟩=some (O x.c.ba x.c.bn x.c.bc)/\Wz.cell? ⟨x.bw,9,none⟩=some (O x.c.la x.c.ln x.c.lc)/\Wz.cell? ⟨x.bw,10,none⟩=some (O x.c.ka x.c.kn x.c.kc)/\Wz.cell? ⟨W.heap.size+1,0,none⟩=some (O p1 q1 r1)/\Wz.cell? ⟨W.heap.size+1,1,none⟩=some (O p2 q2 r2)/\Wz.cell? ⟨W.heap.size,6,none⟩=some (O (some ⟨b6,z6,none⟩) al ac)/\Wz.cell? ⟨b6,z6+m*3,none⟩=some (zd U k1)/\Wz.cell? ⟨b6,z6+m*3+1,none⟩=some (zd U k2)/\Wz.cell? ⟨b6,z6+m*3+2,none⟩=some (O k3 k4 k5)
abbrev Oo (W:World) (p1:Option Addr) (q1 r1:Nat) (p2:Option Addr) (q2 r2 ba m:Nat) (o1:Option Addr) (o2 o3:Nat) (o4:Option Addr) (o5 o6:Nat) (Wz:World):Prop:=Wz.cell? ⟨W.heap.size+1,0,none⟩=some (O p1 q1 r1)/\Wz.cell? ⟨W.heap.size+1,1,none⟩=some (O p2 q2 r2)/\Wz.cell? ⟨ba,m*2,none⟩=some (O o1 o2 o3)/\Wz.cell? ⟨ba,m*2+1,none⟩=some (O o4 o5 o6)
abbrev Om (x:WX) (bl ba m:Nat) (o1:Option Addr) (o2 o3:Nat) (o4:Option Addr) (o5 o6:Nat) (Wz:World):Prop:=Wz.cell? ⟨x.bw,9,none⟩=some (O (some ⟨bl,0,none⟩) x.c.ln x.c.lc)/\Wz.cell? ⟨ba,m*2,none⟩=some (O o1 o2 o3)/\Wz.cell? ⟨ba,m*2+1,none⟩=some (O o4 o5 o6)
theorem Pi (x) (w0:World) (K kf:Nat) (gs ls ms vs fs) (S:WtS x w0 K kf gs ls ms vs fs) (s:WSt) (pv:Value) (W:World) (h:WtI x w0 s pv W) (hvl:s.vs.length=vs.length) (k:Nat) (cs:List Value) (d) (v:Value) (p) (funcs:Int) (hrs:RS w0 K (k+1) cs d) (hfn:funcs<=fs.length) (hok:Cx K vs.length ls.length ms.length funcs fs d) (hp:Aw x.c.n (XW x) W v p) (hk:Ag d=2) :
  Calls Tryz.prog 187 #[zi (some ⟨x.bw,0,none⟩),.agg cs.toArray,v] W fun e W'=>e=zj (zg (Es (Bc x K gs ls ms vs fs) s p d).1)/\WtI x w0 (Es (Bc x K gs ls ms vs fs) s p d).2 pv W'/\FrW (XV x) W W':=by
 obtain ⟨T,H,N,Q,P,M,rfl⟩:=hp.form;obtain ⟨ek,en,xa,xl,xc,aa,ac,ta,tc,ea,ec,rfl,i0,i1,i2,hX,hA,hT,hE,-,-,-⟩:=hrs.form;have dg:sC (Ag d) (Ap d) (Ae d) ek en xa xl xc aa (Ai d).length ac ta (Aj d).length tc ea (Ao d).length ec=sC 2 (Ap d) (Ae d) ek en xa xl xc aa (Ai d).length ac ta (Aj d).length tc ea (Ao d).length ec:=by rw [hk]
 rw [dg];clear dg;obtain ⟨⟨fl,fk⟩,dd,dr⟩:=hok.2.2.1 hk;obtain ⟨j,hj⟩:∃ j:Nat,Ae d=(j:Int):=⟨(Ae d).toNat,by omega⟩;have X:j < fs.length:=by omega
 have ci:(Ae d).toNat=j:=by omega
 have au:fs[j].ps.length=(Ai d).length:=dd fs[j] (by rw [ci];exact List.getElem?_eq_getElem X);have b4:BV fs (Ae d)=fs[j]:=by unfold BV;rw [ci];simp [List.getD_eq_getElem?_getD,X]
 have ay:Es (Bc x K gs ls ms vs fs) s p d=if ((fs[j].ps.zip ((Ai d).map (withX (Bc x K gs ls ms vs fs) s p))).all fun y=>Cr (Bc x K gs ls ms vs fs) s p y.1 y.2)=true then (true,⟨setLev s.vs (fs[j].ps.zip ((Ai d).map (withX (Bc x K gs ls ms vs fs) s p))),s.ps⟩) else (false,s):=by
  unfold Es C6;have:(Bc x K gs ls ms vs fs).fs=fs:=rfl;rw [this,b4]
 rw [ay,hj];obtain ⟨fo,h9,h8,fp,dm⟩:=S.funcs;injection fp with y1 y2 y3;obtain ⟨b8,z8,dl,b3⟩:=dm (by intro h;rw [h] at X;simp at X);obtain ⟨vP,vB,e0,e1,e2,bx,fx,fw,fv,fu,cj,-,ck,dc⟩:=b3 j X;have dn:x.c.fa=some ⟨b8,z8,none⟩:=y1.trans dl;obtain ⟨pa,pc,rfl,av⟩:=cj;have ae:=S.body j X;obtain ⟨f,hf⟩:=nm (fs[j]);rw [<-hf] at au bx av ae ⊢;obtain ⟨g,bs⟩:=nm ((Ai d).map (withX (Bc x K gs ls ms vs fs) s p));rw [<-bs];have d3:g.length=(Ai d).length:=by rw [bs];simp
 obtain ⟨vr,c9⟩:=nm (Ap d);obtain ⟨al,cm⟩:=nm ((Ai d).length);obtain ⟨tl,da⟩:=nm ((Aj d).length);obtain ⟨el,dp⟩:=nm ((Ao d).length);obtain ⟨B,bi⟩:=nm f.ps.length;rw [<-bi] at bx;rw [<-c9,<-cm,<-da,<-dp];obtain ⟨V1,a9⟩:=nm (((W.alloc (ze #[zd U 2,zd U vr,zd U (j:Int),zd U ek,zd U en,O xa xl xc,O aa al ac,O ta tl tc,O ea el ec] 130)).alloc (ze #[O T H N,O Q P M] 50)));have cl:Ov W V1:=by rw [a9];exact (bA W _).alloc (by simp) _
 have aq:Ad [zd U 2,zd U vr,zd U (j:Int),zd U ek,zd U en,O xa xl xc,O aa al ac,O ta tl tc,O ea el ec] V1 W.heap.size:=by rw [a9];exact (Ad.new _ _ _).over (bA _ _)
 have ar:Ad [O T H N,O Q P M] V1 (W.heap.size+1):=by
  rw [a9];have r:=Ad.new [O T H N,O Q P M] 50 (W.alloc (ze #[zd U 2,zd U vr,zd U (j:Int),zd U ek,zd U en,O xa xl xc,O aa al ac,O ta tl tc,O ea el ec] 130));simpa using r
 have h1:=h.over cl;have f7:Hx (Q9 x b8 z8 W j pa B pc V1.drew):=⟨by rw [<-dn];exact h1.cw (j:=6) rfl,aq 2 _ rfl,Ab h1.below _ _ bx⟩;obtain ⟨D,a8⟩:=nm V1.drew;have u:Ov W D:=by rw [a8];exact cl.drew
 have a:=Aa u;have E:=Aa h;have f9:=Aa hp;have ap:Ad [zd U 2,zd U vr,zd U (j:Int),zd U ek,zd U en,O xa xl xc,O aa al ac,O ta tl tc,O ea el ec] D W.heap.size:=by rw [a8];exact aq.over (bD _)
 have b0:Hx (D.cell? ⟨W.heap.size+1,0,none⟩=some (O T H N)/\D.cell? ⟨W.heap.size+1,1,none⟩=some (O Q P M)):=by
  rw [a8];exact ⟨ar 0 _ rfl,ar 1 _ rfl⟩
 have f8:=Aa ap;have HA:=Aa hA;have cc:=Aa av;have gk:=Aa dr;have ee:=Aa ae.2.1;have ag:=Aa au;have ak:=Aa bi;have ei:=Aa cm;have bh:=Aa d3;have eh:=Aa bs;have G:=Aa S;have bd:=Aa hvl;have h4:(j:Int) < (x.c.fn:Int):=by omega
 have g1:x.c.fn<=5:=by have:=S.f5;omega
 have de:B<=4:=by rw [bi];exact ae.1
 have hv:=fun w=>Tf B (by omega) w;obtain ⟨wk,cd⟩:=nm (Bc x K gs ls ms vs fs);have d9:=Aa cd;rw [<-cd] at eh ⊢;obtain ⟨R,hR⟩:∃ q:eo × WSt,q=(if ((f.ps.zip g).all fun y=>Cr wk s p y.1 y.2)=true then (true,(⟨setLev s.vs (f.ps.zip g),s.ps⟩:WSt)) else (false,s)):=⟨_,rfl⟩;rw [<-hR];have HR:=Aa hR;clear hR;clear hX hA av dr ae au bi hok cm dn hrs hT hE h hp aq ar cl fl fk dd hj ci b4 fo dm y1 y2 y3 dl b3 bx fx fw fv fu da dp hk i0 i1 i2 hfn h1 u ap bs d3 S hvl ay ck dc cd c9 hf X;go_enter Tryz.func187,Tryz.ntmps187;go_wp2_with fail;rw [<-a9];clear a9;refine gS (Q9 x b8 z8 W j pa B pc) (f7.o) fun b=>?_;refine kT 0 ?_;refine kT 1 ?_;refine kT 2 ?_;refine kT 3 ?_;refine kT 4 ?_;refine kT 5 ?_;refine kT 6 ?_;refine kT 7 ?_;refine kT 8 ?_;refine kT 9 ?_;refine kT 10 ?_;refine kT 11 ?_;refine gE ?_;rw [<-a8];clear a8;obtain ⟨ba,bm⟩:=nm D.heap.size;have b1:=Aa bm;have d4:DI x D.heap.size ba B [] (D.alloc (.cells (Array.replicate (B*2) (Value.slice none 0 0)) 50)):=by rw [bm];exact PL x D.heap.size B D (by omega) (Nat.le_refl _)
 have dz:Ov D (D.alloc (.cells (Array.replicate (B*2) (Value.slice none 0 0)) 50)):=bA _ _;have gp:=Aa d4;have gm:=Aa dz;clear d4 dz;go_wp2_with fail;rw [<-bm];clear bm;go_loopw [29] (fun i wr=>∃ m:Nat,m<=B/\i=zd U m/\DI x D.heap.size ba B (g.take m) wr/\(∀ i (h1:i < f.ps.length) (h2:i < g.length),i < m->Cr wk s p f.ps[i] g[i]=true)/\Ov D wr) (fun i _=>B - (intOf i).toNat)
 case atStart=>exact ⟨0,Nat.zero_le _,rfl,gp.o,fun i h1 h2 h3=>absurd h3 (by omega),gm.o⟩
 case round=>
  obtain ⟨m,hm,rfl,cq,a7,J⟩:=hrel;have cx:=Aa cq;have bg:=Aa a7;have bf:=b1.o;by_cases hlt:m < B
  ·have z:m < f.ps.length:=by rw [<-ak.o];exact hlt
   have ax:m < (Ai d).length:=by rw [<-ag.o];exact z
   have bt:m < g.length:=by rw [bh.o];exact ax
   have dy:=E.o.over (Ac a.o J);obtain ⟨bp,zp,cf,aw⟩:=cc.o (by intro h;rw [h] at z;simp at z);subst cf;have q0:=Ab dy.below _ _ (aw m z);have as:=ee.o f.ps[m] (List.getElem_mem z);obtain ⟨L,ah⟩:∃ q:Nat,f.ps[m]=(q:Int):=⟨f.ps[m].toNat,by omega⟩;have hvl:L < vs.length:=by omega
   obtain ⟨fq,ig,ie,fr,dv⟩:=HA.o;injection fr with x1 x2 x3;obtain ⟨b6,z6,dt,b5⟩:=dv (by intro h;rw [h] at ax;simp at ax);obtain ⟨ic,du,I,bq⟩:=b5 m (Ai d)[m] (List.getElem?_eq_getElem ax);obtain ⟨k3,k5,rfl⟩:=bq.form;obtain ⟨k1,dj⟩:=nm (AQ (Ai d)[m]);obtain ⟨k2,di⟩:=nm (Bk (Ai d)[m]);obtain ⟨k4,dh⟩:=nm ((A4 (Ai d)[m]).length);rw [<-dj,<-di,<-dh] at I bq;have dw:aa=some ⟨b6,z6,none⟩:=x1.trans dt;have d2:g[m]=A6 x.c.n s.vs p (AG K (Ai d)[m]):=by
    have e:=eh.o;subst e;rw [List.getElem_map];have e2:=d9.o;subst e2;rfl
   have KW:Hx (∀ (W2:World),Ov D W2->Aw x.c.n (XW x) W2 (zh #[O T H N,O Q P M]) p->Calls Tryz.prog 103 #[(zh #[zd U (x.c.n:Int),O x.c.ga x.c.gn x.c.gc,O x.c.sa x.c.sn x.c.sc,O x.c.ya x.c.yn x.c.yc,O x.c.oa x.c.on x.c.oc,O x.c.va x.c.vn x.c.vc,O x.c.fa x.c.fn x.c.fc,O x.c.ba x.c.bn x.c.bc,O x.c.la x.c.ln x.c.lc,O x.c.ka x.c.kn x.c.kc]),zh #[O T H N,O Q P M],zh #[zd U k1,zd U k2,O k3 k4 k5]] W2 fun e w'=>(∃ T H N Q P M,e=zj (zh #[O T H N,O Q P M])/\Aw x.c.n (XW x) w' (zh #[O T H N,O Q P M]) g[m])/\Ov W2 w'):=fun W2 u fj=>by
    have h2:=E.o.over (Ac a.o u);rw [d2];exact Df x.c G.o.n1 G.o.n6 gs s.vs (XW x) (A5 x) _ p K _ (Ai d)[m] W2 (Af G.o.gr h2.below) G.o.chk h2.lev.levs fj (by rw [bd.o];exact G.o.v16) (fun k hk=>(h2.xlt k hk).2) (bq.over h2.below) (by rw [bd.o];exact Ce (gk.o (Ai d)[m] (List.getElem_mem ax)))
   have ed:Hx (∀ (W2:World),Ov D W2->Aw x.c.n (XW x) W2 (zh #[O T H N,O Q P M]) p):=fun W2 u=>f9.o.over (A5 x) (Ac a.o u);obtain ⟨r,hr⟩:=nm (Cr wk s p f.ps[m] g[m]);have db:r=(Av p (s.vs.getD L Ah) x.c.n && (!vs[L].1 || Av g[m] (Ar (Ax gs) x.c.n vs[L].2) x.c.n)):=by
    have e2:=d9.o;rw [hr,ah,e2];exact Kh x K gs ls ms vs fs s p g[m] hvl
   have KM:Hx (∀ (W2:World) {y:Value},Ov D W2->Aw x.c.n (XW x) W2 y g[m]->Calls Tryz.prog 186 #[zi (some ⟨x.bw,0,none⟩),zh #[O T H N,O Q P M],zd U (L:Int),y] W2 fun e W'=>e=zj (zg r)/\Ov W2 W'):=fun W2 y u hy=>by
    rw [db];exact Hg x w0 K kf gs ls ms vs fs G.o s pv W2 (E.o.over (Ac a.o u)) bd.o _ _ p g[m] (ed.o W2 u) hy L hvl
   have be:Hx (∀ W2,Ov D W2->Q8 x W T H N Q P M b6 z6 al ac m k1 k2 k3 k4 k5 W2):=fun W2 u=>by
    have h2:=E.o.over (Ac a.o u);exact ⟨h2.cw (j:=0) rfl,h2.cw (j:=1) rfl,h2.cw (j:=2) rfl,h2.cw (j:=3) rfl,h2.cw (j:=4) rfl,h2.cw (j:=5) rfl,h2.cw (j:=6) rfl,h2.cw (j:=7) rfl,h2.cw (j:=8) rfl,h2.cw (j:=9) rfl,Ab u _ _ b0.o.1,Ab u _ _ b0.o.2,by rw [<-dw];exact Ab u _ _ (f8.o 6 _ rfl),Ab h2.below _ _ (I 0 _ rfl),Ab h2.below _ _ (I 1 _ rfl),Ab h2.below _ _ (I 2 _ rfl)⟩
   have cv:Hx (x.bw < ba):=by rw [bf];have:=(E.o.over a.o).lo.2;exact this
   have gb:Hx (r=true->∀ i (h1:i < f.ps.length) (h2:i < g.length),i < m+1->Cr wk s p f.ps[i] g[i]=true):=fun fg i h1 h2 h3=>by
    by_cases hi:i=m
    ·subst hi;rw [<-hr];exact fg
    ·exact bg.o i h1 h2 (by omega)
   have ef:Hx (r=false->R=(false,s)):=fun fh=>by
    rw [HR.o,if_neg];rw [eo.not_eq_true,List.all_eq_false];refine ⟨(f.ps[m],g[m]),?_,by rw [<-hr,fh];simp⟩;have:=List.getElem_mem (l:=f.ps.zip g) (n:=m) (by simp;omega);simpa using this
   rw [ah] at q0;have hx:(m:Int) < (al:Int):=by rw [ei.o];omega
   have cg:(m:Int) < (B:Int):=by omega
   have g4:al<=4:=by rw [ei.o,<-ag.o,<-ak.o];exact de
   have g3:D.heap.size<=ba:=by omega
   clear hr db ah as hvl bq I du x1 x2 x3 dt b5 dv fq dw dj di dh aw a7 z d2 cq dy bf;go_wp2_with fail;refine gS (Q8 x W T H N Q P M b6 z6 al ac m k1 k2 k3 k4 k5) (be.o _ J.drew) fun b=>?_;refine kT 0 ?_;refine kT 1 ?_;refine kT 2 ?_;refine kT 3 ?_;refine kT 4 ?_;refine kT 5 ?_;refine kT 6 ?_;refine kT 7 ?_;refine kT 8 ?_;refine kT 9 ?_;refine kT 10 ?_;refine kT 11 ?_;refine rdA 12 rfl fun K hK=>?_;go_simp;refine (KW.o _ (J.drew) (ed.o _ J.drew)).mono ?_;rintro e W6 ⟨⟨o1,Z,Y,o4,o5,o6,rfl,co⟩,ds⟩;have a0:=Ac (bD _) ds;have bv:=cx.o.over a0;have cp:=J.trans (a0.mono J.size);have gl:=Aa cp;obtain ⟨e1,e2,e3,d0,z0⟩:=bv.cell (j:=m*2) (by omega);obtain ⟨e4,e5,e6,d1,z1⟩:=bv.cell (j:=m*2+1) (by omega);obtain ⟨W7,aj⟩:=nm ((W6.setCell ⟨ba,m*2,none⟩ (O o1 Z Y)).setCell ⟨ba,m*2+1,none⟩ (O o4 o5 o6));have F:Hx (Ov D W7):=by rw [aj];exact (cp.setCell (p:=⟨ba,m*2,none⟩) (by show D.heap.size<=ba;omega) _).setCell (p:=⟨ba,m*2+1,none⟩) (by show D.heap.size<=ba;omega) _
   have em:Hx (DI x D.heap.size ba B (g.take (m+1)) W7):=by
    rw [aj,List.take_succ_eq_append_getElem bt];exact bv.set (by rw [List.length_take];omega) hlt (by have:=cv.o;omega) co
   have gd:Hx (Aw x.c.n (XW x) W7 (zh #[O o1 Z Y,O o4 o5 o6]) g[m]):=by
    rw [aj];have f0:(W6.setCell ⟨ba,m*2,none⟩ (O o1 Z Y)).cell? ⟨ba,m*2+1,none⟩=some (O e4 e5 e6):=by rw [World.cell?_setCell_other _ _ _ _ (by simp)];exact d1
    exact CG (CG co d0 (by have:=cv.o;omega) _) f0 (by have:=cv.o;omega) _
   clear co ds a0 bv cp;go_simp;refine xK hK (be.o _ gl.o) fun b=>?_;clear hK K;refine kT 13 ?_;refine rdA 14 rfl fun K hK=>?_;have eg:Hx (W7.cell? ⟨ba,m*2,none⟩=some (O o1 Z Y)/\W7.cell? ⟨ba,m*2+1,none⟩=some (O o4 o5 o6)):=by
    rw [aj];have H:(W6.setCell ⟨ba,m*2,none⟩ (O o1 Z Y)).cell? ⟨ba,m*2+1,none⟩=some (O e4 e5 e6):=by rw [World.cell?_setCell_other _ _ _ _ (by simp)];exact d1
    exact ⟨by rw [World.cell?_setCell_other _ _ _ _ (by simp)];exact World.cell?_setCell_same _ _ _ d0,World.cell?_setCell_same _ _ _ H⟩
   go_simp;rw [<-aj];clear aj d0 d1 z0 z1;refine xK hK (be.o _ F.o) fun b=>?_;clear hK K;refine gE ?_;have bz:Hx (∀ W9,Ov W7 W9->Oo W T H N Q P M ba m o1 Z Y o4 o5 o6 W9):=fun W9 bo=>⟨Ab (F.o.trans (bo.mono F.o.size)) _ _ b0.o.1,Ab (F.o.trans (bo.mono F.o.size)) _ _ b0.o.2,Ab bo _ _ eg.o.1,Ab bo _ _ eg.o.2⟩;have d8:=Aa (KM.o W7.drew (F.o.drew) (gd.o.over (A5 x) (bD _)));cases r with
   | true=>
    go_wp2_with fail;refine gS (Oo W T H N Q P M ba m o1 Z Y o4 o5 o6) (bz.o _ (bD _)) fun b=>?_;refine kT 0 ?_;refine kT 1 ?_;refine kT 2 ?_;refine kT 3 ?_;refine kT 4 ?_;refine kT 5 ?_;refine kT 6 ?_;refine rdA 7 rfl fun K hK=>?_;go_simp;refine (d8.o).mono ?_;rintro e W8 ⟨rfl,az⟩;have t:=Ac (bD _) az;have cu:=Aa (bz.o W8 t);have ej:=Aa (em.o.over t);have b2:=Aa (F.o.trans (t.mono F.o.size));clear az t;go_simp;refine xK hK (cu.o) fun b=>?_;clear hK K;refine kT 8 ?_;refine gE ?_;go_wp2_with fail;exact ⟨⟨m+1,by omega,by go_num,ej.o,gb.o (by first | rfl | trivial),b2.o⟩,by simp [intOf];omega⟩
   | false=>
    go_wp2_with fail;refine gS (Oo W T H N Q P M ba m o1 Z Y o4 o5 o6) (bz.o _ (bD _)) fun b=>?_;refine kT 0 ?_;refine kT 1 ?_;refine kT 2 ?_;refine kT 3 ?_;refine kT 4 ?_;refine kT 5 ?_;refine kT 6 ?_;refine rdA 7 rfl fun K hK=>?_;go_simp;refine (d8.o).mono ?_;rintro e W8 ⟨rfl,az⟩;have t:=Ac (bD _) az;have cu:=Aa (bz.o W8 t);have ej:=Aa (em.o.over t);have b2:=Aa (F.o.trans (t.mono F.o.size));clear az t;go_simp;refine xK hK (cu.o) fun b=>?_;clear hK K;refine kT 8 ?_;refine gE ?_;go_wp2_with fail;go_ret;exact ⟨by rw [ef.o (by first | rfl | trivial)];rfl,by rw [ef.o (by first | rfl | trivial)];exact E.o.over (Ac a.o b2.o),FrW.of_below (Bx x) (Ac a.o b2.o)⟩
  ·have bj:m=B:=by omega
   have eb:Hx (g.take m=g):=by have:=bh.o;have:=ag.o;have:=ak.o;exact List.take_of_length_le (by omega)
   have cb:Hx (R=(true,⟨setLev s.vs (f.ps.zip g),s.ps⟩)):=by
    rw [HR.o,if_pos]
    ·exact Aa rfl
    rw [List.all_eq_true];intro q hq;obtain ⟨i,hi,rfl⟩:=List.getElem_of_mem hq;have hz:(f.ps.zip g).length=min f.ps.length g.length:=List.length_zip;have dk:i < f.ps.length:=by omega
    have fm:i < g.length:=by omega
    have:=bg.o i dk fm (by rw [bj,ak.o];exact dk);simpa using this
   have cg:¬ (m:Int) < (B:Int):=by omega
   rw [eb.o] at cx;have gg:=Aa (E.o.over (Ac a.o J));have gj:=Aa (FrW.of_below (Bx x) (Ac a.o J));clear a7 cq bj bg eb bf;go_wp2_with fail;go_loopw [60] (fun i w9=>∃ m:Nat,m<=B/\i=zd U m/\WtI x w0 ⟨setLev s.vs ((f.ps.zip g).take m),s.ps⟩ pv w9/\DI x D.heap.size ba B g w9/\FrW (XV x) W w9) (fun i _=>B - (intOf i).toNat)
   case atStart=>exact ⟨0,Nat.zero_le _,rfl,gg.o,cx.o,gj.o⟩
   case round=>
    obtain ⟨m,hm,rfl,C,bu,br⟩:=hrel;by_cases hlt:m < B
    ·have z:m < f.ps.length:=by rw [<-ak.o];exact hlt
     have bt:m < g.length:=by rw [bh.o,<-ag.o];exact z
     obtain ⟨bp,zp,cf,aw⟩:=cc.o (by intro h;rw [h] at z;simp at z);subst cf;have q0:=Ab C.below _ _ (aw m z);have as:=ee.o f.ps[m] (List.getElem_mem z);obtain ⟨L,ah⟩:∃ q:Nat,f.ps[m]=(q:Int):=⟨f.ps[m].toNat,by omega⟩;have ce:L < (setLev s.vs ((f.ps.zip g).take m)).length:=by rw [DL,bd.o];omega
     obtain ⟨o1,Z,Y,o4,o5,o6,c0,c1,dx⟩:=bu.get bt hlt;obtain ⟨bl,gz,a1,a2,a3,a4,a5,a6,V,k0,k1,-⟩:=C.lev.cells ce;have bk:x.c.la=some ⟨bl,0,none⟩:=by unfold WX.lv at V;injection V
     have ch:x.c.ln=(setLev s.vs ((f.ps.zip g).take m)).length:=by unfold WX.lv at V;injection V
     have fi:x.c.ln<=16:=by rw [ch,DL,bd.o];exact G.o.v16
     have ht:(L:Int) < (x.c.ln:Int):=by rw [ch];omega
     have ai:Ov wr wr.drew:=(bD _);have h3:=C.over ai;have A:=h3.setLev G.o.n1 bk ce (dx.over (A5 x) ai);obtain ⟨W4,cn⟩:=nm (((wr.setCell ⟨bl,L*2,none⟩ (O o1 Z Y)).setCell ⟨bl,L*2+1,none⟩ (O o4 o5 o6)).drew);have dq:(wr.drew.setCell ⟨bl,L*2,none⟩ (O o1 Z Y)).setCell ⟨bl,L*2+1,none⟩ (O o4 o5 o6)=W4:=by rw [cn];rfl
     rw [dq] at A;clear dq;have df:¬ XV x wr ba:=fun e=>by
      rcases C.xv.1 e with e | e | e
      ·have:=(E.o.over a.o).lo.2;have:=b1.o;omega
      ·have:=((E.o.over a.o).lev.lt ba e).2;have:=b1.o;omega
      ·have:=((E.o.over a.o).pls.lt ba e).2;have:=b1.o;omega
     have ad:¬ XV x wr.drew ba:=fun e=>df ((Bx x).below _ _ ai _ e);have gf:Hx (WtI x w0 ⟨setLev s.vs ((f.ps.zip g).take (m+1)),s.ps⟩ pv W4):=by
      have fd:m < (f.ps.zip g).length:=by rw [List.length_zip];omega
      rw [List.take_succ_eq_append_getElem fd,J2,List.getElem_zip];have e:=A.1;have ff:f.ps[m].toNat=L:=by omega
      show WtI x w0 ⟨(setLev s.vs ((f.ps.zip g).take m)).set f.ps[m].toNat g[m],s.ps⟩ pv W4;rw [ff];exact e
     have go:=Aa ((bu.over ai).keep G.o.n1 A.2 ad);have gi:=Aa ((br.trans (FrW.of_below (Bx x) ai)).trans A.2);have u9:wr.cell? ⟨x.bw,9,none⟩=some (O (some ⟨bl,0,none⟩) x.c.ln x.c.lc):=by rw [<-bk];exact C.cw (j:=8) rfl
     have be:Hx (Om x bl ba m o1 Z Y o4 o5 o6 wr.drew):=⟨u9,c0,c1⟩;have f6:Hx (Om x bl ba m o1 Z Y o4 o5 o6 W4):=⟨by rw [<-bk];exact A.1.cw (j:=8) rfl,A.2.cell (show wr.drew.cell? _=_ from c0) ad,A.2.cell (show wr.drew.cell? _=_ from c1) ad⟩;have z0:wr.frozen? ⟨bl,L*2,none⟩=false:=Hj C.lev V _;have z1:wr.frozen? ⟨bl,L*2+1,none⟩=false:=Hj C.lev V _;rw [ah] at q0;have cg:(m:Int) < (B:Int):=by omega
     clear A h3 ai df ad dx C bu br V bk ch ce ah as aw z bt;go_wp2_with fail;refine gS (Om x bl ba m o1 Z Y o4 o5 o6) (be.o) fun b=>?_;refine kT 0 ?_;refine kT 1 ?_;refine kT 2 ?_;refine kT 3 ?_;refine kT 4 ?_;refine kT 5 ?_;refine kT 6 ?_;refine kT 7 ?_;refine kT 8 ?_;refine kT 9 ?_;refine kT 10 ?_;refine kT 11 ?_;refine rdA 12 rfl fun K hK=>?_;go_simp;rw [<-cn];clear cn;refine xK hK (f6.o) fun b=>?_;clear hK K;refine gE ?_;go_wp2_with fail;exact ⟨⟨m+1,by omega,by go_num,gf.o,go.o,gi.o⟩,by simp [intOf];omega⟩
    ·have bj:m=B:=by omega
     have hz:(f.ps.zip g).take m=f.ps.zip g:=List.take_of_length_le (by rw [List.length_zip];have:=ak.o;omega);rw [hz] at C;have cg:¬ (m:Int) < (B:Int):=by omega
     have ge:=Aa C;have gh:=Aa br;clear C bu br bj hz;go_wp2_with fail;go_ret;exact ⟨by rw [cb.o];rfl,by rw [cb.o];exact ge.o,gh.o⟩
theorem L7 {x:WX} {w0 W W':World} {s:WSt} {pv v:Value} {l:Lev} (h:WtI x w0 s pv W) (hb:Ov W W') (hf:A1 W W' v l) (hl:l.len x.c.n):∃ a1 a2 a3 a4 a5 a6,v=zh #[O a1 a2 a3,O a4 a5 a6]/\Aw x.c.n (XW x) W' (zh #[O a1 a2 a3,O a4 a5 a6]) l:=by
 have e:=Bm hf;have f:=Aq hf;obtain ⟨r,q,rfl,b,a,-⟩:=hf;obtain ⟨p,o,m,rfl⟩:=AE b;obtain ⟨j,i,g,rfl⟩:=AE a;exact ⟨_,_,_,_,_,_,rfl,f,hl,B8 (A5 x) hb (fun k d=>(h.xlt k d).2) e⟩
theorem I3:(∀ (u v:Value) (w:World),(Instr.field 50 (zh #[u,v]) 0).run Tryz.prog w=.ok u w)/\∀ (u v:Value) (w:World),(Instr.field 50 (zh #[u,v]) 1).run Tryz.prog w=.ok v w:=
 ⟨fun u v w=>by simp [Instr.field,run_underlying Tryz.underlying50,go_sem,Result.andThen,asAgg],fun u v w=>by simp [Instr.field,run_underlying Tryz.underlying50,go_sem,Result.andThen,asAgg]⟩
theorem NG (l k) (n:Nat):(BA l k n).len n:=⟨AH _ _,AH _ _⟩
abbrev Q7 (x:WX) (W:World) (ek en:Int) (xa:Option Addr) (xl xc:Nat) (p1:Option Addr) (q1 r1:Nat) (p2:Option Addr) (q2 r2:Nat) (Wz:World):Prop:=Wz.cell? ⟨x.bw,1,none⟩=some (zd U (x.c.n:Int))/\CE Wz x.bw 2 (O x.c.ga x.c.gn x.c.gc)/\CE Wz x.bw 3 (O x.c.sa x.c.sn x.c.sc)/\CE Wz x.bw 4 (O x.c.ya x.c.yn x.c.yc)/\CE Wz x.bw 5 (O x.c.oa x.c.on x.c.oc)/\CE Wz x.bw 6 (O x.c.va x.c.vn x.c.vc)/\CE Wz x.bw 7 (O x.c.fa x.c.fn x.c.fc)/\CE Wz x.bw 8 (O x.c.ba x.c.bn x.c.bc)/\CE Wz x.bw 9 (O x.c.la x.c.ln x.c.lc)/\CE Wz x.bw 10 (O x.c.ka x.c.kn x.c.kc)/\CE Wz W.heap.size 3 (zd U ek)/\CE Wz W.heap.size 4 (zd U en)/\CE Wz W.heap.size 5 (O xa xl xc)/\CE Wz (W.heap.size+1) 0 (O p1 q1 r1)/\CE Wz (W.heap.size+1) 1 (O p2 q2 r2)
abbrev Q6 (x:WX) (by0 oy:Nat) (W:World) (jo:Nat) (pa1:Option Addr) (pn1 pc1:Nat) (pa2:Option Addr) (pn2 pc2:Nat) (Wz:World):Prop:=Wz.cell? ⟨x.bw,1,none⟩=some (zd U (x.c.n:Int))/\CE Wz x.bw 2 (O x.c.ga x.c.gn x.c.gc)/\CE Wz x.bw 3 (O x.c.sa x.c.sn x.c.sc)/\CE Wz x.bw 4 (O (some ⟨by0,oy,none⟩) x.c.yn x.c.yc)/\CE Wz x.bw 5 (O x.c.oa x.c.on x.c.oc)/\CE Wz x.bw 6 (O x.c.va x.c.vn x.c.vc)/\CE Wz x.bw 7 (O x.c.fa x.c.fn x.c.fc)/\CE Wz x.bw 8 (O x.c.ba x.c.bn x.c.bc)/\CE Wz x.bw 9 (O x.c.la x.c.ln x.c.lc)/\CE Wz x.bw 10 (O x.c.ka x.c.kn x.c.kc)/\CE Wz W.heap.size 2 (zd U (jo:Int))/\CE Wz by0 (oy+jo*2) (O pa1 pn1 pc1)/\CE Wz by0 (oy+jo*2+1) (O pa2 pn2 pc2)
abbrev MF (x:WX) (by0 oy:Nat) (W:World) (jv:Nat) (p1:Option Addr) (q1 r1:Nat) (p2:Option Addr) (q2 r2 bc:Nat) (c1:Option Addr) (c2 c3:Nat) (c4:Option Addr) (c5 c6:Nat) (Wz:World):Prop:=Wz.cell? ⟨x.bw,1,none⟩=some (zd U (x.c.n:Int))/\CE Wz x.bw 2 (O x.c.ga x.c.gn x.c.gc)/\CE Wz x.bw 3 (O x.c.sa x.c.sn x.c.sc)/\CE Wz x.bw 4 (O (some ⟨by0,oy,none⟩) x.c.yn x.c.yc)/\CE Wz x.bw 5 (O x.c.oa x.c.on x.c.oc)/\CE Wz x.bw 6 (O x.c.va x.c.vn x.c.vc)/\CE Wz x.bw 7 (O x.c.fa x.c.fn x.c.fc)/\CE Wz x.bw 8 (O x.c.ba x.c.bn x.c.bc)/\CE Wz x.bw 9 (O x.c.la x.c.ln x.c.lc)/\CE Wz x.bw 10 (O x.c.ka x.c.kn x.c.kc)/\CE Wz W.heap.size 1 (zd U (jv:Int))/\CE Wz (W.heap.size+1) 0 (O p1 q1 r1)/\CE Wz (W.heap.size+1) 1 (O p2 q2 r2)/\CE Wz bc 0 (O c1 c2 c3)/\CE Wz bc 1 (O c4 c5 c6)
abbrev Q5 (x:WX) (by0 oy:Nat) (W:World) (jo bz:Nat) (o1:Option Addr) (o2 o3:Nat) (o4:Option Addr) (o5 o6:Nat) (pa1:Option Addr) (pn1 pc1:Nat) (pa2:Option Addr) (pn2 pc2:Nat) (Wz:World):Prop:=Wz.cell? ⟨x.bw,1,none⟩=some (zd U (x.c.n:Int))/\CE Wz x.bw 2 (O x.c.ga x.c.gn x.c.gc)/\CE Wz x.bw 3 (O x.c.sa x.c.sn x.c.sc)/\CE Wz x.bw 4 (O x.c.ya x.c.yn x.c.yc)/\CE Wz x.bw 5 (O (some ⟨by0,oy,none⟩) x.c.on x.c.oc)/\CE Wz x.bw 6 (O x.c.va x.c.vn x.c.vc)/\CE Wz x.bw 7 (O x.c.fa x.c.fn x.c.fc)/\CE Wz x.bw 8 (O x.c.ba x.c.bn x.c.bc)/\CE Wz x.bw 9 (O x.c.la x.c.ln x.c.lc)/\CE Wz x.bw 10 (O x.c.ka x.c.kn x.c.kc)/\CE Wz W.heap.size 2 (zd U (jo:Int))/\CE Wz bz 0 (O o1 o2 o3)/\CE Wz bz 1 (O o4 o5 o6)/\CE Wz by0 (oy+jo*2) (O pa1 pn1 pc1)/\CE Wz by0 (oy+jo*2+1) (O pa2 pn2 pc2)
theorem Ss (x) (w0:World) (K kf:Nat) (gs ls ms vs fs) (S:WtS x w0 K kf gs ls ms vs fs) (s:WSt) (pv:Value) (W:World) (h:WtI x w0 s pv W) (hvl:s.vs.length=vs.length) (a:Int) (k:Nat) (cs:List Value) (d) (v:Value) (p) (funcs:Int) (hrs:RS w0 K (k+1) cs d) (hfn:funcs<=fs.length) (hok:Cx K vs.length ls.length ms.length funcs fs d) (hp:Aw x.c.n (XW x) W v p) (hk6:Ag d<=6) :
  Calls Tryz.prog 122 #[zi (some ⟨x.bw,0,none⟩),.agg cs.toArray,zd U a,v] W fun e W'=>e=zj (zg (doX (Bc x K gs ls ms vs fs) s a d p).1)/\WtI x w0 (doX (Bc x K gs ls ms vs fs) s a d p).2 pv W'/\FrW (XV x) W W':=by
 obtain ⟨p1,q1,r1,p2,q2,r2,rfl⟩:=hp.form;obtain ⟨ek,en,xa,xl,xc,aa,ac,ta,tc,ea,ec,rfl,i0,i1,i2,hX,hA,hT,hE,-,-,-⟩:=hrs.form;have dk:=hrs;obtain ⟨kd,ar⟩:=nm (Ag d);obtain ⟨vr,fo⟩:=nm (Ap d);obtain ⟨ot,fp⟩:=nm (Ae d);obtain ⟨al,g9⟩:=nm ((Ai d).length);obtain ⟨tl,gz⟩:=nm ((Aj d).length);obtain ⟨el,g7⟩:=nm ((Ao d).length);rw [<-ar,<-fo,<-fp,<-g9,<-gz,<-g7] at dk ⊢;obtain ⟨R,hR⟩:=nm (doX (Bc x K gs ls ms vs fs) s a d p);rw [<-hR];have HR:=Aa hR;obtain ⟨M,dt⟩:=nm (withX (Bc x K gs ls ms vs fs) s p (Am d));have e5:Hx (withX (Bc x K gs ls ms vs fs) s p (Am d)=M):=dt.symm;obtain ⟨V1,cv⟩:=nm (((W.alloc (ze #[zd U kd,zd U vr,zd U ot,zd U ek,zd U en,O xa xl xc,O aa al ac,O ta tl tc,O ea el ec] 130)).alloc (ze #[O p1 q1 r1,O p2 q2 r2] 50)));have cu:Ov W V1:=by rw [cv];exact (bA W _).alloc (by simp) _
 have bx:Ad [zd U kd,zd U vr,zd U ot,zd U ek,zd U en,O xa xl xc,O aa al ac,O ta tl tc,O ea el ec] V1 W.heap.size:=by rw [cv];exact (Ad.new _ _ _).over (bA _ _)
 have cp:Ad [O p1 q1 r1,O p2 q2 r2] V1 (W.heap.size+1):=by
  rw [cv];have r:=Ad.new [O p1 q1 r1,O p2 q2 r2] 50 (W.alloc (ze #[zd U kd,zd U vr,zd U ot,zd U ek,zd U en,O xa xl xc,O aa al ac,O ta tl tc,O ea el ec] 130));simpa using r
 have gb:=Aa bx;have f5:=Aa cp;have h1:=h.over cu;have e0:=Aa h1;have i7:=Aa (hp.over (A5 x) cu);have gm:=Aa (FrW.of_below (Bx x) cu);have ew:Hx (V1.heap.size=W.heap.size+1+1):=by rw [cv];exact Aa (by simp)
 have gi:Hx (∀ q,W.heap.size<=q->¬ XV x V1 q):=fun q hq e=>by have:=(h.vlt _ ((Bx x).below _ _ cu _ e)).2;omega
 have B:=Aa S;have dy:=Aa hvl;have ev:=Aa fo;have hr:=Aa fp;have i6:=Aa dk;have gh:=Aa hok;have ja:=Aa hfn;have HV:Hx ((Ag d=1\/Ag d=2\/Ag d=3\/Ag d=5\/Ag d=6)->0<=Ap d/\Ap d < vs.length):=hok.2.1;have gl:Hx (x.bw < V1.heap.size):=h1.lo.2;have bl:Hx (Ov V1 V1.drew):=(bD _);have io:kd=1\/kd=2\/kd=3\/kd=4\/kd=5\/kd=6:=by have:=hok.1;omega
 have KW:Hx (∀ (W2:World),Ov V1 W2->Calls Tryz.prog 103 #[(zh #[zd U (x.c.n:Int),O x.c.ga x.c.gn x.c.gc,O x.c.sa x.c.sn x.c.sc,O x.c.ya x.c.yn x.c.yc,O x.c.oa x.c.on x.c.oc,O x.c.va x.c.vn x.c.vc,O x.c.fa x.c.fn x.c.fc,O x.c.ba x.c.bn x.c.bc,O x.c.la x.c.ln x.c.lc,O x.c.ka x.c.kn x.c.kc]),zh #[O p1 q1 r1,O p2 q2 r2],zh #[zd U ek,zd U en,O xa xl xc]] W2 fun e w'=>(∃ p1 q1 r1 p2 q2 r2,e=zj (zh #[O p1 q1 r1,O p2 q2 r2])/\Aw x.c.n (XW x) w' (zh #[O p1 q1 r1,O p2 q2 r2]) M)/\Ov W2 w'):=fun W2 bf=>by
  have h2:=h1.over bf;rw [dt];exact Df x.c S.n1 S.n6 gs s.vs (XW x) (A5 x) _ p K _ (Am d) W2 (Af S.gr h2.below) S.chk h2.lev.levs ((hp.over (A5 x) cu).over (A5 x) bf) (by rw [hvl];exact S.v16) (fun k hk=>(h2.xlt k hk).2) (hX.over h2.below) (by rw [hvl];exact Bd hok)
 have L:Hx (∀ W2,Ov V1 W2->Q7 x W ek en xa xl xc p1 q1 r1 p2 q2 r2 W2):=fun W2 bf=>by
  have h2:=h1.over bf;exact ⟨h2.cw (j:=0) rfl,h2.cw (j:=1) rfl,h2.cw (j:=2) rfl,h2.cw (j:=3) rfl,h2.cw (j:=4) rfl,h2.cw (j:=5) rfl,h2.cw (j:=6) rfl,h2.cw (j:=7) rfl,h2.cw (j:=8) rfl,h2.cw (j:=9) rfl,(bx.over bf) 3 _ rfl,(bx.over bf) 4 _ rfl,(bx.over bf) 5 _ rfl,(cp.over bf) 0 _ rfl,(cp.over bf) 1 _ rfl⟩
 have i9:=Aa ar;clear hX hA hT hE hrs dk h hp bx cp cu hok hvl hfn h1 S ar fo fp g9 gz g7 i0 i1 i2 hR dt hk6;go_enter Tryz.func122,Tryz.ntmps122;go_wp2_with fail;rw [<-cv];clear cv;refine Cw (fun cq Wn=>∃ (bq:Nat) (x11 x12 x13 x14 x15 x16 x17 x18:Value) (o1:Option Addr) (o2 o3:Nat) (o4:Option Addr) (o5 o6:Nat),cq={ tmps:=#[zi (some ⟨x.bw,0,none⟩),zh #[zd U kd,zd U vr,zd U ot,zd U ek,zd U en,O xa xl xc,O aa al ac,O ta tl tc,O ea el ec],zd U a,zh #[O p1 q1 r1,O p2 q2 r2],undef,zi (some ⟨W.heap.size,0,none⟩),undef,zi (some ⟨W.heap.size+1,0,none⟩),zg false,zi (some ⟨bq,0,none⟩),undef,x11,x12,x13,x14,x15,x16,x17,x18,undef,undef,undef,undef,undef,undef,undef,undef,undef,undef,undef,undef,undef,undef,undef,undef,undef,undef,undef,undef,undef,undef,undef,undef,undef,undef,undef,undef,undef,undef,undef,undef,undef,undef,undef,undef,undef,undef,undef,undef,undef,undef,undef,undef,undef,undef,undef,undef,undef,undef,undef,undef,undef,undef,undef,undef,undef,undef,undef,undef,undef,undef,undef,undef,undef,undef,undef,undef,undef,undef,undef,undef,undef,undef,undef,undef,undef,undef,undef,undef,undef,undef,undef,undef,undef,undef,undef,undef,undef,undef,undef,undef,undef,undef,undef,undef,undef,undef,undef,undef,undef,undef,undef,undef,undef,undef,undef,undef,undef,undef,undef,undef,undef,undef,undef],defers:=[] }/\Ov V1 Wn/\Ad [O o1 o2 o3,O o4 o5 o6] Wn bq/\(Wn.frozen? ⟨bq,0,none⟩=false/\Wn.frozen? ⟨bq,1,none⟩=false)/\Aw x.c.n (XW x) Wn (zh #[O o1 o2 o3,O o4 o5 o6]) M/\V1.heap.size<=bq/\bq < Wn.heap.size) ?_ ?_
 ·refine gS (Q7 x W ek en xa xl xc p1 q1 r1 p2 q2 r2) (L.o _ bl.o) fun i=>?_
  refine kT 0 ?_;refine kT 1 ?_;refine kT 2 ?_;refine kT 3 ?_;refine kT 4 ?_;refine kT 5 ?_;refine kT 6 ?_;refine rdB 7 8 rfl (fun K A=>?_) rfl fun K A=>?_
  ·go_simp
   refine (KW.o _ bl.o).mono ?_;rintro e l ⟨⟨o1,o2,o3,o4,o5,o6,rfl,ag⟩,g⟩;have V:=Aa (Ac bl.o g);have gk:=Aa ag;clear ag g;go_simp;refine xK A (L.o _ V.o) fun i=>?_;clear A K;refine rdA 8 rfl fun K A=>?_;obtain ⟨W4,J⟩:=nm (l.alloc (ze #[O none 0 0,O none 0 0] 50));have P:Ov l W4:=by rw [J];exact bA _ _
   obtain ⟨bq,bd⟩:∃ b:Nat,b=l.heap.size:=⟨_,rfl⟩;have z:Hx (ZB bq W4):=by rw [bd,J];exact DJ _ _
   have Q:Hx (V1.heap.size<=bq):=by rw [bd];exact V.o.size
   have T:=Aa (Ac V.o P);have ao:=Aa (gk.o.over (A5 x) P);go_simp;rw [<-J,<-bd];clear P J bd;refine xK A (L.o _ T.o) fun i=>?_;clear A K;have d0:=z.o.c0;have d1:=z.o.c1;have z0:=z.o.z0;have z1:=z.o.z1;obtain ⟨W9,m⟩:=nm (BC W4 bq (O o1 o2 o3) (O o4 o5 o6));have E:Hx (Ov V1 W9):=by rw [m];exact B7 T.o Q.o _ _
   have an:Hx (Ad [O o1 o2 o3,O o4 o5 o6] W9 bq):=by rw [m];exact z.o.fill _ _
   have bk:Hx (Aw x.c.n (XW x) W9 (zh #[O o1 o2 o3,O o4 o5 o6]) M):=by rw [m];exact Dm ao.o z.o (by have:=gl.o;have:=Q.o;omega) _ _
   have cn:Hx (W9.frozen? ⟨bq,0,none⟩=false/\W9.frozen? ⟨bq,1,none⟩=false):=by rw [m];unfold BC;exact ⟨by simp [go_sem,z0],by simp [go_sem,z1]⟩
   unfold BC at m;refine rdA 9 rfl fun K A=>?_;go_simp;rw [<-m];clear m;refine xK A (L.o _ E.o) fun i=>?_;clear A K;refine gE ?_;exact Ba ⟨bq,_,_,_,_,_,_,_,_,o1,o2,o3,o4,o5,o6,rfl,E.o,an.o,cn.o,bk.o,Q.o,bL (an.o 0 _ rfl)⟩
  ·obtain ⟨l,bg⟩:=nm ((V1.alloc (ze #[O none 0 0,O none 0 0] 50)).drew)
   have g:Ov V1 l:=by rw [bg];exact (bA _ _).drew
   obtain ⟨bq,be⟩:∃ b:Nat,b=V1.heap.size:=⟨_,rfl⟩;have dg:ZB bq l:=by rw [be,bg];exact Jc (DJ _ _)
   have Q:Hx (V1.heap.size<=bq):=by rw [be];exact Nat.le_refl _
   have V:=Aa g;have f4:=Aa dg;go_simp;rw [<-bg,<-be];clear g bg be dg;refine xK A (L.o _ V.o) fun i=>?_;clear A K;refine rdA 7 rfl fun K A=>?_;go_simp;refine (KW.o _ V.o).mono ?_;rintro e W4 ⟨⟨o1,o2,o3,o4,o5,o6,rfl,ab⟩,P⟩;have T:=Aa (Ac V.o P);have z:=Aa (f4.o.over P);have ao:=Aa ab;clear ab P;go_simp;refine xK A (L.o _ T.o) fun i=>?_;clear A K;have d0:=z.o.c0;have d1:=z.o.c1;have z0:=z.o.z0;have z1:=z.o.z1;obtain ⟨W9,m⟩:=nm (BC W4 bq (O o1 o2 o3) (O o4 o5 o6));have E:Hx (Ov V1 W9):=by rw [m];exact B7 T.o Q.o _ _
   have an:Hx (Ad [O o1 o2 o3,O o4 o5 o6] W9 bq):=by rw [m];exact z.o.fill _ _
   have bk:Hx (Aw x.c.n (XW x) W9 (zh #[O o1 o2 o3,O o4 o5 o6]) M):=by rw [m];exact Dm ao.o z.o (by have:=gl.o;have:=Q.o;omega) _ _
   have cn:Hx (W9.frozen? ⟨bq,0,none⟩=false/\W9.frozen? ⟨bq,1,none⟩=false):=by rw [m];unfold BC;exact ⟨by simp [go_sem,z0],by simp [go_sem,z1]⟩
   unfold BC at m;refine rdA 9 rfl fun K A=>?_;go_simp;rw [<-m];clear m;refine xK A (L.o _ E.o) fun i=>?_;clear A K;refine gE ?_;exact Ba ⟨bq,_,_,_,_,_,_,_,_,o1,o2,o3,o4,o5,o6,rfl,E.o,an.o,cn.o,bk.o,Q.o,bL (an.o 0 _ rfl)⟩
 rintro cq V2 ⟨bz,x11,x12,x13,x14,x15,x16,x17,x18,o1,o2,o3,o4,o5,o6,rfl,ck,g0,gy,hc,g2,g1⟩;have N:=Aa ck;have af:=Aa (e0.o.over ck);have e4:=Aa (gm.o.trans (FrW.of_below (Bx x) ck));have am:=Aa (gb.o.over ck);have bh:=Aa (f5.o.over ck);have d2:=Aa (i7.o.over (A5 x) ck);have au:=Aa g0;have et:=Aa gy;have ez:=Aa hc;have c7:=Aa g2;have ey:=Aa g1;have hs:Hx (x.bw≠bz):=by unfold Hx;have:=gl.o;omega
 clear ck g0 gy hc g2 g1 L bl KW;have ar:=i9.o;rcases io with rfl | rfl | rfl | rfl | rfl | rfl
 ·
  obtain ⟨C,F⟩:∃ q:Nat,Ap d=(q:Int):=⟨(Ap d).toNat,by have:=HV.o (by omega);omega⟩;obtain rfl:vr=(C:Int):=by rw [ev.o,F]
  have t:C < vs.length:=by have:=HV.o (by omega);omega
  have dz:Hx (R=CC (Bc x K gs ls ms vs fs) s p (C:Int) M):=by
   rw [HR.o];unfold doX;rw [if_neg (by omega),if_neg (by omega),if_neg (by omega),if_neg (by omega),if_neg (by omega),e5.o,F];exact Aa rfl
  have ak:=Aa (FK x w0 K kf gs ls ms vs fs B.o s pv V2 af.o dy.o _ _ p M d2.o ez.o C t);obtain ⟨u0,u1,u2,u3,u4,u5,u6,u7,u8⟩:=rc9 am.o;obtain ⟨u10,u11⟩:=rc2 bh.o;obtain ⟨u12,u13⟩:=rc2 au.o;clear F t ar;go_wp2_with fail;refine (ak.o).mono ?_;rintro e W6 ⟨rfl,ah,ai⟩;have cm:=Aa ah;have co:=Aa (e4.o.trans ai);clear ah ai;go_wp2_with fail;go_ret;exact ⟨by rw [dz.o];rfl,by rw [dz.o];exact cm.o,co.o⟩
 ·
  have dz:Hx (R=Es (Bc x K gs ls ms vs fs) s p d):=by
   rw [HR.o];unfold doX;rw [if_pos (by omega)];exact Aa rfl
  have KC:=Aa (Pi x w0 K kf gs ls ms vs fs B.o s pv V2 af.o dy.o k _ d _ p funcs i6.o ja.o gh.o d2.o (by omega));obtain ⟨u0,u1,u2,u3,u4,u5,u6,u7,u8⟩:=rc9 am.o;obtain ⟨u10,u11⟩:=rc2 bh.o;obtain ⟨u12,u13⟩:=rc2 au.o;clear ar;go_wp2_with fail;refine (KC.o).mono ?_;rintro e W6 ⟨rfl,ah,ai⟩;have cm:=Aa ah;have co:=Aa (e4.o.trans ai);clear ah ai;go_wp2_with fail;go_ret;exact ⟨by rw [dz.o];rfl,by rw [dz.o];exact cm.o,co.o⟩
 ·
  obtain ⟨C,F⟩:∃ q:Nat,Ap d=(q:Int):=⟨(Ap d).toNat,by have:=HV.o (by omega);omega⟩;obtain rfl:vr=(C:Int):=by rw [ev.o,F]
  have t:C < vs.length:=by have:=HV.o (by omega);omega
  have fq:0<=Ae d/\Ae d < ls.length:=gh.o.2.2.2.1 (by omega);obtain ⟨jo,cg⟩:∃ q:Nat,Ae d=(q:Int):=⟨(Ae d).toNat,by omega⟩;obtain ⟨fk,h9,h7,fm,di⟩:=B.o.ins;injection fm with y1 y2 y3;have Z:jo < ls.length:=by omega
  obtain ⟨H,oy,dh,b0⟩:=di (by intro h;rw [h] at Z;simp at Z);obtain ⟨pr,pw,l0,l1,cd,cc⟩:=b0 jo Z;obtain ⟨bb,a0,a8,rfl⟩:=Az cd;obtain ⟨a9,az,a7,rfl⟩:=Az cc;have b7:x.c.ya=some ⟨H,oy,none⟩:=y1.trans dh;have fj:x.c.yn=ls.length:=y2;have dp:=B.o.ichk ls[jo] (List.getElem_mem Z);have fr:=B.o.i5;have it:(jo:Int) < (x.c.yn:Int):=by omega
  have is:x.c.yn<=5:=by omega
  have ci:x.c.v=(zh #[zd U (x.c.n:Int),O x.c.ga x.c.gn x.c.gc,O x.c.sa x.c.sn x.c.sc,O (some ⟨H,oy,none⟩) x.c.yn x.c.yc,O x.c.oa x.c.on x.c.oc,O x.c.va x.c.vn x.c.vc,O x.c.fa x.c.fn x.c.fc,O x.c.ba x.c.bn x.c.bc,O x.c.la x.c.ln x.c.lc,O x.c.ka x.c.kn x.c.kc]):=by show Value.agg #[zd U (x.c.n:Int),O x.c.ga x.c.gn x.c.gc,O x.c.sa x.c.sn x.c.sc,O x.c.ya x.c.yn x.c.yc,O x.c.oa x.c.on x.c.oc,O x.c.va x.c.vn x.c.vc,O x.c.fa x.c.fn x.c.fc,O x.c.ba x.c.bn x.c.bc,O x.c.la x.c.ln x.c.lc,O x.c.ka x.c.kn x.c.kc]=_;rw [b7]
  obtain ⟨D,X⟩:=nm (Ar (Ax gs) x.c.n ls[jo]);have ax:D.len x.c.n:=by rw [X];exact Dl _ _ _
  have KL:Hx (∀ (l:World),Ov V2 l->Calls Tryz.prog 114 #[(zh #[zd U (x.c.n:Int),O x.c.ga x.c.gn x.c.gc,O x.c.sa x.c.sn x.c.sc,O (some ⟨H,oy,none⟩) x.c.yn x.c.yc,O x.c.oa x.c.on x.c.oc,O x.c.va x.c.vn x.c.vc,O x.c.fa x.c.fn x.c.fc,O x.c.ba x.c.bn x.c.bc,O x.c.la x.c.ln x.c.lc,O x.c.ka x.c.kn x.c.kc]),zh #[O bb a0 a8,O a9 az a7]] l fun e w'=>(∃ a1 a2 a3 a4 a5 a6,e=zj (zh #[O a1 a2 a3,O a4 a5 a6])/\Aw x.c.n (XW x) w' (zh #[O a1 a2 a3,O a4 a5 a6]) D)/\Ov l w'):=fun l g=>by
   have G:=af.o.over g;have:=Hh x.c gs (O bb a0 a8) (O a9 az a7) ls[jo] l (Af B.o.gr G.below) (Ak cd G.below) (Ak cc G.below) dp;rw [ci,<-X] at this;refine this.mono fun e w' hh=>?_;obtain ⟨vj,rfl,hf,hb⟩:=hh;obtain ⟨a1,a2,a3,a4,a5,a6,rfl,hl⟩:=L7 G hb hf ax;exact ⟨⟨a1,a2,a3,a4,a5,a6,rfl,hl⟩,hb⟩
  obtain rfl:ot=(jo:Int):=by rw [hr.o,cg]
  obtain ⟨fb,ch⟩:=nm (Av p D x.c.n);have ex:Hx ((fb=true->R=CC (Bc x K gs ls ms vs fs) s p (C:Int) (BA D p x.c.n))/\(fb=false->R=(false,s))):=by
   have e2:(Bc x K gs ls ms vs fs).ins.getD (Ae d).toNat Ah=D:=by
    rw [X,cg];unfold Bc;simp [List.getD_eq_getElem?_getD,Z]
   have e3:R=if fb=true then CC (Bc x K gs ls ms vs fs) s p (C:Int) (BA D p x.c.n) else (false,s):=by
    rw [HR.o];unfold doX;rw [if_neg (by omega),if_pos (by omega),e2,F,ch];rfl
   exact ⟨fun ht=>by rw [e3,if_pos ht],fun ht=>by rw [e3,ht];rfl⟩
  have L:Hx (∀ l,Ov V2 l->Q6 x H oy W jo bb a0 a8 a9 az a7 l):=fun l g=>by
   have G:=af.o.over g;exact ⟨G.cw (j:=0) rfl,G.cw (j:=1) rfl,G.cw (j:=2) rfl,by rw [<-b7];exact G.cw (j:=3) rfl,G.cw (j:=4) rfl,G.cw (j:=5) rfl,G.cw (j:=6) rfl,G.cw (j:=7) rfl,G.cw (j:=8) rfl,G.cw (j:=9) rfl,(am.o.over g) 2 _ rfl,Ab G.below _ _ l0,Ab G.below _ _ l1⟩
  have hj:=Aa b7;have hv:=Aa t;have bl:Hx (Ov V2 V2.drew):=(bD _);have fg:Hx (x.bw < V2.heap.size):=af.o.lo.2;have h0:=Aa ci;have jb:=Aa ch;have jf:=Aa ax;obtain ⟨u0,u1,u2,u3,u4,u5,u6,u7,u8⟩:=rc9 am.o;obtain ⟨u10,u11⟩:=rc2 bh.o;obtain ⟨u12,u13⟩:=rc2 au.o;clear ar b7 fj l0 l1 F t fq ch X ax ci cg fk di y1 y2 y3 Z dh b0 cd cc dp fr;go_wp2_with fail;refine Cw (fun cq Wn=>∃ (bq:Nat) (x29 x30 x31 x32 x33 x34 x35 x36 x37 x38 x39 x40 x41 x42 x43:Value) (o1:Option Addr) (o2 o3:Nat) (o4:Option Addr) (o5 o6:Nat),cq={ tmps:=#[zi (some ⟨x.bw,0,none⟩),zh #[zd U 3,zd U (C:Int),zd U (jo:Int),zd U ek,zd U en,O xa xl xc,O aa al ac,O ta tl tc,O ea el ec],zd U a,zh #[O p1 q1 r1,O p2 q2 r2],undef,zi (some ⟨W.heap.size,0,none⟩),undef,zi (some ⟨W.heap.size+1,0,none⟩),zg false,zi (some ⟨bz,0,none⟩),zi (some ⟨bq,0,none⟩),x11,x12,x13,x14,x15,x16,x17,x18,zi (some ⟨W.heap.size,0,none⟩),zd U 3,zg false,zg false,undef,undef,undef,undef,zg true,zg true,x29,x30,x31,x32,x33,x34,x35,x36,x37,x38,x39,x40,x41,x42,x43,undef,undef,undef,undef,undef,undef,undef,undef,undef,undef,undef,undef,undef,undef,undef,undef,undef,undef,undef,undef,undef,undef,undef,undef,undef,undef,undef,undef,undef,undef,undef,undef,undef,undef,undef,undef,undef,undef,undef,undef,undef,undef,undef,undef,undef,undef,undef,undef,undef,undef,undef,undef,undef,undef,undef,undef,undef,undef,undef,undef,undef,undef,undef,undef,undef,undef,undef,undef,undef,undef,undef,undef,undef,undef,undef,undef,undef,undef,undef,undef,undef,undef,undef,undef,undef,undef,undef,undef,undef,undef],defers:=[] }/\Ov V2 Wn/\Ad [O o1 o2 o3,O o4 o5 o6] Wn bq/\(Wn.frozen? ⟨bq,0,none⟩=false/\Wn.frozen? ⟨bq,1,none⟩=false)/\Aw x.c.n (XW x) Wn (zh #[O o1 o2 o3,O o4 o5 o6]) D/\V2.heap.size<=bq/\bq < Wn.heap.size) ?_ ?_
  ·refine gS (Q6 x H oy W jo bb a0 a8 a9 az a7) (L.o _ bl.o) fun i=>?_
   refine kT 0 ?_;refine kT 1 ?_;refine kT 2 ?_;refine kT 3 ?_;refine kT 4 ?_;refine kT 5 ?_;refine kT 6 ?_;refine kT 7 ?_;refine kT 8 ?_;refine kT 9 ?_;refine kT 10 ?_;refine kT 11 ?_;refine kT 12 ?_;refine kT 13 ?_;refine rdB 14 15 rfl (fun K A=>?_) rfl fun K A=>?_
   ·go_simp
    refine (KL.o _ bl.o).mono ?_;rintro e l ⟨⟨o1,o2,o3,o4,o5,o6,rfl,ag⟩,g⟩;have V:=Aa (Ac bl.o g);have gk:=Aa ag;clear ag g;go_simp;refine xK A (L.o _ V.o) fun i=>?_;clear A K;refine rdA 15 rfl fun K A=>?_;obtain ⟨W4,J⟩:=nm (l.alloc (ze #[O none 0 0,O none 0 0] 50));have P:Ov l W4:=by rw [J];exact bA _ _
    obtain ⟨bq,bd⟩:∃ b:Nat,b=l.heap.size:=⟨_,rfl⟩;have z:Hx (ZB bq W4):=by rw [bd,J];exact DJ _ _
    have Q:Hx (V2.heap.size<=bq):=by rw [bd];exact V.o.size
    have T:=Aa (Ac V.o P);have ao:=Aa (gk.o.over (A5 x) P);go_simp;rw [<-J,<-bd];clear P J bd;refine xK A (L.o _ T.o) fun i=>?_;clear A K;have d0:=z.o.c0;have d1:=z.o.c1;have z0:=z.o.z0;have z1:=z.o.z1;obtain ⟨W9,m⟩:=nm (BC W4 bq (O o1 o2 o3) (O o4 o5 o6));have E:Hx (Ov V2 W9):=by rw [m];exact B7 T.o Q.o _ _
    have an:Hx (Ad [O o1 o2 o3,O o4 o5 o6] W9 bq):=by rw [m];exact z.o.fill _ _
    have bk:Hx (Aw x.c.n (XW x) W9 (zh #[O o1 o2 o3,O o4 o5 o6]) D):=by rw [m];exact Dm ao.o z.o (by have:=fg.o;have:=Q.o;omega) _ _
    have cn:Hx (W9.frozen? ⟨bq,0,none⟩=false/\W9.frozen? ⟨bq,1,none⟩=false):=by rw [m];unfold BC;exact ⟨by simp [go_sem,z0],by simp [go_sem,z1]⟩
    unfold BC at m;refine rdA 16 rfl fun K A=>?_;go_simp;rw [<-m];clear m;refine xK A (L.o _ E.o) fun i=>?_;clear A K;refine gE ?_;exact Ba ⟨bq,_,_,_,_,_,_,_,_,_,_,_,_,_,_,_,o1,o2,o3,o4,o5,o6,rfl,E.o,an.o,cn.o,bk.o,Q.o,bL (an.o 0 _ rfl)⟩
   ·obtain ⟨l,bg⟩:=nm ((V2.alloc (ze #[O none 0 0,O none 0 0] 50)).drew)
    have g:Ov V2 l:=by rw [bg];exact (bA _ _).drew
    obtain ⟨bq,be⟩:∃ b:Nat,b=V2.heap.size:=⟨_,rfl⟩;have dg:ZB bq l:=by rw [be,bg];exact Jc (DJ _ _)
    have Q:Hx (V2.heap.size<=bq):=by rw [be];exact Nat.le_refl _
    have V:=Aa g;have f4:=Aa dg;go_simp;rw [<-bg,<-be];clear g bg be dg;refine xK A (L.o _ V.o) fun i=>?_;clear A K;refine rdA 14 rfl fun K A=>?_;go_simp;refine (KL.o _ V.o).mono ?_;rintro e W4 ⟨⟨o1,o2,o3,o4,o5,o6,rfl,ab⟩,P⟩;have T:=Aa (Ac V.o P);have z:=Aa (f4.o.over P);have ao:=Aa ab;clear ab P;go_simp;refine xK A (L.o _ T.o) fun i=>?_;clear A K;have d0:=z.o.c0;have d1:=z.o.c1;have z0:=z.o.z0;have z1:=z.o.z1;obtain ⟨W9,m⟩:=nm (BC W4 bq (O o1 o2 o3) (O o4 o5 o6));have E:Hx (Ov V2 W9):=by rw [m];exact B7 T.o Q.o _ _
    have an:Hx (Ad [O o1 o2 o3,O o4 o5 o6] W9 bq):=by rw [m];exact z.o.fill _ _
    have bk:Hx (Aw x.c.n (XW x) W9 (zh #[O o1 o2 o3,O o4 o5 o6]) D):=by rw [m];exact Dm ao.o z.o (by have:=fg.o;have:=Q.o;omega) _ _
    have cn:Hx (W9.frozen? ⟨bq,0,none⟩=false/\W9.frozen? ⟨bq,1,none⟩=false):=by rw [m];unfold BC;exact ⟨by simp [go_sem,z0],by simp [go_sem,z1]⟩
    unfold BC at m;refine rdA 16 rfl fun K A=>?_;go_simp;rw [<-m];clear m;refine xK A (L.o _ E.o) fun i=>?_;clear A K;refine gE ?_;exact Ba ⟨bq,_,_,_,_,_,_,_,_,_,_,_,_,_,_,_,o1,o2,o3,o4,o5,o6,rfl,E.o,an.o,cn.o,bk.o,Q.o,bL (an.o 0 _ rfl)⟩
  rintro je W7 ⟨bc,x29,x30,x31,x32,x33,x34,x35,x36,x37,x38,x39,x40,x41,x42,x43,c1,c2,c3,c4,c5,c6,rfl,as,ct,-,hd,ft,iq⟩;have d5:=Aa (af.o.over as);have hx:=Aa (e4.o.trans (FrW.of_below (Bx x) as));have hm:=Aa (am.o.over as);have eu:=Aa (bh.o.over as);have gg:=Aa (d2.o.over (A5 x) as);have jt:=Aa ct;have hu:=Aa hd;have hn:Hx (∀ W8,WtI x w0 (CC (Bc x K gs ls ms vs fs) s p (C:Int) (BA D p x.c.n)).2 pv W8->FrW (XV x) W7 W8->MF x H oy W C p1 q1 r1 p2 q2 r2 bc c1 c2 c3 c4 c5 c6 W8):=fun W8 Y dq=>by
   have g3:∀ q,V1.heap.size<=q->¬ XV x W7 q:=fun q hq e=>by have:=(e0.o.vlt _ ((Bx x).below _ _ (Ac N.o as) _ e)).2;omega
   exact ⟨Y.cw (j:=0) rfl,Y.cw (j:=1) rfl,Y.cw (j:=2) rfl,by rw [<-hj.o];exact Y.cw (j:=3) rfl,Y.cw (j:=4) rfl,Y.cw (j:=5) rfl,Y.cw (j:=6) rfl,Y.cw (j:=7) rfl,Y.cw (j:=8) rfl,Y.cw (j:=9) rfl,dq.row hm.o (gi.o _ (Nat.le_refl _) ∘ (Bx x).below _ _ (Ac N.o as) _) 1 _ rfl,dq.row eu.o (gi.o _ (by omega) ∘ (Bx x).below _ _ (Ac N.o as) _) 0 _ rfl,dq.row eu.o (gi.o _ (by omega) ∘ (Bx x).below _ _ (Ac N.o as) _) 1 _ rfl,dq.row ct (g3 _ (Nat.le_trans N.o.size ft)) 0 _ rfl,dq.row ct (g3 _ (Nat.le_trans N.o.size ft)) 1 _ rfl⟩
  have bi:Hx (∀ W8,Ov W7 W8->MF x H oy W C p1 q1 r1 p2 q2 r2 bc c1 c2 c3 c4 c5 c6 W8):=fun W8 u=>by
   have Y:=d5.o.over u;exact ⟨Y.cw (j:=0) rfl,Y.cw (j:=1) rfl,Y.cw (j:=2) rfl,by rw [<-hj.o];exact Y.cw (j:=3) rfl,Y.cw (j:=4) rfl,Y.cw (j:=5) rfl,Y.cw (j:=6) rfl,Y.cw (j:=7) rfl,Y.cw (j:=8) rfl,Y.cw (j:=9) rfl,(hm.o.over u) 1 _ rfl,(eu.o.over u) 0 _ rfl,(eu.o.over u) 1 _ rfl,(ct.over u) 0 _ rfl,(ct.over u) 1 _ rfl⟩
  have KF:Hx (∀ (W8:World),Ov W7 W8->Calls Tryz.prog 57 #[(zh #[zd U (x.c.n:Int),O x.c.ga x.c.gn x.c.gc,O x.c.sa x.c.sn x.c.sc,O (some ⟨H,oy,none⟩) x.c.yn x.c.yc,O x.c.oa x.c.on x.c.oc,O x.c.va x.c.vn x.c.vc,O x.c.fa x.c.fn x.c.fc,O x.c.ba x.c.bn x.c.bc,O x.c.la x.c.ln x.c.lc,O x.c.ka x.c.kn x.c.kc]),zh #[O p1 q1 r1,O p2 q2 r2],zh #[O c1 c2 c3,O c4 c5 c6]] W8 fun e w'=>e=zj (zg fb)/\Ov W8 w'):=fun W8 u=>by
   have Y:=d5.o.over u;have ha:=gg.o.over (A5 x) u;have hb:=hu.o.over (A5 x) u;have:=DY x.c gs _ _ _ _ W8 (Af B.o.gr Y.below) B.o.chk ha.at_ ha.len hb.at_ hb.len;rw [h0.o,<-jb.o] at this;exact this
  have KJ:Hx (∀ (W8:World),Ov W7 W8->Calls Tryz.prog 58 #[(zh #[zd U (x.c.n:Int),O x.c.ga x.c.gn x.c.gc,O x.c.sa x.c.sn x.c.sc,O (some ⟨H,oy,none⟩) x.c.yn x.c.yc,O x.c.oa x.c.on x.c.oc,O x.c.va x.c.vn x.c.vc,O x.c.fa x.c.fn x.c.fc,O x.c.ba x.c.bn x.c.bc,O x.c.la x.c.ln x.c.lc,O x.c.ka x.c.kn x.c.kc]),zh #[O c1 c2 c3,O c4 c5 c6],zh #[O p1 q1 r1,O p2 q2 r2]] W8 fun e w'=>(∃ a1 a2 a3 a4 a5 a6,e=zj (zh #[O a1 a2 a3,O a4 a5 a6])/\Aw x.c.n (XW x) w' (zh #[O a1 a2 a3,O a4 a5 a6]) (BA D p x.c.n))/\Ov W8 w'):=fun W8 u=>by
   have Y:=d5.o.over u;have ha:=gg.o.over (A5 x) u;have hb:=hu.o.over (A5 x) u;have:=RC x.c gs _ _ _ _ W8 (Af B.o.gr Y.below) B.o.chk hb.at_ hb.len ha.at_ ha.len;rw [h0.o] at this;refine this.mono fun e w' hh=>?_;obtain ⟨vj,rfl,hf,g8⟩:=hh;obtain ⟨a1,a2,a3,a4,a5,a6,rfl,hl⟩:=L7 Y g8 hf (NG _ _ _);exact ⟨⟨a1,a2,a3,a4,a5,a6,rfl,hl⟩,g8⟩
  have ak:Hx (∀ (W8:World) {y:Value},Ov W7 W8->Aw x.c.n (XW x) W8 y (BA D p x.c.n)->Calls Tryz.prog 121 #[zi (some ⟨x.bw,0,none⟩),zh #[O p1 q1 r1,O p2 q2 r2],zd U (C:Int),y] W8 fun e W'=>e=zj (zg (CC (Bc x K gs ls ms vs fs) s p (C:Int) (BA D p x.c.n)).1)/\WtI x w0 (CC (Bc x K gs ls ms vs fs) s p (C:Int) (BA D p x.c.n)).2 pv W'/\FrW (XV x) W8 W'):=fun W8 y u hy=>FK x w0 K kf gs ls ms vs fs B.o s pv W8 (d5.o.over u) dy.o _ _ p _ (gg.o.over (A5 x) u) hy C hv.o;have av:Hx (Ov W7 W7.drew):=(bD _);clear as ct hd ft iq u0 u1 u2 u3 u4 u5 u6 u7 u8 u10 u11 u12 u13 L bl;cases fb with
  | false=>
   go_wp2_with fail;refine gS (MF x H oy W C p1 q1 r1 p2 q2 r2 bc c1 c2 c3 c4 c5 c6) (bi.o _ av.o) fun i=>?_;refine kT 0 ?_;refine kT 1 ?_;refine kT 2 ?_;refine kT 3 ?_;refine kT 4 ?_;refine kT 5 ?_;refine rdA 6 rfl fun K A=>?_;go_simp;refine (KF.o _ av.o).mono ?_;rintro e W8 ⟨rfl,u⟩;have ap:=Aa (Ac av.o u);clear u;go_simp;refine xK A (bi.o _ ap.o) fun i=>?_;clear A K;refine kT 7 ?_;refine kU 8 ?_;refine kU 9 ?_;refine kU 10 ?_;refine kU 11 ?_;refine kU 12 ?_;refine kU 13 ?_;refine kU 14 ?_;refine kU 15 ?_;refine kU 16 ?_;refine kU 17 ?_;refine kU 18 ?_;refine kU 19 ?_;refine kT 20 ?_;refine kT 21 ?_;refine gE ?_;go_wp2_with fail;go_ret;exact ⟨by rw [ex.o.2 (by first | rfl | trivial)];first | rfl | simp,by rw [ex.o.2 (by first | rfl | trivial)];exact d5.o.over ap.o,hx.o.trans (FrW.of_below (Bx x) ap.o)⟩
  | true=>
   go_wp2_with fail;refine gS (MF x H oy W C p1 q1 r1 p2 q2 r2 bc c1 c2 c3 c4 c5 c6) (bi.o _ av.o) fun i=>?_;refine kT 0 ?_;refine kT 1 ?_;refine kT 2 ?_;refine kT 3 ?_;refine kT 4 ?_;refine kT 5 ?_;refine rdA 6 rfl fun K A=>?_;go_simp;refine (KF.o _ av.o).mono ?_;rintro e W8 ⟨rfl,u⟩;have ap:=Aa (Ac av.o u);clear u;go_simp;refine xK A (bi.o _ ap.o) fun i=>?_;clear A K;refine kT 7 ?_;refine kT 8 ?_;refine kT 9 ?_;refine kT 10 ?_;refine kT 11 ?_;refine kT 12 ?_;refine kT 13 ?_;refine kT 14 ?_;refine kT 15 ?_;refine kT 16 ?_;refine kT 17 ?_;refine rdA 18 rfl fun K A=>?_;go_simp;refine (KJ.o _ ap.o).mono ?_;rintro e W9 ⟨⟨j1,j2,j3,j4,j5,j6,rfl,he⟩,dr⟩;have E:=Aa (Ac ap.o dr);have bk:=Aa he;clear he dr;go_simp;refine xK A (bi.o _ E.o) fun i=>?_;clear A K;refine rdA 19 rfl fun K A=>?_;go_simp;refine (ak.o _ E.o bk.o).mono ?_;rintro e iz ⟨rfl,e8,dw⟩;have fh:=Aa e8;have hz:=Aa dw;have ho:=Aa (hn.o iz fh.o (FrW.trans (FrW.of_below (Bx x) E.o) dw));clear e8 dw;go_simp;refine xK A (ho.o) fun i=>?_;clear A K;refine kT 20 ?_;refine kT 21 ?_;refine gE ?_;go_wp2_with fail;go_ret;exact ⟨by rw [ex.o.1 (by first | rfl | trivial)];first | rfl | simp,by rw [ex.o.1 (by first | rfl | trivial)];exact fh.o,(hx.o.trans (FrW.of_below (Bx x) E.o)).trans hz.o⟩
 ·
  have fq:0<=Ae d/\Ae d < ms.length:=gh.o.2.2.2.2.2.2 (by omega);obtain ⟨jo,cg⟩:∃ q:Nat,Ae d=(q:Int):=⟨(Ae d).toNat,by omega⟩;obtain ⟨fk,h9,h7,fm,di⟩:=B.o.outs;injection fm with y1 y2 y3;have Z:jo < ms.length:=by omega
  obtain ⟨H,oy,dh,b0⟩:=di (by intro h;rw [h] at Z;simp at Z);obtain ⟨pr,pw,l0,l1,cd,cc⟩:=b0 jo Z;obtain ⟨bb,a0,a8,rfl⟩:=Az cd;obtain ⟨a9,az,a7,rfl⟩:=Az cc;have b7:x.c.oa=some ⟨H,oy,none⟩:=y1.trans dh;have fj:x.c.on=ms.length:=y2;have dp:=B.o.ochk ms[jo] (List.getElem_mem Z);have fr:=B.o.o5;have it:(jo:Int) < (x.c.on:Int):=by omega
  have is:x.c.on<=5:=by omega
  have ci:x.c.v=(zh #[zd U (x.c.n:Int),O x.c.ga x.c.gn x.c.gc,O x.c.sa x.c.sn x.c.sc,O x.c.ya x.c.yn x.c.yc,O (some ⟨H,oy,none⟩) x.c.on x.c.oc,O x.c.va x.c.vn x.c.vc,O x.c.fa x.c.fn x.c.fc,O x.c.ba x.c.bn x.c.bc,O x.c.la x.c.ln x.c.lc,O x.c.ka x.c.kn x.c.kc]):=by show Value.agg #[zd U (x.c.n:Int),O x.c.ga x.c.gn x.c.gc,O x.c.sa x.c.sn x.c.sc,O x.c.ya x.c.yn x.c.yc,O x.c.oa x.c.on x.c.oc,O x.c.va x.c.vn x.c.vc,O x.c.fa x.c.fn x.c.fc,O x.c.ba x.c.bn x.c.bc,O x.c.la x.c.ln x.c.lc,O x.c.ka x.c.kn x.c.kc]=_;rw [b7]
  obtain ⟨D,X⟩:=nm (Ar (Ax gs) x.c.n ms[jo]);have ax:D.len x.c.n:=by rw [X];exact Dl _ _ _
  have KL:Hx (∀ (l:World),Ov V2 l->Calls Tryz.prog 114 #[(zh #[zd U (x.c.n:Int),O x.c.ga x.c.gn x.c.gc,O x.c.sa x.c.sn x.c.sc,O x.c.ya x.c.yn x.c.yc,O (some ⟨H,oy,none⟩) x.c.on x.c.oc,O x.c.va x.c.vn x.c.vc,O x.c.fa x.c.fn x.c.fc,O x.c.ba x.c.bn x.c.bc,O x.c.la x.c.ln x.c.lc,O x.c.ka x.c.kn x.c.kc]),zh #[O bb a0 a8,O a9 az a7]] l fun e w'=>(∃ a1 a2 a3 a4 a5 a6,e=zj (zh #[O a1 a2 a3,O a4 a5 a6])/\Aw x.c.n (XW x) w' (zh #[O a1 a2 a3,O a4 a5 a6]) D)/\Ov l w'):=fun l g=>by
   have G:=af.o.over g;have:=Hh x.c gs (O bb a0 a8) (O a9 az a7) ms[jo] l (Af B.o.gr G.below) (Ak cd G.below) (Ak cc G.below) dp;rw [ci,<-X] at this;refine this.mono fun e w' hh=>?_;obtain ⟨vj,rfl,hf,hb⟩:=hh;obtain ⟨a1,a2,a3,a4,a5,a6,rfl,hl⟩:=L7 G hb hf ax;exact ⟨⟨a1,a2,a3,a4,a5,a6,rfl,hl⟩,hb⟩
  obtain rfl:ot=(jo:Int):=by rw [hr.o,cg]
  obtain ⟨fb,ch⟩:=nm (Av M D x.c.n);have cz:Hx (R=(fb,s)):=by
   have e2:(Bc x K gs ls ms vs fs).outs.getD (Ae d).toNat Ah=D:=by
    rw [X,cg];unfold Bc;simp [List.getD_eq_getElem?_getD,Z]
   rw [HR.o];unfold doX;rw [if_neg (by omega),if_neg (by omega),if_pos (by omega),e2,e5.o,ch];exact Aa rfl
  have KF:Hx (∀ (W8:World) {y:Value},Ov V2 W8->Aw x.c.n (XW x) W8 y D->Calls Tryz.prog 57 #[(zh #[zd U (x.c.n:Int),O x.c.ga x.c.gn x.c.gc,O x.c.sa x.c.sn x.c.sc,O x.c.ya x.c.yn x.c.yc,O (some ⟨H,oy,none⟩) x.c.on x.c.oc,O x.c.va x.c.vn x.c.vc,O x.c.fa x.c.fn x.c.fc,O x.c.ba x.c.bn x.c.bc,O x.c.la x.c.ln x.c.lc,O x.c.ka x.c.kn x.c.kc]),zh #[O o1 o2 o3,O o4 o5 o6],y] W8 fun e w'=>e=zj (zg fb)/\Ov W8 w'):=fun W8 y u hy=>by
   have Y:=af.o.over u;have ha:=ez.o.over (A5 x) u;have:=DY x.c gs _ y _ _ W8 (Af B.o.gr Y.below) B.o.chk ha.at_ ha.len hy.at_ hy.len;rw [ci,<-ch] at this;exact this
  have bi:Hx (∀ l,Ov V2 l->Q5 x H oy W jo bz o1 o2 o3 o4 o5 o6 bb a0 a8 a9 az a7 l):=fun l g=>by
   have G:=af.o.over g;exact ⟨G.cw (j:=0) rfl,G.cw (j:=1) rfl,G.cw (j:=2) rfl,G.cw (j:=3) rfl,by rw [<-b7];exact G.cw (j:=4) rfl,G.cw (j:=5) rfl,G.cw (j:=6) rfl,G.cw (j:=7) rfl,G.cw (j:=8) rfl,G.cw (j:=9) rfl,(am.o.over g) 2 _ rfl,(au.o.over g) 0 _ rfl,(au.o.over g) 1 _ rfl,Ab G.below _ _ l0,Ab G.below _ _ l1⟩
  have av:Hx (Ov V2 V2.drew):=(bD _);obtain ⟨u0,u1,u2,u3,u4,u5,u6,u7,u8⟩:=rc9 am.o;obtain ⟨u10,u11⟩:=rc2 bh.o;obtain ⟨u12,u13⟩:=rc2 au.o;clear ar b7 fj l0 l1 fq ch X ax ci cg fk di y1 y2 y3 Z dh b0 cd cc dp fr;go_wp2_with fail;refine gS (Q5 x H oy W jo bz o1 o2 o3 o4 o5 o6 bb a0 a8 a9 az a7) (bi.o _ av.o) fun i=>?_;refine kT 0 ?_;refine kT 1 ?_;refine kT 2 ?_;refine kT 3 ?_;refine kT 4 ?_;refine kT 5 ?_;refine kT 6 ?_;refine kT 7 ?_;refine kT 8 ?_;refine kT 9 ?_;refine kT 10 ?_;refine kT 11 ?_;refine kT 12 ?_;refine kT 13 ?_;refine kT 14 ?_;refine kT 15 ?_;refine kT 16 ?_;refine kT 17 ?_;refine kT 18 ?_;refine rdA 19 rfl fun K A=>?_;go_simp;refine (KL.o _ av.o).mono ?_;rintro e W8 ⟨⟨c1,c2,c3,c4,c5,c6,rfl,hg⟩,u⟩;have ap:=Aa (Ac av.o u);have i8:=Aa hg;clear hg u;go_simp;refine xK A (bi.o _ ap.o) fun i=>?_;clear A K;refine rdA 20 rfl fun K A=>?_;go_simp;refine (KF.o _ ap.o i8.o).mono ?_;rintro e W9 ⟨rfl,dr⟩;have E:=Aa (Ac ap.o dr);clear dr;go_simp;refine xK A (bi.o _ E.o) fun i=>?_;clear A K;refine kT 21 ?_;refine gE ?_;go_wp2_with fail;go_ret;exact ⟨by rw [cz.o];rfl,by rw [cz.o];exact af.o.over E.o,e4.o.trans (FrW.of_below (Bx x) E.o)⟩
 ·
  obtain ⟨C,F⟩:∃ q:Nat,Ap d=(q:Int):=⟨(Ap d).toNat,by have:=HV.o (by omega);omega⟩;obtain rfl:vr=(C:Int):=by rw [ev.o,F]
  obtain ⟨u0,u1,u2,u3,u4,u5,u6,u7,u8⟩:=rc9 am.o;obtain ⟨u10,u11⟩:=rc2 bh.o;obtain ⟨u12,u13⟩:=rc2 au.o;have t:C < vs.length:=by have:=HV.o (by omega);omega
  have dx:Hx (∀ (l:World),Ov V2 l->Calls Tryz.prog 188 #[zi (some ⟨x.bw,0,none⟩),zd U (C:Int)] l fun e W'=>∃ a1 a2 a3 a4 a5 a6,e=zj (zh #[O a1 a2 a3,O a4 a5 a6])/\Aw x.c.n (XW x) W' (zh #[O a1 a2 a3,O a4 a5 a6]) (Ar (Ax gs) x.c.n vs[C].2)/\Ov l W'):=fun l g=>Ms x w0 K kf gs ls ms vs fs B.o s pv l (af.o.over g) C t;obtain ⟨tb,cb⟩:=nm ((vs[C].1 && !x.fl.any (fun f=>decide (f.1=a) && (decide (f.2=6) || decide (f.2=7)))));have KT:Hx (∀ (l:World),WtI x w0 s pv l->Calls Tryz.prog 189 #[zi (some ⟨x.bw,0,none⟩),zh #[zd U 5,zd U (C:Int),zd U ot,zd U ek,zd U en,O xa xl xc,O aa al ac,O ta tl tc,O ea el ec],zd U a] l fun e W'=>e=zj (zg tb)/\Ov l W'):=fun l G=>by
   rw [cb];exact Ki x w0 K kf gs ls ms vs fs B.o s pv l G a 5 ot ek en xa xl xc aa al ac ta tl tc ea el ec C t
  obtain ⟨lb,cf⟩:=nm (Ar (Ax gs) x.c.n vs[C].2);have bj:Hx ((tb=true->R=CC (Bc x K gs ls ms vs fs) s p (C:Int) ⟨lb.r,M.w⟩)/\(tb=false->R=(false,s))):=by
   have e1:E3 (Bc x K gs ls ms vs fs) a d=tb:=by
    rw [cb];unfold E3 Bc;rw [F];simp [List.getD_eq_getElem?_getD,t]
   have e2:(Bc x K gs ls ms vs fs).bound.getD (Ap d).toNat Ah=lb:=by
    rw [cf,F];unfold Bc;simp [List.getD_eq_getElem?_getD,t]
   have e3:R=if tb=true then CC (Bc x K gs ls ms vs fs) s p (C:Int) ⟨lb.r,M.w⟩ else (false,s):=by
    rw [HR.o];unfold doX;rw [if_neg (by omega),if_neg (by omega),if_neg (by omega),if_pos (by omega),e1,e2,e5.o,F]
   exact ⟨fun ht=>by rw [e3,if_pos ht],fun ht=>by rw [e3,ht];rfl⟩
  rw [<-cf] at dx;have f0:=et.o.1;have f1:=et.o.2;have ip:=I3;clear cb cf F ar;go_wp2_with fail;refine (dx.o _ (Below.refl _ _)).mono ?_;rintro e l ⟨b1,b2,b3,b4,b5,b6,rfl,ag,g⟩;have rb:=(au.o.over g);obtain ⟨k0,k1⟩:=rc2 rb;have f0:=((An g).2 _ 0 ey.o).trans f0;have f1:=((An g).2 _ 1 ey.o).trans f1;have dn:=ag.mix (ez.o.over (A5 x) g);have ce:=hs.o;have ab:Aw x.c.n (XW x) (l.setCell ⟨bz,0,none⟩ (O b1 b2 b3)) (zh #[O b1 b2 b3,O o4 o5 o6]) ⟨lb.r,M.w⟩:=CG dn k0 ce _;have cj:=CG (d2.o.over (A5 x) g) k0 ce (O b1 b2 b3);have ad:Ov V1 (l.setCell ⟨bz,0,none⟩ (O b1 b2 b3)):=(N.o.trans (g.mono N.o.size)).setCell (p:=⟨bz,0,none⟩) c7.o _;have ca:Ad [O b1 b2 b3,O o4 o5 o6] (l.setCell ⟨bz,0,none⟩ (O b1 b2 b3)) bz:=by
   have r:=BK (j:=0) (v:=O b1 b2 b3) rb (by simp);simpa using r
  obtain ⟨W4,J⟩:=nm (l.setCell ⟨bz,0,none⟩ (O b1 b2 b3));rw [<-J] at ab cj ad ca;have T:=Aa ad;have ao:=Aa ab;have gf:=Aa cj;have d4:=Aa (e0.o.over ad);have cz:=Aa ca;have f9:=Aa (gb.o.over ad);have f7:=Aa (f5.o.over ad);have dv:=am.o.over g;have du:=bh.o.over g;obtain ⟨m0,m1,m2,m3,m4,m5,m6,m7,m8⟩:=rc9 dv;obtain ⟨de,dd⟩:=rc2 du;have b9:W.heap.size≠bz:=by have:=c7.o;have:=ew.o;omega
  have b8:W.heap.size+1≠bz:=by have:=c7.o;have:=ew.o;omega
  have dm:=Ne.symm b9;have dl:=Ne.symm b8;clear ab cj ad ca dn ce ag g rb dv du;go_wp2_with fail;rw [<-J];clear J k0 k1 f0 f1;refine (KT.o _ d4.o).mono ?_;rintro e W5 ⟨rfl,I⟩;have d3:=Aa (d4.o.over I);have d6:=Aa (gm.o.trans (FrW.of_below (Bx x) (Ac T.o I)));have f8:=Aa (f9.o.over I);have f6:=Aa (f7.o.over I);have gd:=Aa (cz.o.over I);have gj:=Aa (ao.o.over (A5 x) I);have ge:=Aa (gf.o.over (A5 x) I);clear I m0 m1 m2 m3 m4 m5 m6 m7 m8 de dd b9 b8 dm dl;cases tb with
  | false=>
   go_wp2_with fail;go_ret;exact ⟨by rw [bj.o.2 (by first | rfl | trivial)];first | rfl | simp,by rw [bj.o.2 (by first | rfl | trivial)];exact d3.o,d6.o⟩
  | true=>
   have m1:=f8.o 1 _ rfl;obtain ⟨de,dd⟩:=rc2 f6.o;obtain ⟨il,ik⟩:=rc2 gd.o;have ak:=Aa (FK x w0 K kf gs ls ms vs fs B.o s pv W5 d3.o dy.o _ _ p ⟨lb.r,M.w⟩ ge.o gj.o C t);clear t;go_wp2_with fail;refine (ak.o).mono ?_;rintro e W6 ⟨rfl,ah,ai⟩;have cm:=Aa ah;have co:=Aa (d6.o.trans ai);clear ah ai;go_wp2_with fail;go_ret;exact ⟨by rw [bj.o.1 (by first | rfl | trivial)];first | rfl | simp,by rw [bj.o.1 (by first | rfl | trivial)];exact cm.o,co.o⟩
 ·
  obtain ⟨C,F⟩:∃ q:Nat,Ap d=(q:Int):=⟨(Ap d).toNat,by have:=HV.o (by omega);omega⟩;obtain rfl:vr=(C:Int):=by rw [ev.o,F]
  obtain ⟨u0,u1,u2,u3,u4,u5,u6,u7,u8⟩:=rc9 am.o;obtain ⟨u10,u11⟩:=rc2 bh.o;obtain ⟨u12,u13⟩:=rc2 au.o;have t:C < vs.length:=by have:=HV.o (by omega);omega
  have dx:Hx (∀ (l:World),Ov V2 l->Calls Tryz.prog 188 #[zi (some ⟨x.bw,0,none⟩),zd U (C:Int)] l fun e W'=>∃ a1 a2 a3 a4 a5 a6,e=zj (zh #[O a1 a2 a3,O a4 a5 a6])/\Aw x.c.n (XW x) W' (zh #[O a1 a2 a3,O a4 a5 a6]) (Ar (Ax gs) x.c.n vs[C].2)/\Ov l W'):=fun l g=>Ms x w0 K kf gs ls ms vs fs B.o s pv l (af.o.over g) C t;obtain ⟨tb,cb⟩:=nm ((vs[C].1 && !x.fl.any (fun f=>decide (f.1=a) && (decide (f.2=6) || decide (f.2=7)))));have KT:Hx (∀ (l:World),WtI x w0 s pv l->Calls Tryz.prog 189 #[zi (some ⟨x.bw,0,none⟩),zh #[zd U 6,zd U (C:Int),zd U ot,zd U ek,zd U en,O xa xl xc,O aa al ac,O ta tl tc,O ea el ec],zd U a] l fun e W'=>e=zj (zg tb)/\Ov l W'):=fun l G=>by
   rw [cb];exact Ki x w0 K kf gs ls ms vs fs B.o s pv l G a 6 ot ek en xa xl xc aa al ac ta tl tc ea el ec C t
  obtain ⟨lb,cf⟩:=nm (Ar (Ax gs) x.c.n vs[C].2);have bj:Hx ((tb=true->R=CC (Bc x K gs ls ms vs fs) s p (C:Int) ⟨M.r,lb.w⟩)/\(tb=false->R=(false,s))):=by
   have e1:E3 (Bc x K gs ls ms vs fs) a d=tb:=by
    rw [cb];unfold E3 Bc;rw [F];simp [List.getD_eq_getElem?_getD,t]
   have e2:(Bc x K gs ls ms vs fs).bound.getD (Ap d).toNat Ah=lb:=by
    rw [cf,F];unfold Bc;simp [List.getD_eq_getElem?_getD,t]
   have e3:R=if tb=true then CC (Bc x K gs ls ms vs fs) s p (C:Int) ⟨M.r,lb.w⟩ else (false,s):=by
    rw [HR.o];unfold doX;rw [if_neg (by omega),if_neg (by omega),if_neg (by omega),if_neg (by omega),if_pos (by omega),e1,e2,e5.o,F]
   exact ⟨fun ht=>by rw [e3,if_pos ht],fun ht=>by rw [e3,ht];rfl⟩
  rw [<-cf] at dx;have f0:=et.o.1;have f1:=et.o.2;have ip:=I3;clear cb cf F ar;go_wp2_with fail;refine (dx.o _ (Below.refl _ _)).mono ?_;rintro e l ⟨b1,b2,b3,b4,b5,b6,rfl,ag,g⟩;have rb:=(au.o.over g);obtain ⟨k0,k1⟩:=rc2 rb;have f0:=((An g).2 _ 0 ey.o).trans f0;have f1:=((An g).2 _ 1 ey.o).trans f1;have dn:=(ez.o.over (A5 x) g).mix ag;have ce:=hs.o;have ab:Aw x.c.n (XW x) (l.setCell ⟨bz,1,none⟩ (O b4 b5 b6)) (zh #[O o1 o2 o3,O b4 b5 b6]) ⟨M.r,lb.w⟩:=CG dn k1 ce _;have cj:=CG (d2.o.over (A5 x) g) k1 ce (O b4 b5 b6);have ad:Ov V1 (l.setCell ⟨bz,1,none⟩ (O b4 b5 b6)):=(N.o.trans (g.mono N.o.size)).setCell (p:=⟨bz,1,none⟩) c7.o _;have ca:Ad [O o1 o2 o3,O b4 b5 b6] (l.setCell ⟨bz,1,none⟩ (O b4 b5 b6)) bz:=by
   have r:=BK (j:=1) (v:=O b4 b5 b6) rb (by simp);simpa using r
  obtain ⟨W4,J⟩:=nm (l.setCell ⟨bz,1,none⟩ (O b4 b5 b6));rw [<-J] at ab cj ad ca;have T:=Aa ad;have ao:=Aa ab;have gf:=Aa cj;have d4:=Aa (e0.o.over ad);have cz:=Aa ca;have f9:=Aa (gb.o.over ad);have f7:=Aa (f5.o.over ad);have dv:=am.o.over g;have du:=bh.o.over g;obtain ⟨m0,m1,m2,m3,m4,m5,m6,m7,m8⟩:=rc9 dv;obtain ⟨de,dd⟩:=rc2 du;have b9:W.heap.size≠bz:=by have:=c7.o;have:=ew.o;omega
  have b8:W.heap.size+1≠bz:=by have:=c7.o;have:=ew.o;omega
  have dm:=Ne.symm b9;have dl:=Ne.symm b8;clear ab cj ad ca dn ce ag g rb dv du;go_wp2_with fail;rw [<-J];clear J k0 k1 f0 f1;refine (KT.o _ d4.o).mono ?_;rintro e W5 ⟨rfl,I⟩;have d3:=Aa (d4.o.over I);have d6:=Aa (gm.o.trans (FrW.of_below (Bx x) (Ac T.o I)));have f8:=Aa (f9.o.over I);have f6:=Aa (f7.o.over I);have gd:=Aa (cz.o.over I);have gj:=Aa (ao.o.over (A5 x) I);have ge:=Aa (gf.o.over (A5 x) I);clear I m0 m1 m2 m3 m4 m5 m6 m7 m8 de dd b9 b8 dm dl;cases tb with
  | false=>
   go_wp2_with fail;go_ret;exact ⟨by rw [bj.o.2 (by first | rfl | trivial)];first | rfl | simp,by rw [bj.o.2 (by first | rfl | trivial)];exact d3.o,d6.o⟩
  | true=>
   have m1:=f8.o 1 _ rfl;obtain ⟨de,dd⟩:=rc2 f6.o;obtain ⟨il,ik⟩:=rc2 gd.o;have ak:=Aa (FK x w0 K kf gs ls ms vs fs B.o s pv W5 d3.o dy.o _ _ p ⟨M.r,lb.w⟩ ge.o gj.o C t);clear t;go_wp2_with fail;refine (ak.o).mono ?_;rintro e W6 ⟨rfl,ah,ai⟩;have cm:=Aa ah;have co:=Aa (d6.o.trans ai);clear ah ai;go_wp2_with fail;go_ret;exact ⟨by rw [bj.o.1 (by first | rfl | trivial)];first | rfl | simp,by rw [bj.o.1 (by first | rfl | trivial)];exact cm.o,co.o⟩
abbrev Q4 (x:WX) (g pl cap:Nat) (W:World) (dp:Nat) (kd vr ot ek en:Int) (xa:Option Addr) (xl xc:Nat) (aa:Option Addr) (al ac:Nat) (ta:Option Addr) (tl tc:Nat) (ea:Option Addr) (el ec:Nat) (p1:Option Addr) (q1 r1:Nat) (p2:Option Addr) (q2 r2:Nat) (Wz:World):Prop:=Wz.cell? ⟨x.bw,11,none⟩=some (O (some ⟨g,0,none⟩) pl cap)/\CE Wz W.heap.size 2 (zd U (dp:Int))/\CE Wz W.heap.size 3 (zd U kd)/\CE Wz W.heap.size 4 (zd U vr)/\CE Wz W.heap.size 5 (zd U ot)/\CE Wz W.heap.size 6 (zd U ek)/\CE Wz W.heap.size 7 (zd U en)/\CE Wz W.heap.size 8 (O xa xl xc)/\CE Wz W.heap.size 9 (O aa al ac)/\CE Wz W.heap.size 10 (O ta tl tc)/\CE Wz W.heap.size 11 (O ea el ec)/\CE Wz g (dp*2) (O p1 q1 r1)/\CE Wz g (dp*2+1) (O p2 q2 r2)
abbrev ME (x:WX) (W:World) (dp bp:Nat) (p1:Option Addr) (q1 r1:Nat) (p2:Option Addr) (q2 r2 bs:Nat) (ek en:Int) (xa:Option Addr) (xl xc:Nat) (Wz:World):Prop:=Wz.cell? ⟨x.bw,1,none⟩=some (zd U (x.c.n:Int))/\CE Wz x.bw 2 (O x.c.ga x.c.gn x.c.gc)/\CE Wz x.bw 3 (O x.c.sa x.c.sn x.c.sc)/\CE Wz x.bw 4 (O x.c.ya x.c.yn x.c.yc)/\CE Wz x.bw 5 (O x.c.oa x.c.on x.c.oc)/\CE Wz x.bw 6 (O x.c.va x.c.vn x.c.vc)/\CE Wz x.bw 7 (O x.c.fa x.c.fn x.c.fc)/\CE Wz x.bw 8 (O x.c.ba x.c.bn x.c.bc)/\CE Wz x.bw 9 (O x.c.la x.c.ln x.c.lc)/\CE Wz x.bw 10 (O x.c.ka x.c.kn x.c.kc)/\CE Wz W.heap.size 2 (zd U (dp:Int))/\CE Wz bp 0 (O p1 q1 r1)/\CE Wz bp 1 (O p2 q2 r2)/\CE Wz bs 3 (zd U ek)/\CE Wz bs 4 (zd U en)/\CE Wz bs 5 (O xa xl xc)
abbrev Ol (x:WX) (W:World) (dp bs:Nat) (ek en:Int) (xa:Option Addr) (xl xc:Nat) (Wz:World):Prop:=Wz.cell? ⟨x.bw,1,none⟩=some (zd U (x.c.n:Int))/\CE Wz x.bw 2 (O x.c.ga x.c.gn x.c.gc)/\CE Wz x.bw 3 (O x.c.sa x.c.sn x.c.sc)/\CE Wz x.bw 4 (O x.c.ya x.c.yn x.c.yc)/\CE Wz x.bw 5 (O x.c.oa x.c.on x.c.oc)/\CE Wz x.bw 6 (O x.c.va x.c.vn x.c.vc)/\CE Wz x.bw 7 (O x.c.fa x.c.fn x.c.fc)/\CE Wz x.bw 8 (O x.c.ba x.c.bn x.c.bc)/\CE Wz x.bw 9 (O x.c.la x.c.ln x.c.lc)/\CE Wz x.bw 10 (O x.c.ka x.c.kn x.c.kc)/\CE Wz W.heap.size 2 (zd U (dp:Int))/\CE Wz bs 3 (zd U ek)/\CE Wz bs 4 (zd U en)/\CE Wz bs 5 (O xa xl xc)
abbrev Ok (x:WX) (b8 z8 bp:Nat) (p1:Option Addr) (q1 r1:Nat) (p2:Option Addr) (q2 r2 bs jv j:Nat) (rk rn:Int) (ra:Option Addr) (rl rc:Nat) (Wz:World):Prop:=Wz.cell? ⟨x.bw,1,none⟩=some (zd U (x.c.n:Int))/\CE Wz x.bw 2 (O x.c.ga x.c.gn x.c.gc)/\CE Wz x.bw 3 (O x.c.sa x.c.sn x.c.sc)/\CE Wz x.bw 4 (O x.c.ya x.c.yn x.c.yc)/\CE Wz x.bw 5 (O x.c.oa x.c.on x.c.oc)/\CE Wz x.bw 6 (O x.c.va x.c.vn x.c.vc)/\CE Wz x.bw 7 (O (some ⟨b8,z8,none⟩) x.c.fn x.c.fc)/\CE Wz x.bw 8 (O x.c.ba x.c.bn x.c.bc)/\CE Wz x.bw 9 (O x.c.la x.c.ln x.c.lc)/\CE Wz x.bw 10 (O x.c.ka x.c.kn x.c.kc)/\CE Wz bp 0 (O p1 q1 r1)/\CE Wz bp 1 (O p2 q2 r2)/\CE Wz bs 1 (zd U (jv:Int))/\CE Wz bs 2 (zd U (j:Int))/\CE Wz b8 (z8+j*5+2) (zd U rk)/\CE Wz b8 (z8+j*5+3) (zd U rn)/\CE Wz b8 (z8+j*5+4) (O ra rl rc)
theorem TC (x) (w0:World) (K kf:Nat) (gs ls ms vs fs) (S:WtS x w0 K kf gs ls ms vs fs) (s:WSt) (pv:Value) (W:World) (h:WtI x w0 s pv W) (hvl:s.vs.length=vs.length) (kind:Nat) (a:Int) (dp k:Nat) (cs:List Value) (d) (funcs:Int) (hrs:RS w0 K (k+1) cs d) (hfn:funcs<=fs.length) (hok:Cx K vs.length ls.length ms.length funcs fs d) (hd:dp < s.ps.length) (hd9:dp<=9000) (hps:s.ps.length<=20000)
  (hkind:kind=1\/(kind=2/\Ag d=8/\dp+1 < s.ps.length)\/(kind=3/\Ag d=2)) :
  Calls Tryz.prog 64 #[zi (some ⟨x.bw,0,none⟩),.agg (zd U kind::zd U a::zd U dp::cs).toArray] W fun e W'=>e=zj (zg (obW (Bc x K gs ls ms vs fs) kind a dp d s).1)/\(∃ pv',WtI x w0 (obW (Bc x K gs ls ms vs fs) kind a dp d s).2 pv' W')/\FrW (XV x) W W':=by
 obtain ⟨ek,en,xa,xl,xc,aa,ac,ta,tc,ea,ec,rfl,i0,i1,i2,hX,hA,hT,hE,-,-,-⟩:=hrs.form;have bi:=hrs;obtain ⟨kd,ax⟩:=nm (Ag d);obtain ⟨vr,ca⟩:=nm (Ap d);obtain ⟨ot,ce⟩:=nm (Ae d);obtain ⟨al,di⟩:=nm ((Ai d).length);obtain ⟨tl,cy⟩:=nm ((Aj d).length);obtain ⟨el,dg⟩:=nm ((Ao d).length);rw [<-ax,<-ca,<-ce,<-di,<-cy,<-dg] at bi ⊢;obtain ⟨R,hR⟩:=nm (obW (Bc x K gs ls ms vs fs) kind a dp d s);rw [<-hR];have HR:=Aa hR;obtain ⟨g,dj,M,J,H,L,I,G,eq,k0,k1,cf⟩:=h.pls.cells hd;subst eq;obtain ⟨p,cb⟩:=nm (s.ps[dp]);rw [<-cb] at cf;have cl:Hx (s.ps.getD dp Ah=p):=by rw [cb];exact Aa (by simp [List.getD_eq_getElem?_getD,hd])
 obtain ⟨pl,cd⟩:=nm s.ps.length;obtain ⟨V,bk⟩:=nm ((W.alloc (ze #[zd U (kind:Int),zd U a,zd U (dp:Int),zd U kd,zd U vr,zd U ot,zd U ek,zd U en,O xa xl xc,O aa al ac,O ta tl tc,O ea el ec] 132)));have a7:Ov W V:=by rw [bk];exact bA W _
 have A:Ad [zd U (kind:Int),zd U a,zd U (dp:Int),zd U kd,zd U vr,zd U ot,zd U ek,zd U en,O xa xl xc,O aa al ac,O ta tl tc,O ea el ec] V W.heap.size:=by rw [bk];exact Ad.new _ _ _
 have h1:=h.over a7;have fd:=Aa A;have fk:=Aa h1;have dm:=Aa (cf.over (A5 x) a7);have fl:=Aa (FrW.of_below (Bx x) a7);have dk:Hx (W.heap.size < V.heap.size):=by rw [bk];exact Aa (by simp)
 have cm:Hx (∀ q,W.heap.size<=q->∀ W8,Ov V W8->¬ XV x W8 q):=fun q hq W8 w e=>by have:=(h.vlt _ ((Bx x).below _ _ (Ac a7 w) _ e)).2;omega
 have u:=Aa S;have a4:=Aa hvl;have fb:=Aa ca;have fg:=Aa ce;have fe:=Aa bi;have bg:=Aa hok;have dn:=Aa hfn;have HX:=Aa hX;have dq:=Aa hd;have ff:=Aa cd;have fo:=Aa (Ab a7 _ _ k0);have fm:=Aa (Ab a7 _ _ k1);have ao:Hx (∀ W2,Ov V W2->Q4 x g pl dj W dp kd vr ot ek en xa xl xc aa al ac ta tl tc ea el ec M J H L I G W2):=fun W2 X=>by
  have h2:=h1.over X;exact ⟨by rw [cd];exact h2.c11,(A.over X) 2 _ rfl,(A.over X) 3 _ rfl,(A.over X) 4 _ rfl,(A.over X) 5 _ rfl,(A.over X) 6 _ rfl,(A.over X) 7 _ rfl,(A.over X) 8 _ rfl,(A.over X) 9 _ rfl,(A.over X) 10 _ rfl,(A.over X) 11 _ rfl,Ab X _ _ fo.o,Ab X _ _ fm.o⟩
 have fx:(dp:Int) < (pl:Int):=by omega
 have ft:pl<=20000:=by omega
 have fj:=Aa ax;have fi:=Aa hkind;clear hX hA hT hE hrs bi h A a7 hok hvl hfn h1 S ax ca ce di cy dg i0 i1 i2 hR cf cb cd hps hd k0 k1;go_enter Tryz.func64,Tryz.ntmps64;go_wp2_with fail;rw [<-bk];clear bk;refine Cw (fun b2 Wn=>∃ (bp bs:Nat) (x7 x8 x9 x10 x11 x12 x13 x14 x15 x16:Value),b2={ tmps:=#[zi (some ⟨x.bw,0,none⟩),zh #[zd U (kind:Int),zd U a,zd U (dp:Int),zd U kd,zd U vr,zd U ot,zd U ek,zd U en,O xa xl xc,O aa al ac,O ta tl tc,O ea el ec],undef,zi (some ⟨W.heap.size,0,none⟩),zg false,zi (some ⟨bp,0,none⟩),zi (some ⟨bs,0,none⟩),x7,x8,x9,x10,x11,x12,x13,x14,x15,x16,undef,undef,undef,undef,undef,undef,undef,undef,undef,undef,undef,undef,undef,undef,undef,undef,undef,undef,undef,undef,undef,undef,undef,undef,undef,undef,undef,undef,undef,undef,undef,undef,undef,undef,undef,undef,undef,undef,undef,undef,undef,undef,undef,undef,undef,undef,undef,undef,undef,undef,undef,undef,undef,undef,undef,undef,undef,undef,undef,undef,undef,undef,undef,undef,undef,undef,undef,undef,undef,undef,undef,undef,undef,undef,undef,undef,undef],defers:=[] }/\Ov V Wn/\Ad [O M J H,O L I G] Wn bp/\Ad [zd U kd,zd U vr,zd U ot,zd U ek,zd U en,O xa xl xc,O aa al ac,O ta tl tc,O ea el ec] Wn bs/\V.heap.size<=bp/\V.heap.size<=bs) ?_ ?_
 ·refine gS (Q4 x g pl dj W dp kd vr ot ek en xa xl xc aa al ac ta tl tc ea el ec M J H L I G) (ao.o _ (bD _)) fun b=>?_
  refine kT 0 ?_;refine kT 1 ?_;refine kT 2 ?_;refine kT 3 ?_;refine kT 4 ?_;refine kT 5 ?_;refine kT 6 ?_;refine kT 7 ?_;refine kT 8 ?_;refine kT 9 ?_;refine rdB 10 11 rfl (fun K t=>?_) rfl fun K t=>?_
  ·go_simp
   refine xK t (ao.o _ ((bA _ _).drew)) fun b=>?_;clear t K;refine rdA 11 rfl fun K t=>?_;go_simp;refine xK t (ao.o _ (((bA _ _).alloc (by simp) _).drew)) fun b=>?_;clear t K;refine rdA 12 rfl fun K t=>?_;go_simp;refine xK t (ao.o _ (((bA _ _).alloc (by simp) _).drew)) fun b=>?_;clear t K;refine rdA 13 rfl fun K t=>?_;go_simp;refine xK t (ao.o _ (((bA _ _).alloc (by simp) _).drew)) fun b=>?_;clear t K;refine gE ?_;have hb:Ov V ((V.alloc (ze #[O M J H,O L I G] 50)).alloc (ze #[zd U kd,zd U vr,zd U ot,zd U ek,zd U en,O xa xl xc,O aa al ac,O ta tl tc,O ea el ec] 130)).drew:=((bA _ _).alloc (by simp) _).drew;have b9:Ad [O M J H,O L I G] ((V.alloc (ze #[O M J H,O L I G] 50)).alloc (ze #[zd U kd,zd U vr,zd U ot,zd U ek,zd U en,O xa xl xc,O aa al ac,O ta tl tc,O ea el ec] 130)).drew V.heap.size:=((Ad.new [O M J H,O L I G] 50 V).over (bA _ _)).over (bD _);have b7:Ad [zd U kd,zd U vr,zd U ot,zd U ek,zd U en,O xa xl xc,O aa al ac,O ta tl tc,O ea el ec] ((V.alloc (ze #[O M J H,O L I G] 50)).alloc (ze #[zd U kd,zd U vr,zd U ot,zd U ek,zd U en,O xa xl xc,O aa al ac,O ta tl tc,O ea el ec] 130)).drew (V.heap.size+1):=by
    have r:=(Ad.new [zd U kd,zd U vr,zd U ot,zd U ek,zd U en,O xa xl xc,O aa al ac,O ta tl tc,O ea el ec] 130 (V.alloc (ze #[O M J H,O L I G] 50))).over (bD _);simpa using r
   exact Ba ⟨V.heap.size,V.heap.size+1,_,_,_,_,_,_,_,_,_,_,rfl,hb,b9,b7,Nat.le_refl _,Nat.le_succ _⟩
  ·go_simp
   refine xK t (ao.o _ ((bA _ _).drew)) fun b=>?_;clear t K;refine rdA 10 rfl fun K t=>?_;go_simp;refine xK t (ao.o _ (((bA _ _).alloc (by simp) _).drew)) fun b=>?_;clear t K;refine rdA 12 rfl fun K t=>?_;go_simp;refine xK t (ao.o _ (((bA _ _).alloc (by simp) _).drew)) fun b=>?_;clear t K;refine rdA 13 rfl fun K t=>?_;go_simp;refine xK t (ao.o _ (((bA _ _).alloc (by simp) _).drew)) fun b=>?_;clear t K;refine gE ?_;have hb:Ov V ((V.alloc (ze #[zd U kd,zd U vr,zd U ot,zd U ek,zd U en,O xa xl xc,O aa al ac,O ta tl tc,O ea el ec] 130)).alloc (ze #[O M J H,O L I G] 50)).drew:=((bA _ _).alloc (by simp) _).drew;have b9:Ad [zd U kd,zd U vr,zd U ot,zd U ek,zd U en,O xa xl xc,O aa al ac,O ta tl tc,O ea el ec] ((V.alloc (ze #[zd U kd,zd U vr,zd U ot,zd U ek,zd U en,O xa xl xc,O aa al ac,O ta tl tc,O ea el ec] 130)).alloc (ze #[O M J H,O L I G] 50)).drew V.heap.size:=((Ad.new [zd U kd,zd U vr,zd U ot,zd U ek,zd U en,O xa xl xc,O aa al ac,O ta tl tc,O ea el ec] 130 V).over (bA _ _)).over (bD _);have b7:Ad [O M J H,O L I G] ((V.alloc (ze #[zd U kd,zd U vr,zd U ot,zd U ek,zd U en,O xa xl xc,O aa al ac,O ta tl tc,O ea el ec] 130)).alloc (ze #[O M J H,O L I G] 50)).drew (V.heap.size+1):=by
    have r:=(Ad.new [O M J H,O L I G] 50 (V.alloc (ze #[zd U kd,zd U vr,zd U ot,zd U ek,zd U en,O xa xl xc,O aa al ac,O ta tl tc,O ea el ec] 130))).over (bD _);simpa using r
   exact Ba ⟨V.heap.size+1,V.heap.size,_,_,_,_,_,_,_,_,_,_,rfl,hb,b7,b9,Nat.le_succ _,Nat.le_refl _⟩
 rintro b2 V2 ⟨bp,bs,x7,x8,x9,x10,x11,x12,x13,x14,x15,x16,rfl,ap,cz,bx,er,ep⟩;have f2:=Aa ap;have ai:=Aa (fk.o.over ap);have bq:=Aa (fl.o.trans (FrW.of_below (Bx x) ap));have a5:=Aa (fd.o.over ap);have bd:=Aa (dm.o.over (A5 x) ap);have C:=Aa cz;have m:=Aa bx;have dl:Hx (¬ XV x V2 W.heap.size):=cm.o _ (Nat.le_refl _) V2 ap;have bu:Hx (¬ XV x V2 bp):=cm.o _ (by have:=dk.o;omega) V2 ap;have a6:Hx (¬ XV x V2 bs):=cm.o _ (by have:=dk.o;omega) V2 ap;clear ap cz bx er ep ao;have ax:=fj.o;rcases (fi.o) with rfl | ⟨rfl,es,ex⟩ | ⟨rfl,da⟩
 ·
  by_cases hk7:Ag d=7\/Ag d=8
  ·obtain ⟨E,F⟩:=nm (withX (Bc x K gs ls ms vs fs) s p (Am d))
   have Y:Hx (R=(true,s.enter dp E)):=by
    rw [HR.o,F];unfold obW;rw [if_neg (by omega),if_neg (by omega),if_pos hk7,cl.o];exact Aa rfl
   have KW:Hx (∀ (W3:World),Ov V2 W3->Calls Tryz.prog 103 #[(zh #[zd U (x.c.n:Int),O x.c.ga x.c.gn x.c.gc,O x.c.sa x.c.sn x.c.sc,O x.c.ya x.c.yn x.c.yc,O x.c.oa x.c.on x.c.oc,O x.c.va x.c.vn x.c.vc,O x.c.fa x.c.fn x.c.fc,O x.c.ba x.c.bn x.c.bc,O x.c.la x.c.ln x.c.lc,O x.c.ka x.c.kn x.c.kc]),zh #[O M J H,O L I G],zh #[zd U ek,zd U en,O xa xl xc]] W3 fun e w'=>(∃ M J H L I G,e=zj (zh #[O M J H,O L I G])/\Aw x.c.n (XW x) w' (zh #[O M J H,O L I G]) E)/\Ov W3 w'):=fun W3 Q=>by
    have h3:=ai.o.over Q;have:=Df x.c u.o.n1 u.o.n6 gs s.vs (XW x) (A5 x) _ p K _ (Am d) W3 (Af u.o.gr h3.below) u.o.chk h3.lev.levs (bd.o.over (A5 x) Q) (by rw [a4.o];exact u.o.v16) (fun k hk=>(h3.xlt k hk).2) (HX.o.over h3.below) (by rw [a4.o];exact Bd bg.o);rw [F];exact this
   have KE:Hx (∀ (W3:World) {y:Value},Ov V2 W3->Aw x.c.n (XW x) W3 y E->Calls Tryz.prog 120 #[zi (some ⟨x.bw,0,none⟩),zd U (dp:Int),y] W3 fun e W'=>e=zj (zk #[])/\(∃ pv',WtI x w0 (s.enter dp E) pv' W')/\FrW (XV x) W3 W'):=fun W3 y Q hy=>PE x w0 u.o.n1 s _ W3 (ai.o.over Q) y E hy dp dq.o hd9;have B:Hx (∀ W8,Ov V2 W8->ME x W dp bp M J H L I G bs ek en xa xl xc W8):=fun W8 w=>by
    have l:=ai.o.over w;exact ⟨l.cw (j:=0) rfl,l.cw (j:=1) rfl,l.cw (j:=2) rfl,l.cw (j:=3) rfl,l.cw (j:=4) rfl,l.cw (j:=5) rfl,l.cw (j:=6) rfl,l.cw (j:=7) rfl,l.cw (j:=8) rfl,l.cw (j:=9) rfl,(a5.o.over w) 2 _ rfl,(C.o.over w) 0 _ rfl,(C.o.over w) 1 _ rfl,(m.o.over w) 3 _ rfl,(m.o.over w) 4 _ rfl,(m.o.over w) 5 _ rfl⟩
   have bf:Hx (∀ W8 s8 pv8,WtI x w0 s8 pv8 W8->FrW (XV x) V2 W8->ME x W dp bp M J H L I G bs ek en xa xl xc W8):=fun W8 s8 pv8 l N=>by
    exact ⟨l.cw (j:=0) rfl,l.cw (j:=1) rfl,l.cw (j:=2) rfl,l.cw (j:=3) rfl,l.cw (j:=4) rfl,l.cw (j:=5) rfl,l.cw (j:=6) rfl,l.cw (j:=7) rfl,l.cw (j:=8) rfl,l.cw (j:=9) rfl,N.row a5.o dl.o 2 _ rfl,N.row C.o bu.o 0 _ rfl,N.row C.o bu.o 1 _ rfl,N.row m.o a6.o 3 _ rfl,N.row m.o a6.o 4 _ rfl,N.row m.o a6.o 5 _ rfl⟩
   have P:Hx (Ov V2 V2.drew):=(bD _);obtain ⟨u0,u1,u2,u3,u4,u5,u6,u7,u8,u9,u10,u11⟩:=P9 a5.o;obtain ⟨t0,t1,t2,t3,t4,t5,t6,t7,t8⟩:=rc9 m.o;obtain ⟨b6,b5⟩:=rc2 C.o;have c9:kd=7\/kd=8:=by omega
   clear F ax hk7;rcases c9 with rfl | rfl
   ·go_wp2_with fail
    refine gS (ME x W dp bp M J H L I G bs ek en xa xl xc) (B.o _ P.o) fun b=>?_;refine kT 0 ?_;refine kT 1 ?_;refine kT 2 ?_;refine kT 3 ?_;refine kT 4 ?_;refine kT 5 ?_;refine kT 6 ?_;refine kT 7 ?_;refine kT 8 ?_;refine kT 9 ?_;refine rdA 10 rfl fun K t=>?_;go_simp;refine (KW.o _ P.o).mono ?_;rintro e W6 ⟨⟨o1,o2,o3,o4,o5,o6,rfl,am⟩,ak⟩;have z:=Aa (Ac P.o ak);have a9:=Aa am;clear am ak;go_simp;refine xK t (B.o _ z.o) fun b=>?_;clear t K;refine rdA 11 rfl fun K t=>?_;go_simp;refine (KE.o _ z.o a9.o).mono ?_;rintro e W7 ⟨rfl,⟨bh,T⟩,D⟩;have Z:=Aa T;have aq:=Aa (bq.o.trans ((FrW.of_below (Bx x) z.o).trans D));have a8:=Aa (bf.o W7 _ _ Z.o ((FrW.of_below (Bx x) z.o).trans D));clear T D;go_simp;refine xK t (a8.o) fun b=>?_;clear t K;refine gE ?_;go_wp2_with fail;go_ret;exact ⟨by rw [Y.o];rfl,by rw [Y.o];exact ⟨bh,Z.o⟩,aq.o⟩
   ·go_wp2_with fail
    refine gS (ME x W dp bp M J H L I G bs ek en xa xl xc) (B.o _ P.o) fun b=>?_;refine kT 0 ?_;refine kT 1 ?_;refine kT 2 ?_;refine kT 3 ?_;refine kT 4 ?_;refine kT 5 ?_;refine kT 6 ?_;refine kT 7 ?_;refine kT 8 ?_;refine kT 9 ?_;refine rdA 10 rfl fun K t=>?_;go_simp;refine (KW.o _ P.o).mono ?_;rintro e W6 ⟨⟨o1,o2,o3,o4,o5,o6,rfl,am⟩,ak⟩;have z:=Aa (Ac P.o ak);have a9:=Aa am;clear am ak;go_simp;refine xK t (B.o _ z.o) fun b=>?_;clear t K;refine rdA 11 rfl fun K t=>?_;go_simp;refine (KE.o _ z.o a9.o).mono ?_;rintro e W7 ⟨rfl,⟨bh,T⟩,D⟩;have Z:=Aa T;have aq:=Aa (bq.o.trans ((FrW.of_below (Bx x) z.o).trans D));have a8:=Aa (bf.o W7 _ _ Z.o ((FrW.of_below (Bx x) z.o).trans D));clear T D;go_simp;refine xK t (a8.o) fun b=>?_;clear t K;refine gE ?_;go_wp2_with fail;go_ret;exact ⟨by rw [Y.o];rfl,by rw [Y.o];exact ⟨bh,Z.o⟩,aq.o⟩
  ·have c8:Ag d<=6:=by have:=bg.o.1;omega
   have Y:Hx (R=doX (Bc x K gs ls ms vs fs) s a d p):=by
    rw [HR.o];unfold obW;rw [if_neg (by omega),if_neg (by omega),if_neg hk7,cl.o];exact Aa rfl
   have KD:=Aa (Ss x w0 K kf gs ls ms vs fs u.o s _ V2 ai.o a4.o a k _ d _ p funcs fe.o dn.o bg.o bd.o c8);obtain ⟨u0,u1,u2,u3,u4,u5,u6,u7,u8,u9,u10,u11⟩:=P9 a5.o;obtain ⟨t0,t1,t2,t3,t4,t5,t6,t7,t8⟩:=rc9 m.o;obtain ⟨b6,b5⟩:=rc2 C.o;have gd:(kd == 7)=false:=by rw [beq_eq_false_iff_ne];omega
   have gb:(kd == 8)=false:=by rw [beq_eq_false_iff_ne];omega
   clear ax hk7 c8;go_wp2_with fail;refine (KD.o).mono ?_;rintro e W7 ⟨rfl,T,D⟩;have Z:=Aa T;have aq:=Aa (bq.o.trans D);clear T D;go_wp2_with fail;go_ret;exact ⟨by rw [Y.o];rfl,by rw [Y.o];exact ⟨_,Z.o⟩,aq.o⟩
 ·
  obtain ⟨m1,c7⟩:=nm (dp+1);have f9:IntKind.i64.wrap ((dp:Int)+1)=(m1:Int):=by rw [IntKind.wrap_i64];omega
  obtain ⟨g',f0,em,ej,ei,eh,eg,ef,c5,c0,c1,cg⟩:=ai.o.pls.cells (i:=m1) (by omega);injection c5 with e1 e2 e3;injection e1 with e1;injection e1 with e1;subst e1 e3;clear e2;have c6:m1 < s.ps.length:=by omega
  obtain ⟨pm,cc⟩:=nm (s.ps[m1]);rw [<-cc] at cg;have dd:s.ps.getD (dp+1) Ah=pm:=by rw [cc,<-c7];simp [List.getD_eq_getElem?_getD,c6]
  obtain ⟨E,F⟩:=nm (withX (Bc x K gs ls ms vs fs) s pm (Am d));have Y:Hx (R=(true,s.enter dp E)):=by
   rw [HR.o,F];unfold obW;rw [if_pos rfl,dd];exact Aa rfl
  have fh:=Aa cg;have KW:Hx (∀ (W3:World),Ov V2 W3->Calls Tryz.prog 103 #[(zh #[zd U (x.c.n:Int),O x.c.ga x.c.gn x.c.gc,O x.c.sa x.c.sn x.c.sc,O x.c.ya x.c.yn x.c.yc,O x.c.oa x.c.on x.c.oc,O x.c.va x.c.vn x.c.vc,O x.c.fa x.c.fn x.c.fc,O x.c.ba x.c.bn x.c.bc,O x.c.la x.c.ln x.c.lc,O x.c.ka x.c.kn x.c.kc]),zh #[O em ej ei,O eh eg ef],zh #[zd U ek,zd U en,O xa xl xc]] W3 fun e w'=>(∃ M J H L I G,e=zj (zh #[O M J H,O L I G])/\Aw x.c.n (XW x) w' (zh #[O M J H,O L I G]) E)/\Ov W3 w'):=fun W3 Q=>by
   have h3:=ai.o.over Q;have:=Df x.c u.o.n1 u.o.n6 gs s.vs (XW x) (A5 x) _ pm K _ (Am d) W3 (Af u.o.gr h3.below) u.o.chk h3.lev.levs (fh.o.over (A5 x) Q) (by rw [a4.o];exact u.o.v16) (fun k hk=>(h3.xlt k hk).2) (HX.o.over h3.below) (by rw [a4.o];exact Bd bg.o);rw [F];exact this
  have KE:Hx (∀ (W3:World) {y:Value},Ov V2 W3->Aw x.c.n (XW x) W3 y E->Calls Tryz.prog 120 #[zi (some ⟨x.bw,0,none⟩),zd U (dp:Int),y] W3 fun e W'=>e=zj (zk #[])/\(∃ pv',WtI x w0 (s.enter dp E) pv' W')/\FrW (XV x) W3 W'):=fun W3 y Q hy=>PE x w0 u.o.n1 s _ W3 (ai.o.over Q) y E hy dp dq.o hd9;have B:Hx (∀ W8,Ov V2 W8->Ol x W dp bs ek en xa xl xc W8):=fun W8 w=>by
   have l:=ai.o.over w;exact ⟨l.cw (j:=0) rfl,l.cw (j:=1) rfl,l.cw (j:=2) rfl,l.cw (j:=3) rfl,l.cw (j:=4) rfl,l.cw (j:=5) rfl,l.cw (j:=6) rfl,l.cw (j:=7) rfl,l.cw (j:=8) rfl,l.cw (j:=9) rfl,(a5.o.over w) 2 _ rfl,(m.o.over w) 3 _ rfl,(m.o.over w) 4 _ rfl,(m.o.over w) 5 _ rfl⟩
  have bf:Hx (∀ W8 s8 pv8,WtI x w0 s8 pv8 W8->FrW (XV x) V2 W8->Ol x W dp bs ek en xa xl xc W8):=fun W8 s8 pv8 l N=>by
   exact ⟨l.cw (j:=0) rfl,l.cw (j:=1) rfl,l.cw (j:=2) rfl,l.cw (j:=3) rfl,l.cw (j:=4) rfl,l.cw (j:=5) rfl,l.cw (j:=6) rfl,l.cw (j:=7) rfl,l.cw (j:=8) rfl,l.cw (j:=9) rfl,N.row a5.o dl.o 2 _ rfl,N.row m.o a6.o 3 _ rfl,N.row m.o a6.o 4 _ rfl,N.row m.o a6.o 5 _ rfl⟩
  have P:Hx (Ov V2 V2.drew):=(bD _);obtain ⟨u0,u1,u2,u3,u4,u5,u6,u7,u8,u9,u10,u11⟩:=P9 a5.o;obtain ⟨t0,t1,t2,t3,t4,t5,t6,t7,t8⟩:=rc9 m.o;obtain ⟨b6,b5⟩:=rc2 C.o;have e7:=ai.o.c11;have b4:=ff.o;rw [<-b4] at e7;have ge:(m1:Int) < (pl:Int):=by omega
  clear F ax es ex c7 c6 cc dd cg b4;go_wp2_with fail;refine gS (Ol x W dp bs ek en xa xl xc) (B.o _ P.o) fun b=>?_;refine kT 0 ?_;refine kT 1 ?_;refine kT 2 ?_;refine kT 3 ?_;refine kT 4 ?_;refine kT 5 ?_;refine kT 6 ?_;refine kT 7 ?_;refine kT 8 ?_;refine kT 9 ?_;refine kT 11 ?_;refine kT 12 ?_;refine kT 13 ?_;refine kT 16 ?_;refine kT 17 ?_;refine rdA 10 rfl fun K t=>?_;go_simp;refine xK t (B.o _ P.o) fun b=>?_;clear t K;refine kT 14 ?_;refine rdA 15 rfl fun K t=>?_;go_simp;refine xK t (B.o _ P.o) fun b=>?_;clear t K;refine rdA 18 rfl fun K t=>?_;go_simp;refine (KW.o _ P.o).mono ?_;rintro e W6 ⟨⟨o1,o2,o3,o4,o5,o6,rfl,am⟩,ak⟩;have z:=Aa (Ac P.o ak);have a9:=Aa am;clear am ak;go_simp;refine xK t (B.o _ z.o) fun b=>?_;clear t K;refine rdA 19 rfl fun K t=>?_;go_simp;refine (KE.o _ z.o a9.o).mono ?_;rintro e W7 ⟨rfl,⟨bh,T⟩,D⟩;have Z:=Aa T;have aq:=Aa (bq.o.trans ((FrW.of_below (Bx x) z.o).trans D));have a8:=Aa (bf.o W7 _ _ Z.o ((FrW.of_below (Bx x) z.o).trans D));clear T D;go_simp;refine xK t (a8.o) fun b=>?_;clear t K;refine gE ?_;go_wp2_with fail;go_ret;exact ⟨by rw [Y.o];rfl,by rw [Y.o];exact ⟨bh,Z.o⟩,aq.o⟩
 ·
  have eo:=bg.o.2.1 (by omega);obtain ⟨jv,ch⟩:∃ q:Nat,Ap d=(q:Int):=⟨(Ap d).toNat,by omega⟩;obtain rfl:vr=(jv:Int):=by rw [fb.o,ch]
  have bz:jv < vs.length:=by omega
  obtain ⟨⟨eu,et⟩,-,-⟩:=bg.o.2.2.1 da;have hfn:=dn.o;obtain ⟨j,hj⟩:∃ j:Nat,Ae d=(j:Int):=⟨(Ae d).toNat,by omega⟩;obtain rfl:ot=(j:Int):=by rw [fg.o,hj]
  have be:j < fs.length:=by omega
  have dc:(Ae d).toNat=j:=by omega
  have bj:BV fs (Ae d)=fs[j]:=by unfold BV;rw [dc];simp [List.getD_eq_getElem?_getD,be]
  obtain ⟨ev,gl,gk,ew,df⟩:=u.o.funcs;injection ew with y1 y2 y3;obtain ⟨b8,z8,de,b1⟩:=df (by intro h;rw [h] at be;simp at be);obtain ⟨vP,vB,e0,e1,e2,e6,e5,bo,bm,bl,ci,-,ck,aj⟩:=b1 j be;have bt:x.c.fa=some ⟨b8,z8,none⟩:=y1.trans de;obtain ⟨ra,rc,cx⟩:=aj.form;simp only [List.cons.injEq,and_true] at cx;obtain ⟨rfl,rfl,rfl⟩:=cx;have b0:=u.o.body j be;have cj:=b0.2.2.2;obtain ⟨f,hf⟩:=nm (fs[j]);rw [<-hf] at bo bm bl aj cj bj;obtain ⟨rk,c4⟩:=nm (AQ f.res);obtain ⟨rn,c2⟩:=nm (Bk f.res);obtain ⟨rl,c3⟩:=nm ((A4 f.res).length);rw [<-c4] at bo aj;rw [<-c2] at bm aj;rw [<-c3] at bl aj;obtain ⟨E,F⟩:=nm (withX (Bc x K gs ls ms vs fs) s p f.res);have Y:Hx (R=CC (Bc x K gs ls ms vs fs) s p (jv:Int) E):=by
   rw [HR.o,F];unfold obW;have e:(Bc x K gs ls ms vs fs).fs=fs:=rfl;rw [if_neg (by omega),if_pos rfl,cl.o,e,bj,ch];exact Aa rfl
  have dh:x.c.v=(zh #[zd U (x.c.n:Int),O x.c.ga x.c.gn x.c.gc,O x.c.sa x.c.sn x.c.sc,O x.c.ya x.c.yn x.c.yc,O x.c.oa x.c.on x.c.oc,O x.c.va x.c.vn x.c.vc,O (some ⟨b8,z8,none⟩) x.c.fn x.c.fc,O x.c.ba x.c.bn x.c.bc,O x.c.la x.c.ln x.c.lc,O x.c.ka x.c.kn x.c.kc]):=by show Value.agg #[zd U (x.c.n:Int),O x.c.ga x.c.gn x.c.gc,O x.c.sa x.c.sn x.c.sc,O x.c.ya x.c.yn x.c.yc,O x.c.oa x.c.on x.c.oc,O x.c.va x.c.vn x.c.vc,O x.c.fa x.c.fn x.c.fc,O x.c.ba x.c.bn x.c.bc,O x.c.la x.c.ln x.c.lc,O x.c.ka x.c.kn x.c.kc]=_;rw [bt]
  have KW:Hx (∀ (W3:World),Ov V2 W3->Calls Tryz.prog 103 #[(zh #[zd U (x.c.n:Int),O x.c.ga x.c.gn x.c.gc,O x.c.sa x.c.sn x.c.sc,O x.c.ya x.c.yn x.c.yc,O x.c.oa x.c.on x.c.oc,O x.c.va x.c.vn x.c.vc,O (some ⟨b8,z8,none⟩) x.c.fn x.c.fc,O x.c.ba x.c.bn x.c.bc,O x.c.la x.c.ln x.c.lc,O x.c.ka x.c.kn x.c.kc]),zh #[O M J H,O L I G],zh #[zd U rk,zd U rn,O ra rl rc]] W3 fun e w'=>(∃ M J H L I G,e=zj (zh #[O M J H,O L I G])/\Aw x.c.n (XW x) w' (zh #[O M J H,O L I G]) E)/\Ov W3 w'):=fun W3 Q=>by
   have h3:=ai.o.over Q;have:=Df x.c u.o.n1 u.o.n6 gs s.vs (XW x) (A5 x) _ p K _ f.res W3 (Af u.o.gr h3.below) u.o.chk h3.lev.levs (bd.o.over (A5 x) Q) (by rw [a4.o];exact u.o.v16) (fun k hk=>(h3.xlt k hk).2) (aj.over h3.below) (by rw [a4.o];exact Ce cj);rw [dh] at this;rw [F];exact this
  have KE:Hx (∀ (W3:World) {y:Value},Ov V2 W3->Aw x.c.n (XW x) W3 y E->Calls Tryz.prog 121 #[zi (some ⟨x.bw,0,none⟩),zh #[O M J H,O L I G],zd U (jv:Int),y] W3 fun e W'=>e=zj (zg (CC (Bc x K gs ls ms vs fs) s p (jv:Int) E).1)/\WtI x w0 (CC (Bc x K gs ls ms vs fs) s p (jv:Int) E).2 _ W'/\FrW (XV x) W3 W'):=fun W3 y Q hy=>FK x w0 K kf gs ls ms vs fs u.o s _ W3 (ai.o.over Q) a4.o _ _ p E (bd.o.over (A5 x) Q) hy jv bz;have B:Hx (∀ W8,Ov V2 W8->Ok x b8 z8 bp M J H L I G bs jv j rk rn ra rl rc W8):=fun W8 w=>by
   have l:=ai.o.over w;exact ⟨l.cw (j:=0) rfl,l.cw (j:=1) rfl,l.cw (j:=2) rfl,l.cw (j:=3) rfl,l.cw (j:=4) rfl,l.cw (j:=5) rfl,by rw [<-bt];exact l.cw (j:=6) rfl,l.cw (j:=7) rfl,l.cw (j:=8) rfl,l.cw (j:=9) rfl,(C.o.over w) 0 _ rfl,(C.o.over w) 1 _ rfl,(m.o.over w) 1 _ rfl,(m.o.over w) 2 _ rfl,Ab l.below _ _ bo,Ab l.below _ _ bm,Ab l.below _ _ bl⟩
  have bf:Hx (∀ W8 s8 pv8,WtI x w0 s8 pv8 W8->FrW (XV x) V2 W8->Ok x b8 z8 bp M J H L I G bs jv j rk rn ra rl rc W8):=fun W8 s8 pv8 l N=>by
   exact ⟨l.cw (j:=0) rfl,l.cw (j:=1) rfl,l.cw (j:=2) rfl,l.cw (j:=3) rfl,l.cw (j:=4) rfl,l.cw (j:=5) rfl,by rw [<-bt];exact l.cw (j:=6) rfl,l.cw (j:=7) rfl,l.cw (j:=8) rfl,l.cw (j:=9) rfl,N.row C.o bu.o 0 _ rfl,N.row C.o bu.o 1 _ rfl,N.row m.o a6.o 1 _ rfl,N.row m.o a6.o 2 _ rfl,Ab l.below _ _ bo,Ab l.below _ _ bm,Ab l.below _ _ bl⟩
  have P:Hx (Ov V2 V2.drew):=(bD _);obtain ⟨u0,u1,u2,u3,u4,u5,u6,u7,u8,u9,u10,u11⟩:=P9 a5.o;obtain ⟨t0,t1,t2,t3,t4,t5,t6,t7,t8⟩:=rc9 m.o;obtain ⟨b6,b5⟩:=rc2 C.o;have gf:(j:Int) < (x.c.fn:Int):=by omega
  have fv:x.c.fn<=5:=by have:=u.o.f5;omega
  clear F ax da dh eo ch bz eu et hfn hj be dc bj ev df y1 y2 y3 de b1 e6 e5 bo bm bl ci ck aj bt b0 cj hf c4 c2 c3;go_wp2_with fail;refine gS (Ok x b8 z8 bp M J H L I G bs jv j rk rn ra rl rc) (B.o _ P.o) fun b=>?_;refine kT 0 ?_;refine kT 1 ?_;refine kT 2 ?_;refine kT 3 ?_;refine kT 4 ?_;refine kT 5 ?_;refine kT 6 ?_;refine kT 7 ?_;refine kT 8 ?_;refine kT 9 ?_;refine kT 10 ?_;refine kT 11 ?_;refine kT 12 ?_;refine kT 13 ?_;refine kT 14 ?_;refine kT 15 ?_;refine kT 16 ?_;refine kT 17 ?_;refine kT 18 ?_;refine kT 19 ?_;refine rdA 20 rfl fun K t=>?_;go_simp;refine (KW.o _ P.o).mono ?_;rintro e W6 ⟨⟨o1,o2,o3,o4,o5,o6,rfl,am⟩,ak⟩;have z:=Aa (Ac P.o ak);have a9:=Aa am;clear am ak;go_simp;refine xK t (B.o _ z.o) fun b=>?_;clear t K;refine rdA 21 rfl fun K t=>?_;go_simp;refine (KE.o _ z.o a9.o).mono ?_;rintro e W7 ⟨rfl,T,D⟩;have Z:=Aa T;have aq:=Aa (bq.o.trans ((FrW.of_below (Bx x) z.o).trans D));have a8:=Aa (bf.o W7 _ _ Z.o ((FrW.of_below (Bx x) z.o).trans D));clear T D;go_simp;refine xK t (a8.o) fun b=>?_;clear t K;refine kT 22 ?_;refine gE ?_;go_wp2_with fail;go_ret;exact ⟨by rw [Y.o];rfl,by rw [Y.o];exact ⟨_,Z.o⟩,aq.o⟩
abbrev WX.wy (x:WX) (Y:Nat->Prop):WX:={ x with Y:=Y }
section
variable {x:WX} {w0 W W':World} {s:WSt} {pv:Value} {Y':Nat->Prop}
theorem WtS.wy {K kf:Nat} {gs:List (Int × Int)} {ls ms:List Lab} {vs:List (Bool × Lab)} {fs:List FnD} (S:WtS x w0 K kf gs ls ms vs fs) (Y:Nat->Prop):WtS (x.wy Y) w0 K kf gs ls ms vs fs:=
 ⟨S.n1,S.n6,S.gr,S.chk,S.vars,S.ins,S.outs,S.funcs,S.vchk,S.ichk,S.ochk,S.v16,S.i5,S.o5,S.f5,S.fl,S.body⟩
theorem S1 (hbw:W'.heap[x.bw]? = W.heap[x.bw]?) (hs:W.heap.size<=W'.heap.size) {k:Nat} (h:XV (x.wy Y') W' k):XV x W k:=by
 rcases h with e | e | e | ⟨v,b,e⟩
 ·exact Or.inl (Nat.le_trans hs e)
 ·exact Or.inr (Or.inl e)
 ·exact Or.inr (Or.inr (Or.inl e))
 ·exact Or.inr (Or.inr (Or.inr ⟨v,(World.cell?_of_block (a:=⟨x.bw,11,none⟩) hbw).symm.trans b,e⟩))
theorem Aw.wy {n:Nat} {v:Value} {l:Lev} (n1:1<=n) (h:Aw n (XW x) W v l) (hs:W.heap.size<=W'.heap.size) (hk:∀ k,k < W.heap.size->¬ x.Y k->W'.heap[k]? = W.heap[k]?) (hy:∀ k,Y' k->x.Y k\/W.heap.size<=k) (hbw:W'.heap[x.bw]? = W.heap[x.bw]?):Aw n (XW (x.wy Y')) W' v l:=by
 obtain ⟨u,w,g,D,hw⟩:=h.off;obtain ⟨L,K,f,I,bw⟩:=h.at_;rw [g] at f;simp at f;obtain ⟨rfl,rfl⟩:=f;have p:∀ (v:Value) (l:List Bool),AJ W v l->l.length=n->(∀ a m c,v=O (some a) m c->¬ XW x W a.block)->AJ W' v l/\∀ a m c,v=O (some a) m c->¬ XW (x.wy Y') W' a.block:=by
  intro v l H E C;obtain ⟨J,s,g,d⟩:=H;obtain ⟨b,off,o,d⟩:=d (by rintro rfl;simp at E;omega);have r:b < W.heap.size:=bL (d 0 (by omega));have j:=C ⟨b,off,none⟩ l.length s (by rw [g,o]);have G:W'.heap[b]? = W.heap[b]?:=hk b r (fun e=>j (Or.inl e));refine ⟨⟨J,s,g,fun _=>⟨b,off,o,fun i F=>(World.cell?_of_block (a:=⟨b,off+i,none⟩) G).trans (d i F)⟩⟩,fun a m c e q=>?_⟩;rw [g,o] at e;injection e with t;injection t with t;subst t;rcases q with q | q
  ·rcases hy _ q with q | q
   ·exact j (Or.inl q)
   ·exact absurd r (by show ¬ b < _;have:W.heap.size<=b:=q;omega)
  ·exact j (Or.inr (S1 hbw hs q))
 obtain ⟨B,A⟩:=p _ _ I h.len.1 D;obtain ⟨z,y⟩:=p _ _ bw h.len.2 hw;exact ⟨⟨u,w,g,B,z⟩,h.len,u,w,g,A,y⟩
theorem BE.wy {n B:Nat} {v:Value} {Ls:List Lev} (n1:1<=n) (h:BE n (XW x) B W v Ls) (hs:W.heap.size<=W'.heap.size) (hk:∀ k,k < W.heap.size->¬ x.Y k->W'.heap[k]? = W.heap[k]?) (hy:∀ k,Y' k->x.Y k\/W.heap.size<=k) (hbw:W'.heap[x.bw]? = W.heap[x.bw]?) (hv:∀ g,v.ownBlock=some g->¬ x.Y g):BE n (XW (x.wy Y')) B W' v Ls:=by
 have c:=h.lt;obtain ⟨f,j,d⟩:=h;refine ⟨f,AD j (fun g e=>hk g (c g e).2 (hv g e)),fun i m=>?_⟩;obtain ⟨a,b,p,o,l⟩:=d i m;exact ⟨a,b,p,o,l.wy n1 hs hk hy hbw⟩
theorem WtI.wy (n1:1<=x.c.n) (h:WtI x w0 s pv W) (ho:W'.os=W.os) (ht:W'.tape=W.tape) (hp:W'.output=W.output) (hs:W.heap.size<=W'.heap.size) (hk:∀ k,k < W.heap.size->¬ x.Y k->W'.heap[k]? = W.heap[k]?) (hy:∀ k,Y' k->x.Y k\/W.heap.size<=k) (hyl:∀ k,Y' k->k < W'.heap.size):WtI (x.wy Y') w0 s pv W':=by
 have d:W'.heap[x.bw]? = W.heap[x.bw]?:=hk x.bw h.lo.2 h.yb;have b:∀ g,g < W.heap.size->¬ x.Y g->¬ Y' g:=fun g o m l=>by
  rcases hy g l with e | e
  ·exact m e
  ·omega
 refine ⟨h.below.trans ⟨ho,ht,hp,hs,fun k f=>hk k (Nat.lt_of_lt_of_le f h.below.size) (fun e=>by have:=(h.yk k e).1;omega)⟩,fun j u i=>(World.cell?_of_block (a:=⟨x.bw,j,none⟩) d).trans (h.row j u i),fun j=>(World.frozen?_of_block (a:=⟨x.bw,j,none⟩) d).trans (h.fz j),⟨h.lo.1,Nat.lt_of_lt_of_le h.lo.2 hs⟩,fun k e=>⟨?_,hyl k e⟩,b _ h.lo.2 h.yb,h.lev.wy n1 hs hk hy d h.yL,h.pls.wy n1 hs hk hy d h.yP,AD h.flt (fun g e=>hk g (h.flt.lt g e).2 (h.apF g e).2.2.2),h.apL,h.apP,h.apLP,fun g e=>⟨(h.apF g e).1,(h.apF g e).2.1,(h.apF g e).2.2.1,b g (h.flt.lt g e).2 (h.apF g e).2.2.2⟩,fun g e=>b g (h.lev.lt g e).2 (h.yL g e),fun g e=>b g (h.pls.lt g e).2 (h.yP g e)⟩;rcases hy k e with q | q
 ·exact (h.yk k q).1
 ·exact Nat.le_trans h.below.size q
end
def DS (x:WX) (w0:World) (n1:1<=x.c.n) (nv:Nat) (wk:WK):Ca where
 fn:=64
 fre:=[zi (some ⟨x.bw,0,none⟩)]
 cap:=[]
 ent:=fun args w=>by simp [go_sem]
 ob:=obW wk
 In:=fun Y s X w=>(∃ pv,WtI (x.wy Y) w0 s pv w/\∀ k,X k ↔ (k=x.bw\/x.lv.ownBlock=some k\/pv.ownBlock=some k))/\s.vs.length=nv/\s.ps.length<=20000
 ok:=fun dp s=>dp < s.ps.length
 lt:=by
  rintro Y s X w ⟨⟨pv,h,hX⟩,-⟩ k hk;have hv:XV (x.wy Y) w k:=h.xv.2 ((hX k).1 hk);refine ⟨(h.vlt k hv).2,fun hy=>?_⟩;rcases (hX k).1 hk with e | e | e
  ·rw [e] at hy;exact h.yb hy
  ·exact h.yL k e hy
  ·exact h.yP k e hy
 kept:=by
  rintro Y Y' s X w w' ⟨⟨pv,h,hX⟩,hl⟩ ho ht hp hs hk hy hyl;exact ⟨⟨pv,WtI.wy (x:=x.wy Y) n1 h ho ht hp hs hk hy hyl,hX⟩,hl⟩
 less:=fun h=>Nat.lt_of_succ_lt h
theorem I5 (s:WSt) {dp:Nat} (p) (h:dp < s.ps.length):(s.enter dp p).ps.length=dp+2:=by
 unfold WSt.enter;simp;omega
theorem FL (c:WK) (s:WSt) (p) (v:Int) (l):(CC c s p v l).2.ps=s.ps:=by
 unfold CC;split <;> rfl
theorem PF (c:WK) (s:WSt) (a:Int) (d p):(doX c s a d p).2.ps=s.ps/\(doX c s a d p).2.vs.length=s.vs.length:=by
 unfold doX;split
 ·unfold Es
  split
  ·exact ⟨rfl,DL _ _⟩
  ·exact ⟨rfl,rfl⟩
 ·split
  ·split
   ·exact ⟨FL _ _ _ _ _,Eu _ _ _ _⟩
   ·exact ⟨rfl,rfl⟩
  ·split
   ·exact ⟨rfl,rfl⟩
   ·split
    ·split
     ·exact ⟨FL _ _ _ _ _,Eu _ _ _ _⟩
     ·exact ⟨rfl,rfl⟩
    ·split
     ·split
      ·exact ⟨FL _ _ _ _ _,Eu _ _ _ _⟩
      ·exact ⟨rfl,rfl⟩
     ·exact ⟨FL _ _ _ _ _,Eu _ _ _ _⟩
theorem Qe (c:WK) (kind:Nat) (a:Int) (dp:Nat) (d) (s:WSt) (hd:dp < s.ps.length):(obW c kind a dp d s).2.vs.length=s.vs.length/\((obW c kind a dp d s).2.ps.length=s.ps.length/\¬ ((kind=1/\(Ag d=7\/Ag d=8))\/kind=2)\/(obW c kind a dp d s).2.ps.length=dp+2):=by
 unfold obW;split
 ·exact ⟨rfl,Or.inr (I5 s _ hd)⟩
 ·rename_i g
  split
  ·rename_i f
   exact ⟨Eu _ _ _ _,Or.inl ⟨by rw [FL],by omega⟩⟩
  ·split
   ·exact ⟨rfl,Or.inr (I5 s _ hd)⟩
   ·rename_i f b
    exact ⟨(PF _ _ _ _ _).2,Or.inl ⟨by rw [(PF _ _ _ _ _).1],fun e=>by
     rcases e with ⟨-,e⟩ | e
     ·exact b e
     ·exact g e⟩⟩
theorem LJ (x) (w0:World) (K kf:Nat) (gs ls ms vs fs) (S:WtS x w0 K kf gs ls ms vs fs):PR (DS x w0 S.n1 vs.length (Bc x K gs ls ms vs fs)) w0 K vs.length ls.length ms.length fs:=by
 intro Y s X W b a f k M d i L O n F C J I v t D;obtain ⟨⟨z,h,y⟩,m,o⟩:=L;obtain ⟨r,rfl⟩:∃ r,k=r + 1:=by
  cases k with
  | zero=>exact n.elim
  | succ k=>exact ⟨k,rfl⟩
 have w:f < s.ps.length:=t;have H:=TC (x.wy Y) w0 K kf gs ls ms vs fs (S.wy Y) s z W h m b a f r M d i n F C.1 w v o D;have c:=Qe (Bc x K gs ls ms vs fs) b a f d s w;refine H.mono fun e N E=>?_;obtain ⟨G,⟨l,p⟩,j⟩:=E;refine ⟨G,fun q=>q=x.bw\/x.lv.ownBlock=some q\/l.ownBlock=some q,⟨⟨l,p,fun q=>Iff.rfl⟩,?_,?_⟩,fun q B=>?_,⟨j.os,j.tape,j.output,j.size,fun q g A=>j.block q g (fun e=>A ((y q).2 (h.xv.1 e)))⟩,?_,fun _ u=>?_⟩
 ·exact c.1.trans m
 ·show (obW (Bc x K gs ls ms vs fs) b a f d s).2.ps.length<=20000
  rcases c.2 with e | e
  ·rw [e.1];exact o
  ·rw [e];omega
 ·by_cases g:q < W.heap.size
  ·have e:XV (x.wy Y) N q:=p.xv.2 B
   exact Or.inl ((y q).2 (h.xv.1 (j.mov q g e)))
  ·exact Or.inr (by omega)
 ·show f < (obW (Bc x K gs ls ms vs fs) b a f d s).2.ps.length
  rcases c.2 with e | e
  ·rw [e.1];exact w
  ·rw [e];omega
 ·show f+1 < (obW (Bc x K gs ls ms vs fs) b a f d s).2.ps.length
  rcases c.2 with e | e
  ·exact absurd u e.2
  ·rw [e];omega
end Go.Proofs.YtfffpjkcfnekaaaGreat.Ex
