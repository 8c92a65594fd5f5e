/- One who watches: a call. -/
import Derived.Test.YtfffpjkcfnekaaaGreatE11
set_option linter.unusedVariables false
set_option maxHeartbeats 8000000
set_option maxRecDepth 100000
namespace Go.Proofs.YtfffpjkcfnekaaaGreat.Ex
open Go.RowKit
open Go.Value renaming slice -> O, int -> zd, bool -> zg, agg -> zh, pointer -> zi, tuple -> zk
open Go.IntKind renaming i64 -> U
open Go.Obj renaming cells -> ze
open Go.Ending renaming returned -> zj
theorem Tf (n:Nat) (hn:n<=6) (w:World):(Instr.makeSlice 42 (zd U n) (zd U n)).run Tryz.prog w=.ok (O (some ⟨w.heap.size,0,none⟩) n n) (w.alloc (.cells (List.replicate (n*2) (Value.slice none 0 0)).toArray 50)):=by
 obtain ⟨i,hi,g,f,b⟩:=info_parts Tryz.infoLk;have:=run_make (P:=Tryz.prog) w 42 50 i _ Tryz.underlying42 hi g U U (n:Int) (n:Int) (by omega) (by omega) (by rw [b];omega) (by omega);rw [this,f];simp only [Int.toNat_natCast];have e:madeCells (Value.agg #[O none 0 0,O none 0 0]).cells (n*2)=(List.replicate (n*2) (Value.slice none 0 0)).toArray:=by
  apply Array.ext
  ·simp [madeCells]
  ·intro j f b
   rcases Nat.mod_two_eq_zero_or_one j with h | h <;> simp [madeCells,Value.cells,h]
 rw [e]
theorem CG {x:WX} {n b j:Nat} {W:World} {v:Value} {l:Lev} {a:Option Addr} {m c:Nat} (h:Aw n (XW x) W v l) (hc:W.cell? ⟨b,j,none⟩=some (O a m c)) (hne:x.bw≠b) (u:Value):Aw n (XW x) (W.setCell ⟨b,j,none⟩ u) v l:=by
 obtain ⟨y,w,i,p,hw⟩:=h.off;have g:∀ k,XW x (W.setCell ⟨b,j,none⟩ u) k->XW x W k:=by
  have f:(W.setCell ⟨b,j,none⟩ u).heap.size=W.heap.size:=by simp [World.setCell]
  rintro k (h | h | h | h | ⟨q,s,t⟩)
  ·exact Or.inl h
  ·rw [f] at h;exact Or.inr (Or.inl h)
  ·exact Or.inr (Or.inr (Or.inl h))
  ·exact Or.inr (Or.inr (Or.inr (Or.inl h)))
  ·exact Or.inr (Or.inr (Or.inr (Or.inr ⟨q,(World.cell?_of_block (a:=⟨x.bw,11,none⟩) (Au (Ne.symm hne) u)).symm.trans s,t⟩)))
 exact ⟨Cz hc h.at_ _,h.len,y,w,i,fun a m c e q=>p a m c e (g _ q),fun a m c e q=>hw a m c e (g _ q)⟩
def DI (x:WX) (B ba n:Nat) (Ls:List Lev) (W:World):Prop:=
 ∃ us:List Value,W.ownsRow B 50 2 (O (some ⟨ba,0,none⟩) n n) n us/\(∀ j,j < n*2->∃ a b c,us[j]? = some (O a b c))/\∀ i (h:i < Ls.length),∃ u v,us[i*2]? = some u/\us[i*2+1]? = some v/\Aw x.c.n (XW x) W (zh #[u,v]) Ls[i]
section
variable {x:WX} {B ba n:Nat} {Ls:List Lev} {W W':World}
theorem PL (x) (B n:Nat) (W:World) (hn:n<=6) (hB:B<=W.heap.size):DI x B W.heap.size n [] (W.alloc (.cells (Array.replicate (n*2) (Value.slice none 0 0)) 50)):=by
 refine ⟨List.replicate (n*2) (O none 0 0),?_,fun j b=>⟨none,0,0,by simp [b]⟩,fun i h=>absurd h (by simp)⟩;have:=World.ownsRow_lit (base:=B) (e:=50) (size:=2) W (Array.replicate (n*2) (Value.slice none 0 0)) n hB (by unfold maxLen;omega) (by simp);simpa using this
theorem DI.lt (h:DI x B ba n Ls W):B<=ba/\ba < W.heap.size:=by
 obtain ⟨e,b,-⟩:=h;exact b.lt ba rfl
theorem DI.over (h:DI x B ba n Ls W) (hb:Ov W W'):DI x B ba n Ls W':=by
 have l:=h.lt;obtain ⟨f,e,k,b⟩:=h;refine ⟨f,AD e (fun g p=>hb.block g (e.lt g p).2),k,fun i hi=>?_⟩;obtain ⟨u,v,s,q,hl⟩:=b i hi;exact ⟨u,v,s,q,hl.over (A5 x) hb⟩
theorem DI.keep (n1:1<=x.c.n) (h:DI x B ba n Ls W) (hf:FrW (XV x) W W') (hx:¬ XV x W ba):DI x B ba n Ls W':=by
 have b:=h.lt;obtain ⟨k,p,l,e⟩:=h;refine ⟨k,AD p (fun g f=>?_),l,fun i hi=>?_⟩
 ·simp [Value.ownBlock] at f
  subst f;exact hf.block _ b.2 hx
 ·obtain ⟨u,v,s,q,hl⟩:=e i hi
  exact ⟨u,v,s,q,hl.keep n1 (L8 hf)⟩
theorem DI.cell (h:DI x B ba n Ls W) {j:Nat} (hj:j < n*2):∃ a b c,W.cell? ⟨ba,j,none⟩=some (O a b c)/\W.frozen? ⟨ba,j,none⟩=false:=by
 obtain ⟨i,f,g,-⟩:=h;obtain ⟨a,b,c,e⟩:=g j hj;exact ⟨a,b,c,(f.cellAt j hj).trans e,f.frozenAt j⟩
theorem DI.get (h:DI x B ba n Ls W) {i:Nat} (hi:i < Ls.length) (hn:i < n):∃ o1 o2 o3 o4 o5 o6,W.cell? ⟨ba,i*2,none⟩=some (O o1 o2 o3)/\W.cell? ⟨ba,i*2+1,none⟩=some (O o4 o5 o6)/\Aw x.c.n (XW x) W (zh #[O o1 o2 o3,O o4 o5 o6]) Ls[i]:=by
 obtain ⟨k,e,l,b⟩:=h;obtain ⟨u,v,g,f,hl⟩:=b i hi;obtain ⟨A,y,t,s,q,p,rfl,rfl⟩:=AX hl.at_;exact ⟨_,_,_,_,_,_,(e.cellAt _ (by omega)).trans g,(e.cellAt _ (by omega)).trans f,hl⟩
theorem DI.set {m:Nat} {o1:Option Addr} {o2 o3:Nat} {o4:Option Addr} {o5 o6:Nat} {l:Lev} (h:DI x B ba n Ls W) (hm:m=Ls.length) (hn:m < n) (hne:x.bw≠ba) (hl:Aw x.c.n (XW x) W (zh #[O o1 o2 o3,O o4 o5 o6]) l):DI x B ba n (Ls++[l]) ((W.setCell ⟨ba,m*2,none⟩ (O o1 o2 o3)).setCell ⟨ba,m*2+1,none⟩ (O o4 o5 o6)):=by
 obtain ⟨P,N,M,L,-⟩:=h.cell (j:=m*2) (by omega);obtain ⟨H,G,F,J,-⟩:=h.cell (j:=m*2+1) (by omega);have q:(W.setCell ⟨ba,m*2,none⟩ (O o1 o2 o3)).cell? ⟨ba,m*2+1,none⟩=some (O H G F):=by rw [World.cell?_setCell_other _ _ _ _ (by simp)];exact J
 have hk:∀ {v:Value} {l:Lev},Aw x.c.n (XW x) W v l->Aw x.c.n (XW x) ((W.setCell ⟨ba,m*2,none⟩ (O o1 o2 o3)).setCell ⟨ba,m*2+1,none⟩ (O o4 o5 o6)) v l:=fun A=>CG (CG A L hne _) q hne _;obtain ⟨y,s,C,k⟩:=h;have t:=s.1;refine ⟨(y.set (m*2) (O o1 o2 o3)).set (m*2+1) (O o4 o5 o6),((s.stored _ _).1.stored _ _).1,fun j E=>?_,fun i hi=>?_⟩
 ·by_cases h1:m*2+1=j
  ·exact ⟨o4,o5,o6,by rw [<-h1,List.getElem?_set_self (by rw [List.length_set];omega)]⟩
  ·by_cases h2:m*2=j
   ·exact ⟨o1,o2,o3,by rw [List.getElem?_set_ne h1,<-h2,List.getElem?_set_self (by omega)]⟩
   ·obtain ⟨a,b,c,e⟩:=C j E
    exact ⟨a,b,c,by rw [List.getElem?_set_ne h1,List.getElem?_set_ne h2];exact e⟩
 ·by_cases hii:i < Ls.length
  ·obtain ⟨u,v,I,p,f⟩:=k i hii
   refine ⟨u,v,by rw [List.getElem?_set_ne (by omega),List.getElem?_set_ne (by omega)];exact I,by rw [List.getElem?_set_ne (by omega),List.getElem?_set_ne (by omega)];exact p,?_⟩;rw [List.getElem_append_left hii];exact hk f
  ·have g:i=m:=by rw [List.length_append,List.length_singleton] at hi;omega
   subst g;refine ⟨_,_,by rw [List.getElem?_set_ne (by omega),List.getElem?_set_self (by omega)],by rw [List.getElem?_set_self (by rw [List.length_set];omega)],?_⟩;rw [List.getElem_append_right (by omega)];simp;exact hk hl
end
theorem Hj {n:Nat} {X:World->Nat->Prop} {B:Nat} {W:World} {v:Value} {Ls:List Lev} {g c:Nat} (h:BE n X B W v Ls) (hv:v=O (some ⟨g,0,none⟩) Ls.length c) (j:Nat):W.frozen? ⟨g,j,none⟩=false:=by
 obtain ⟨e,b,-⟩:=h;rw [hv] at b;exact b.frozenAt j
theorem J2 (vs) (q:List (Int × Lev)) (y:Int × Lev):setLev vs (q++[y])=(setLev vs q).set y.1.toNat y.2:=by simp [setLev]
theorem DL:∀ (q:List (Int × Lev)) (vs:List Lev),(setLev vs q).length=vs.length
 | [],vs=>rfl
 | y::q,vs=>by
  show (setLev (vs.set y.1.toNat y.2) q).length=vs.length;rw [DL q];simp
abbrev Q9 (x:WX) (b8 z8:Nat) (W:World) (j:Nat) (pa:Option Addr) (pn pc:Nat) (Wz:World):Prop:=Wz.cell? ⟨x.bw,7,none⟩=some (O (some ⟨b8,z8,none⟩) x.c.fn x.c.fc)/\Wz.cell? ⟨W.heap.size,2,none⟩=some (zd U (j:Int))/\Wz.cell? ⟨b8,z8+j*5,none⟩=some (O pa pn pc)
abbrev Q8 (x:WX) (W:World) (p1:Option Addr) (q1 r1:Nat) (p2:Option Addr) (q2 r2 b6 z6 al ac m:Nat) (k1 k2:Int) (k3:Option Addr) (k4 k5:Nat) (Wz:World):Prop:=Wz.cell? ⟨x.bw,1,none⟩=some (zd U (x.c.n:Int))/\Wz.cell? ⟨x.bw,2,none⟩=some (O x.c.ga x.c.gn x.c.gc)/\Wz.cell? ⟨x.bw,3,none⟩=some (O x.c.sa x.c.sn x.c.sc)/\Wz.cell? ⟨x.bw,4,none⟩=some (O x.c.ya x.c.yn x.c.yc)/\Wz.cell? ⟨x.bw,5,none⟩=some (O x.c.oa x.c.on x.c.oc)/\Wz.cell? ⟨x.bw,6,none⟩=some (O x.c.va x.c.vn x.c.vc)/\Wz.cell? ⟨x.bw,7,none⟩=some (O x.c.fa x.c.fn x.c.fc)/\Wz.cell? ⟨x.bw,8,none⟩=some (O x.c.ba x.c.bn x.c.bc)/\Wz.cell? ⟨x.bw,9,none⟩=some (O x.c.la x.c.ln x.c.lc)/\Wz.cell? ⟨x.bw,10,none⟩=some (O x.c.ka x.c.kn x.c.kc)/\Wz.cell? ⟨W.heap.size+1,0,none⟩=some (O p1 q1 r1)/\Wz.cell? ⟨W.heap.size+1,1,none⟩=some (O p2 q2 r2)/\Wz.cell? ⟨W.heap.size,6,none⟩=some (O (some ⟨b6,z6,none⟩) al ac)/\Wz.cell? ⟨b6,z6+m*3,none⟩=some (zd U k1)/\Wz.cell? ⟨b6,z6+m*3+1,none⟩=some (zd U k2)/\Wz.cell? ⟨b6,z6+m*3+2,none⟩=some (O k3 k4 k5)
abbrev Oo (W:World) (p1:Option Addr) (q1 r1:Nat) (p2:Option Addr) (q2 r2 ba m:Nat) (o1:Option Addr) (o2 o3:Nat) (o4:Option Addr) (o5 o6:Nat) (Wz:World):Prop:=Wz.cell? ⟨W.heap.size+1,0,none⟩=some (O p1 q1 r1)/\Wz.cell? ⟨W.heap.size+1,1,none⟩=some (O p2 q2 r2)/\Wz.cell? ⟨ba,m*2,none⟩=some (O o1 o2 o3)/\Wz.cell? ⟨ba,m*2+1,none⟩=some (O o4 o5 o6)
abbrev Om (x:WX) (bl ba m:Nat) (o1:Option Addr) (o2 o3:Nat) (o4:Option Addr) (o5 o6:Nat) (Wz:World):Prop:=Wz.cell? ⟨x.bw,9,none⟩=some (O (some ⟨bl,0,none⟩) x.c.ln x.c.lc)/\Wz.cell? ⟨ba,m*2,none⟩=some (O o1 o2 o3)/\Wz.cell? ⟨ba,m*2+1,none⟩=some (O o4 o5 o6)
theorem Pi (x) (w0:World) (K kf:Nat) (gs ls ms vs fs) (S:WtS x w0 K kf gs ls ms vs fs) (s:WSt) (pv:Value) (W:World) (h:WtI x w0 s pv W) (hvl:s.vs.length=vs.length) (k:Nat) (cs:List Value) (d) (v:Value) (p) (funcs:Int) (hrs:RS w0 K (k+1) cs d) (hfn:funcs<=fs.length) (hok:Cx K vs.length ls.length ms.length funcs fs d) (hp:Aw x.c.n (XW x) W v p) (hk:Ag d=2) :
  Calls Tryz.prog 187 #[zi (some ⟨x.bw,0,none⟩),.agg cs.toArray,v] W fun e W'=>e=zj (zg (Es (Bc x K gs ls ms vs fs) s p d).1)/\WtI x w0 (Es (Bc x K gs ls ms vs fs) s p d).2 pv W'/\FrW (XV x) W W':=by
 obtain ⟨p1,L,T,Z,V,Q,rfl⟩:=hp.form;obtain ⟨ek,en,xa,xl,xc,aa,ac,ta,tc,ea,ec,rfl,i0,i1,i2,hX,hA,hT,hE,-,-,-⟩:=hrs.form;have dm:sC (Ag d) (Ap d) (Ae d) ek en xa xl xc aa (Ai d).length ac ta (Aj d).length tc ea (Ao d).length ec=sC 2 (Ap d) (Ae d) ek en xa xl xc aa (Ai d).length ac ta (Aj d).length tc ea (Ao d).length ec:=by rw [hk]
 rw [dm];clear dm;obtain ⟨⟨ft,fr⟩,dj,dx⟩:=hok.2.2.1 hk;obtain ⟨j,hj⟩:∃ j:Nat,Ae d=(j:Int):=⟨(Ae d).toNat,by omega⟩;have ae:j < fs.length:=by omega
 have co:(Ae d).toNat=j:=by omega
 have a0:fs[j].ps.length=(Ai d).length:=dj fs[j] (by rw [co];exact List.getElem?_eq_getElem ae);have cc:BV fs (Ae d)=fs[j]:=by unfold BV;rw [co];simp [List.getD_eq_getElem?_getD,ae]
 have bb:Es (Bc x K gs ls ms vs fs) s p d=if ((fs[j].ps.zip ((Ai d).map (withX (Bc x K gs ls ms vs fs) s p))).all fun y=>Cr (Bc x K gs ls ms vs fs) s p y.1 y.2)=true then (true,⟨setLev s.vs (fs[j].ps.zip ((Ai d).map (withX (Bc x K gs ls ms vs fs) s p))),s.ps⟩) else (false,s):=by
  unfold Es C6;have:(Bc x K gs ls ms vs fs).fs=fs:=rfl;rw [this,cc]
 rw [bb,hj];obtain ⟨fw,ih,ig,fx,dt⟩:=S.funcs;injection fx with y1 y2 y3;obtain ⟨b8,z8,ds,cb⟩:=dt (by intro h;rw [h] at ae;simp at ae);obtain ⟨vP,vB,e0,e1,e2,b4,f8,f7,f6,f4,cp,-,cq,di⟩:=cb j ae;have du:x.c.fa=some ⟨b8,z8,none⟩:=y1.trans ds;obtain ⟨pa,pc,rfl,a7⟩:=cp;have aj:=S.body j ae;obtain ⟨f,hf⟩:=nm (fs[j]);rw [<-hf] at a0 b4 a7 aj ⊢;obtain ⟨t,b0⟩:=nm ((Ai d).map (withX (Bc x K gs ls ms vs fs) s p));rw [<-b0];have d9:t.length=(Ai d).length:=by rw [b0];simp
 obtain ⟨vr,df⟩:=nm (Ap d);obtain ⟨al,ct⟩:=nm ((Ai d).length);obtain ⟨tl,dg⟩:=nm ((Aj d).length);obtain ⟨el,dv⟩:=nm ((Ao d).length);obtain ⟨E,br⟩:=nm f.ps.length;rw [<-br] at b4;rw [<-df,<-ct,<-dg,<-dv];obtain ⟨V1,bh⟩:=nm (((W.alloc (ze #[zd U 2,zd U vr,zd U (j:Int),zd U ek,zd U en,O xa xl xc,O aa al ac,O ta tl tc,O ea el ec] 130)).alloc (ze #[O p1 L T,O Z V Q] 50)));have cr:Ov W V1:=by rw [bh];exact (bA W _).alloc (by simp) _
 have ax:Ad [zd U 2,zd U vr,zd U (j:Int),zd U ek,zd U en,O xa xl xc,O aa al ac,O ta tl tc,O ea el ec] V1 W.heap.size:=by rw [bh];exact (Ad.new _ _ _).over (bA _ _)
 have ay:Ad [O p1 L T,O Z V Q] V1 (W.heap.size+1):=by
  rw [bh];have r:=Ad.new [O p1 L T,O Z V Q] 50 (W.alloc (ze #[zd U 2,zd U vr,zd U (j:Int),zd U ek,zd U en,O xa xl xc,O aa al ac,O ta tl tc,O ea el ec] 130));simpa using r
 have h1:=h.over cr;have gj:Hx (Q9 x b8 z8 W j pa E pc V1.drew):=⟨by rw [<-du];exact h1.cw (j:=6) rfl,ax 2 _ rfl,Ab h1.below _ _ b4⟩;obtain ⟨G,bg⟩:=nm V1.drew;have A:Ov W G:=by rw [bg];exact cr.drew
 have b:=Aa A;have H:=Aa h;have gl:=Aa hp;have aw:Ad [zd U 2,zd U vr,zd U (j:Int),zd U ek,zd U en,O xa xl xc,O aa al ac,O ta tl tc,O ea el ec] G W.heap.size:=by rw [bg];exact ax.over (bD _)
 have b7:Hx (G.cell? ⟨W.heap.size+1,0,none⟩=some (O p1 L T)/\G.cell? ⟨W.heap.size+1,1,none⟩=some (O Z V Q)):=by
  rw [bg];exact ⟨ay 0 _ rfl,ay 1 _ rfl⟩
 have gk:=Aa aw;have HA:=Aa hA;have ci:=Aa a7;have gy:=Aa dx;have em:=Aa aj.2.1;have am:=Aa a0;have ar:=Aa br;have er:=Aa ct;have bq:=Aa d9;have eq:=Aa b0;have J:=Aa S;have bj:=Aa hvl;have ia:(j:Int) < (x.c.fn:Int):=by omega
 have g9:x.c.fn<=5:=by have:=S.f5;omega
 have dk:E<=4:=by rw [br];exact aj.1
 have h7:=fun w=>Tf E (by omega) w;obtain ⟨wk,cj⟩:=nm (Bc x K gs ls ms vs fs);have eh:=Aa cj;rw [<-cj] at eq ⊢;obtain ⟨R,hR⟩:∃ q:Bool × WSt,q=(if ((f.ps.zip t).all fun y=>Cr wk s p y.1 y.2)=true then (true,(⟨setLev s.vs (f.ps.zip t),s.ps⟩:WSt)) else (false,s)):=⟨_,rfl⟩;rw [<-hR];have HR:=Aa hR;clear hR;clear hX hA a7 dx aj a0 br hok ct du hrs hT hE h hp ax ay cr ft fr dj hj co cc fw dt y1 y2 y3 ds cb b4 f8 f7 f6 f4 dg dv hk i0 i1 i2 hfn h1 A aw b0 d9 S hvl bb cq di cj df hf ae;go_enter Tryz.func187,Tryz.ntmps187;go_wp2_with fail;rw [<-bh];clear bh;refine gS (Q9 x b8 z8 W j pa E pc) (gj.o) fun g=>?_;refine kT 0 ?_;refine kT 1 ?_;refine kT 2 ?_;refine kT 3 ?_;refine kT 4 ?_;refine kT 5 ?_;refine kT 6 ?_;refine kT 7 ?_;refine kT 8 ?_;refine kT 9 ?_;refine kT 10 ?_;refine kT 11 ?_;refine gE ?_;rw [<-bg];clear bg;obtain ⟨ba,bu⟩:=nm G.heap.size;have b9:=Aa bu;have eb:DI x G.heap.size ba E [] (G.alloc (.cells (Array.replicate (E*2) (Value.slice none 0 0)) 50)):=by rw [bu];exact PL x G.heap.size E G (by omega) (Nat.le_refl _)
 have d7:Ov G (G.alloc (.cells (Array.replicate (E*2) (Value.slice none 0 0)) 50)):=bA _ _;have g2:=Aa eb;have g0:=Aa d7;clear eb d7;go_wp2_with fail;rw [<-bu];clear bu;go_loopw [29] (fun i wr=>∃ m:Nat,m<=E/\i=zd U m/\DI x G.heap.size ba E (t.take m) wr/\(∀ i (h1:i < f.ps.length) (h2:i < t.length),i < m->Cr wk s p f.ps[i] t[i]=true)/\Ov G wr) (fun i _=>E - (intOf i).toNat)
 case atStart=>exact ⟨0,Nat.zero_le _,rfl,g2.o,fun i h1 h2 h3=>absurd h3 (by omega),g0.o⟩
 case round=>
  obtain ⟨m,hm,rfl,cy,bf,N⟩:=hrel;have c5:=Aa cy;have bo:=Aa bf;have bm:=b9.o;by_cases hlt:m < E
  ·have B:m < f.ps.length:=by rw [<-ar.o];exact hlt
   have a9:m < (Ai d).length:=by rw [<-am.o];exact B
   have b1:m < t.length:=by rw [bq.o];exact a9
   have d6:=H.o.over (Ac b.o N);obtain ⟨bp,zp,cl,a8⟩:=ci.o (by intro h;rw [h] at B;simp at B);subst cl;have q0:=Ab d6.below _ _ (a8 m B);have az:=em.o f.ps[m] (List.getElem_mem B);obtain ⟨P,an⟩:∃ q:Nat,f.ps[m]=(q:Int):=⟨f.ps[m].toNat,by omega⟩;have hvl:P < vs.length:=by omega
   obtain ⟨fy,im,il,f2,d3⟩:=HA.o;injection f2 with x1 x2 x3;obtain ⟨b6,z6,dz,cd⟩:=d3 (by intro h;rw [h] at a9;simp at a9);obtain ⟨ik,d2,M,bx⟩:=cd m (Ai d)[m] (List.getElem?_eq_getElem a9);obtain ⟨k3,k5,rfl⟩:=bx.form;obtain ⟨k1,dq⟩:=nm (AQ (Ai d)[m]);obtain ⟨k2,dp⟩:=nm (Bk (Ai d)[m]);obtain ⟨k4,dn⟩:=nm ((A4 (Ai d)[m]).length);rw [<-dq,<-dp,<-dn] at M bx;have d4:aa=some ⟨b6,z6,none⟩:=x1.trans dz;have d8:t[m]=A6 x.c.n s.vs p (AG K (Ai d)[m]):=by
    have e:=eq.o;subst e;rw [List.getElem_map];have e2:=eh.o;subst e2;rfl
   have KW:Hx (∀ (W2:World),Ov G W2->Aw x.c.n (XW x) W2 (zh #[O p1 L T,O Z V Q]) p->Calls Tryz.prog 103 #[(zh #[zd U (x.c.n:Int),O x.c.ga x.c.gn x.c.gc,O x.c.sa x.c.sn x.c.sc,O x.c.ya x.c.yn x.c.yc,O x.c.oa x.c.on x.c.oc,O x.c.va x.c.vn x.c.vc,O x.c.fa x.c.fn x.c.fc,O x.c.ba x.c.bn x.c.bc,O x.c.la x.c.ln x.c.lc,O x.c.ka x.c.kn x.c.kc]),zh #[O p1 L T,O Z V Q],zh #[zd U k1,zd U k2,O k3 k4 k5]] W2 fun e w'=>(∃ p1 L T Z V Q,e=zj (zh #[O p1 L T,O Z V Q])/\Aw x.c.n (XW x) w' (zh #[O p1 L T,O Z V Q]) t[m])/\Ov W2 w'):=fun W2 A fq=>by
    have h2:=H.o.over (Ac b.o A);rw [d8];exact Df x.c J.o.n1 J.o.n6 gs s.vs (XW x) (A5 x) _ p K _ (Ai d)[m] W2 (Af J.o.gr h2.below) J.o.chk h2.lev.levs fq (by rw [bj.o];exact J.o.v16) (fun k hk=>(h2.xlt k hk).2) (bx.over h2.below) (by rw [bj.o];exact Ce (gy.o (Ai d)[m] (List.getElem_mem a9)))
   have ej:Hx (∀ (W2:World),Ov G W2->Aw x.c.n (XW x) W2 (zh #[O p1 L T,O Z V Q]) p):=fun W2 A=>gl.o.over (A5 x) (Ac b.o A);obtain ⟨r,hr⟩:=nm (Cr wk s p f.ps[m] t[m]);have dh:r=(Av p (s.vs.getD P Ah) x.c.n && (!vs[P].1 || Av t[m] (Ar (Ax gs) x.c.n vs[P].2) x.c.n)):=by
    have e2:=eh.o;rw [hr,an,e2];exact Kh x K gs ls ms vs fs s p t[m] hvl
   have KM:Hx (∀ (W2:World) {y:Value},Ov G W2->Aw x.c.n (XW x) W2 y t[m]->Calls Tryz.prog 186 #[zi (some ⟨x.bw,0,none⟩),zh #[O p1 L T,O Z V Q],zd U (P:Int),y] W2 fun e W'=>e=zj (zg r)/\Ov W2 W'):=fun W2 y A hy=>by
    rw [dh];exact Hg x w0 K kf gs ls ms vs fs J.o s pv W2 (H.o.over (Ac b.o A)) bj.o _ _ p t[m] (ej.o W2 A) hy P hvl
   have bk:Hx (∀ W2,Ov G W2->Q8 x W p1 L T Z V Q b6 z6 al ac m k1 k2 k3 k4 k5 W2):=fun W2 A=>by
    have h2:=H.o.over (Ac b.o A);exact ⟨h2.cw (j:=0) rfl,h2.cw (j:=1) rfl,h2.cw (j:=2) rfl,h2.cw (j:=3) rfl,h2.cw (j:=4) rfl,h2.cw (j:=5) rfl,h2.cw (j:=6) rfl,h2.cw (j:=7) rfl,h2.cw (j:=8) rfl,h2.cw (j:=9) rfl,Ab A _ _ b7.o.1,Ab A _ _ b7.o.2,by rw [<-d4];exact Ab A _ _ (gk.o 6 _ rfl),Ab h2.below _ _ (M 0 _ rfl),Ab h2.below _ _ (M 1 _ rfl),Ab h2.below _ _ (M 2 _ rfl)⟩
   have c4:Hx (x.bw < ba):=by rw [bm];have:=(H.o.over b.o).lo.2;exact this
   have gm:Hx (r=true->∀ i (h1:i < f.ps.length) (h2:i < t.length),i < m+1->Cr wk s p f.ps[i] t[i]=true):=fun fm i h1 h2 h3=>by
    by_cases hi:i=m
    ·subst hi;rw [<-hr];exact fm
    ·exact bo.o i h1 h2 (by omega)
   have eo:Hx (r=false->R=(false,s)):=fun fo=>by
    rw [HR.o,if_neg];rw [Bool.not_eq_true,List.all_eq_false];refine ⟨(f.ps[m],t[m]),?_,by rw [<-hr,fo];simp⟩;have:=List.getElem_mem (l:=f.ps.zip t) (n:=m) (by simp;omega);simpa using this
   rw [an] at q0;have h8:(m:Int) < (al:Int):=by rw [er.o];omega
   have cm:(m:Int) < (E:Int):=by omega
   have hc:al<=4:=by rw [er.o,<-am.o,<-ar.o];exact dk
   have hb:G.heap.size<=ba:=by omega
   clear hr dh an az hvl bx M d2 x1 x2 x3 dz cd d3 fy d4 dq dp dn a8 bf B d8 cy d6 bm;go_wp2_with fail;refine gS (Q8 x W p1 L T Z V Q b6 z6 al ac m k1 k2 k3 k4 k5) (bk.o _ N.drew) fun g=>?_;refine kT 0 ?_;refine kT 1 ?_;refine kT 2 ?_;refine kT 3 ?_;refine kT 4 ?_;refine kT 5 ?_;refine kT 6 ?_;refine kT 7 ?_;refine kT 8 ?_;refine kT 9 ?_;refine kT 10 ?_;refine kT 11 ?_;refine rdA 12 rfl fun K hK=>?_;go_simp;refine (KW.o _ (N.drew) (ej.o _ N.drew)).mono ?_;rintro e W6 ⟨⟨o1,o2,o3,o4,o5,o6,rfl,cv⟩,dy⟩;have be:=Ac (bD _) dy;have b3:=c5.o.over be;have cx:=N.trans (be.mono N.size);have gz:=Aa cx;obtain ⟨e1,e2,e3,d0,z0⟩:=b3.cell (j:=m*2) (by omega);obtain ⟨e4,e5,e6,d1,z1⟩:=b3.cell (j:=m*2+1) (by omega);obtain ⟨W7,aq⟩:=nm ((W6.setCell ⟨ba,m*2,none⟩ (O o1 o2 o3)).setCell ⟨ba,m*2+1,none⟩ (O o4 o5 o6));have I:Hx (Ov G W7):=by rw [aq];exact (cx.setCell (p:=⟨ba,m*2,none⟩) (by show G.heap.size<=ba;omega) _).setCell (p:=⟨ba,m*2+1,none⟩) (by show G.heap.size<=ba;omega) _
   have et:Hx (DI x G.heap.size ba E (t.take (m+1)) W7):=by
    rw [aq,List.take_succ_eq_append_getElem b1];exact b3.set (by rw [List.length_take];omega) hlt (by have:=c4.o;omega) cv
   have gp:Hx (Aw x.c.n (XW x) W7 (zh #[O o1 o2 o3,O o4 o5 o6]) t[m]):=by
    rw [aq];have gd:(W6.setCell ⟨ba,m*2,none⟩ (O o1 o2 o3)).cell? ⟨ba,m*2+1,none⟩=some (O e4 e5 e6):=by rw [World.cell?_setCell_other _ _ _ _ (by simp)];exact d1
    exact CG (CG cv d0 (by have:=c4.o;omega) _) gd (by have:=c4.o;omega) _
   clear cv dy be b3 cx;go_simp;refine xK hK (bk.o _ gz.o) fun g=>?_;clear hK K;refine kT 13 ?_;refine rdA 14 rfl fun K hK=>?_;have ep:Hx (W7.cell? ⟨ba,m*2,none⟩=some (O o1 o2 o3)/\W7.cell? ⟨ba,m*2+1,none⟩=some (O o4 o5 o6)):=by
    rw [aq];have L:(W6.setCell ⟨ba,m*2,none⟩ (O o1 o2 o3)).cell? ⟨ba,m*2+1,none⟩=some (O e4 e5 e6):=by rw [World.cell?_setCell_other _ _ _ _ (by simp)];exact d1
    exact ⟨by rw [World.cell?_setCell_other _ _ _ _ (by simp)];exact World.cell?_setCell_same _ _ _ d0,World.cell?_setCell_same _ _ _ L⟩
   go_simp;rw [<-aq];clear aq d0 d1 z0 z1;refine xK hK (bk.o _ I.o) fun g=>?_;clear hK K;refine gE ?_;have b5:Hx (∀ W9,Ov W7 W9->Oo W p1 L T Z V Q ba m o1 o2 o3 o4 o5 o6 W9):=fun W9 bv=>⟨Ab (I.o.trans (bv.mono I.o.size)) _ _ b7.o.1,Ab (I.o.trans (bv.mono I.o.size)) _ _ b7.o.2,Ab bv _ _ ep.o.1,Ab bv _ _ ep.o.2⟩;have eg:=Aa (KM.o W7.drew (I.o.drew) (gp.o.over (A5 x) (bD _)))
   cases r with
   | true=>
    go_wp2_with fail;refine gS (Oo W p1 L T Z V Q ba m o1 o2 o3 o4 o5 o6) (b5.o _ (bD _)) fun g=>?_;refine kT 0 ?_;refine kT 1 ?_;refine kT 2 ?_;refine kT 3 ?_;refine kT 4 ?_;refine kT 5 ?_;refine kT 6 ?_;refine rdA 7 rfl fun K hK=>?_;go_simp;refine (eg.o).mono ?_;rintro e W8 ⟨rfl,bd⟩;have u:=Ac (bD _) bd;have c3:=Aa (b5.o W8 u);have es:=Aa (et.o.over u);have ca:=Aa (I.o.trans (u.mono I.o.size));clear bd u;go_simp;refine xK hK (c3.o) fun g=>?_;clear hK K;refine kT 8 ?_;refine gE ?_;go_wp2_with fail;exact ⟨⟨m+1,by omega,by go_num,es.o,gm.o (by first | rfl | trivial),ca.o⟩,by simp [intOf];omega⟩
   | false=>
    go_wp2_with fail;refine gS (Oo W p1 L T Z V Q ba m o1 o2 o3 o4 o5 o6) (b5.o _ (bD _)) fun g=>?_;refine kT 0 ?_;refine kT 1 ?_;refine kT 2 ?_;refine kT 3 ?_;refine kT 4 ?_;refine kT 5 ?_;refine kT 6 ?_;refine rdA 7 rfl fun K hK=>?_;go_simp;refine (eg.o).mono ?_;rintro e W8 ⟨rfl,bd⟩;have u:=Ac (bD _) bd;have c3:=Aa (b5.o W8 u);have es:=Aa (et.o.over u);have ca:=Aa (I.o.trans (u.mono I.o.size));clear bd u;go_simp;refine xK hK (c3.o) fun g=>?_;clear hK K;refine kT 8 ?_;refine gE ?_;go_wp2_with fail;go_ret;exact ⟨by rw [eo.o (by first | rfl | trivial)];rfl,by rw [eo.o (by first | rfl | trivial)];exact H.o.over (Ac b.o ca.o),FrW.of_below (Bx x) (Ac b.o ca.o)⟩
  ·have bs:m=E:=by omega
   have ei:Hx (t.take m=t):=by have:=bq.o;have:=am.o;have:=ar.o;exact List.take_of_length_le (by omega)
   have ch:Hx (R=(true,⟨setLev s.vs (f.ps.zip t),s.ps⟩)):=by
    rw [HR.o,if_pos]
    ·exact Aa rfl
    rw [List.all_eq_true];intro q hq;obtain ⟨i,hi,rfl⟩:=List.getElem_of_mem hq;have hz:(f.ps.zip t).length=min f.ps.length t.length:=List.length_zip;have dr:i < f.ps.length:=by omega
    have fu:i < t.length:=by omega
    have:=bo.o i dr fu (by rw [bs,ar.o];exact dr);simpa using this
   have cm:¬ (m:Int) < (E:Int):=by omega
   rw [ei.o] at c5;have gu:=Aa (H.o.over (Ac b.o N));have gx:=Aa (FrW.of_below (Bx x) (Ac b.o N));clear bf cy bs bo ei bm;go_wp2_with fail;go_loopw [60] (fun i w9=>∃ m:Nat,m<=E/\i=zd U m/\WtI x w0 ⟨setLev s.vs ((f.ps.zip t).take m),s.ps⟩ pv w9/\DI x G.heap.size ba E t w9/\FrW (XV x) W w9) (fun i _=>E - (intOf i).toNat)
   case atStart=>exact ⟨0,Nat.zero_le _,rfl,gu.o,c5.o,gx.o⟩
   case round=>
    obtain ⟨m,hm,rfl,F,b2,bz⟩:=hrel;by_cases hlt:m < E
    ·have B:m < f.ps.length:=by rw [<-ar.o];exact hlt
     have b1:m < t.length:=by rw [bq.o,<-am.o];exact B
     obtain ⟨bp,zp,cl,a8⟩:=ci.o (by intro h;rw [h] at B;simp at B);subst cl;have q0:=Ab F.below _ _ (a8 m B);have az:=em.o f.ps[m] (List.getElem_mem B);obtain ⟨P,an⟩:∃ q:Nat,f.ps[m]=(q:Int):=⟨f.ps[m].toNat,by omega⟩;have ck:P < (setLev s.vs ((f.ps.zip t).take m)).length:=by rw [DL,bj.o];omega
     obtain ⟨o1,o2,o3,o4,o5,o6,c0,c1,d5⟩:=b2.get b1 hlt;obtain ⟨bl,g7,a1,a2,a3,a4,a5,a6,ad,k0,k1,-⟩:=F.lev.cells ck;have bt:x.c.la=some ⟨bl,0,none⟩:=by unfold WX.lv at ad;injection ad
     have cn:x.c.ln=(setLev s.vs ((f.ps.zip t).take m)).length:=by unfold WX.lv at ad;injection ad
     have fp:x.c.ln<=16:=by rw [cn,DL,bj.o];exact J.o.v16
     have h5:(P:Int) < (x.c.ln:Int):=by rw [cn];omega
     have ao:Ov wr wr.drew:=(bD _);have h3:=F.over ao;have C:=h3.setLev J.o.n1 bt ck (d5.over (A5 x) ao);obtain ⟨W4,cu⟩:=nm (((wr.setCell ⟨bl,P*2,none⟩ (O o1 o2 o3)).setCell ⟨bl,P*2+1,none⟩ (O o4 o5 o6)).drew);have dw:(wr.drew.setCell ⟨bl,P*2,none⟩ (O o1 o2 o3)).setCell ⟨bl,P*2+1,none⟩ (O o4 o5 o6)=W4:=by rw [cu];rfl
     rw [dw] at C;clear dw;have dl:¬ XV x wr ba:=fun e=>by
      rcases F.xv.1 e with e | e | e
      ·have:=(H.o.over b.o).lo.2;have:=b9.o;omega
      ·have:=((H.o.over b.o).lev.lt ba e).2;have:=b9.o;omega
      ·have:=((H.o.over b.o).pls.lt ba e).2;have:=b9.o;omega
     have ai:¬ XV x wr.drew ba:=fun e=>dl ((Bx x).below _ _ ao _ e);have gt:Hx (WtI x w0 ⟨setLev s.vs ((f.ps.zip t).take (m+1)),s.ps⟩ pv W4):=by
      have fi:m < (f.ps.zip t).length:=by rw [List.length_zip];omega
      rw [List.take_succ_eq_append_getElem fi,J2,List.getElem_zip];have e:=C.1;have fk:f.ps[m].toNat=P:=by omega
      show WtI x w0 ⟨(setLev s.vs ((f.ps.zip t).take m)).set f.ps[m].toNat t[m],s.ps⟩ pv W4;rw [fk];exact e
     have g1:=Aa ((b2.over ao).keep J.o.n1 C.2 ai);have gw:=Aa ((bz.trans (FrW.of_below (Bx x) ao)).trans C.2);have u9:wr.cell? ⟨x.bw,9,none⟩=some (O (some ⟨bl,0,none⟩) x.c.ln x.c.lc):=by rw [<-bt];exact F.cw (j:=8) rfl
     have bk:Hx (Om x bl ba m o1 o2 o3 o4 o5 o6 wr.drew):=⟨u9,c0,c1⟩;have gi:Hx (Om x bl ba m o1 o2 o3 o4 o5 o6 W4):=⟨by rw [<-bt];exact C.1.cw (j:=8) rfl,C.2.cell (show wr.drew.cell? _=_ from c0) ai,C.2.cell (show wr.drew.cell? _=_ from c1) ai⟩;have z0:wr.frozen? ⟨bl,P*2,none⟩=false:=Hj F.lev ad _;have z1:wr.frozen? ⟨bl,P*2+1,none⟩=false:=Hj F.lev ad _;rw [an] at q0;have cm:(m:Int) < (E:Int):=by omega
     clear C h3 ao dl ai d5 F b2 bz ad bt cn ck an az a8 B b1;go_wp2_with fail;refine gS (Om x bl ba m o1 o2 o3 o4 o5 o6) (bk.o) fun g=>?_;refine kT 0 ?_;refine kT 1 ?_;refine kT 2 ?_;refine kT 3 ?_;refine kT 4 ?_;refine kT 5 ?_;refine kT 6 ?_;refine kT 7 ?_;refine kT 8 ?_;refine kT 9 ?_;refine kT 10 ?_;refine kT 11 ?_;refine rdA 12 rfl fun K hK=>?_;go_simp;rw [<-cu];clear cu;refine xK hK (gi.o) fun g=>?_;clear hK K;refine gE ?_;go_wp2_with fail;exact ⟨⟨m+1,by omega,by go_num,gt.o,g1.o,gw.o⟩,by simp [intOf];omega⟩
    ·have bs:m=E:=by omega
     have hz:(f.ps.zip t).take m=f.ps.zip t:=List.take_of_length_le (by rw [List.length_zip];have:=ar.o;omega);rw [hz] at F;have cm:¬ (m:Int) < (E:Int):=by omega
     have gq:=Aa F;have gv:=Aa bz;clear F b2 bz bs hz;go_wp2_with fail;go_ret;exact ⟨by rw [ch.o];rfl,by rw [ch.o];exact gq.o,gv.o⟩
theorem L7 {x:WX} {w0 W W':World} {s:WSt} {pv v:Value} {l:Lev} (h:WtI x w0 s pv W) (hb:Ov W W') (hf:A1 W W' v l) (hl:l.len x.c.n):∃ a1 a2 a3 a4 a5 a6,v=zh #[O a1 a2 a3,O a4 a5 a6]/\Aw x.c.n (XW x) W' (zh #[O a1 a2 a3,O a4 a5 a6]) l:=by
 have f:=Bm hf;have g:=Aq hf;obtain ⟨B,A,rfl,e,b,-⟩:=hf;obtain ⟨y,u,t,rfl⟩:=AE e;obtain ⟨q,p,i,rfl⟩:=AE b;exact ⟨_,_,_,_,_,_,rfl,g,hl,B8 (A5 x) hb (fun k hk=>(h.xlt k hk).2) f⟩
theorem I3:(∀ (u v:Value) (w:World),(Instr.field 50 (zh #[u,v]) 0).run Tryz.prog w=.ok u w)/\∀ (u v:Value) (w:World),(Instr.field 50 (zh #[u,v]) 1).run Tryz.prog w=.ok v w:=
 ⟨fun u v w=>by simp [Instr.field,run_underlying Tryz.underlying50,go_sem,Result.andThen,asAgg],fun u v w=>by simp [Instr.field,run_underlying Tryz.underlying50,go_sem,Result.andThen,asAgg]⟩
theorem NG (l k) (n:Nat):(BA l k n).len n:=⟨AH _ _,AH _ _⟩
abbrev Q7 (x:WX) (W:World) (ek en:Int) (xa:Option Addr) (xl xc:Nat) (p1:Option Addr) (q1 r1:Nat) (p2:Option Addr) (q2 r2:Nat) (Wz:World):Prop:=Wz.cell? ⟨x.bw,1,none⟩=some (zd U (x.c.n:Int))/\CE Wz x.bw 2 (O x.c.ga x.c.gn x.c.gc)/\CE Wz x.bw 3 (O x.c.sa x.c.sn x.c.sc)/\CE Wz x.bw 4 (O x.c.ya x.c.yn x.c.yc)/\CE Wz x.bw 5 (O x.c.oa x.c.on x.c.oc)/\CE Wz x.bw 6 (O x.c.va x.c.vn x.c.vc)/\CE Wz x.bw 7 (O x.c.fa x.c.fn x.c.fc)/\CE Wz x.bw 8 (O x.c.ba x.c.bn x.c.bc)/\CE Wz x.bw 9 (O x.c.la x.c.ln x.c.lc)/\CE Wz x.bw 10 (O x.c.ka x.c.kn x.c.kc)/\CE Wz W.heap.size 3 (zd U ek)/\CE Wz W.heap.size 4 (zd U en)/\CE Wz W.heap.size 5 (O xa xl xc)/\CE Wz (W.heap.size+1) 0 (O p1 q1 r1)/\CE Wz (W.heap.size+1) 1 (O p2 q2 r2)
abbrev Q6 (x:WX) (by0 oy:Nat) (W:World) (jo:Nat) (pa1:Option Addr) (pn1 pc1:Nat) (pa2:Option Addr) (pn2 pc2:Nat) (Wz:World):Prop:=Wz.cell? ⟨x.bw,1,none⟩=some (zd U (x.c.n:Int))/\CE Wz x.bw 2 (O x.c.ga x.c.gn x.c.gc)/\CE Wz x.bw 3 (O x.c.sa x.c.sn x.c.sc)/\CE Wz x.bw 4 (O (some ⟨by0,oy,none⟩) x.c.yn x.c.yc)/\CE Wz x.bw 5 (O x.c.oa x.c.on x.c.oc)/\CE Wz x.bw 6 (O x.c.va x.c.vn x.c.vc)/\CE Wz x.bw 7 (O x.c.fa x.c.fn x.c.fc)/\CE Wz x.bw 8 (O x.c.ba x.c.bn x.c.bc)/\CE Wz x.bw 9 (O x.c.la x.c.ln x.c.lc)/\CE Wz x.bw 10 (O x.c.ka x.c.kn x.c.kc)/\CE Wz W.heap.size 2 (zd U (jo:Int))/\CE Wz by0 (oy+jo*2) (O pa1 pn1 pc1)/\CE Wz by0 (oy+jo*2+1) (O pa2 pn2 pc2)
abbrev MF (x:WX) (by0 oy:Nat) (W:World) (jv:Nat) (p1:Option Addr) (q1 r1:Nat) (p2:Option Addr) (q2 r2 bc:Nat) (c1:Option Addr) (c2 c3:Nat) (c4:Option Addr) (c5 c6:Nat) (Wz:World):Prop:=Wz.cell? ⟨x.bw,1,none⟩=some (zd U (x.c.n:Int))/\CE Wz x.bw 2 (O x.c.ga x.c.gn x.c.gc)/\CE Wz x.bw 3 (O x.c.sa x.c.sn x.c.sc)/\CE Wz x.bw 4 (O (some ⟨by0,oy,none⟩) x.c.yn x.c.yc)/\CE Wz x.bw 5 (O x.c.oa x.c.on x.c.oc)/\CE Wz x.bw 6 (O x.c.va x.c.vn x.c.vc)/\CE Wz x.bw 7 (O x.c.fa x.c.fn x.c.fc)/\CE Wz x.bw 8 (O x.c.ba x.c.bn x.c.bc)/\CE Wz x.bw 9 (O x.c.la x.c.ln x.c.lc)/\CE Wz x.bw 10 (O x.c.ka x.c.kn x.c.kc)/\CE Wz W.heap.size 1 (zd U (jv:Int))/\CE Wz (W.heap.size+1) 0 (O p1 q1 r1)/\CE Wz (W.heap.size+1) 1 (O p2 q2 r2)/\CE Wz bc 0 (O c1 c2 c3)/\CE Wz bc 1 (O c4 c5 c6)
abbrev Q5 (x:WX) (by0 oy:Nat) (W:World) (jo bz:Nat) (o1:Option Addr) (o2 o3:Nat) (o4:Option Addr) (o5 o6:Nat) (pa1:Option Addr) (pn1 pc1:Nat) (pa2:Option Addr) (pn2 pc2:Nat) (Wz:World):Prop:=Wz.cell? ⟨x.bw,1,none⟩=some (zd U (x.c.n:Int))/\CE Wz x.bw 2 (O x.c.ga x.c.gn x.c.gc)/\CE Wz x.bw 3 (O x.c.sa x.c.sn x.c.sc)/\CE Wz x.bw 4 (O x.c.ya x.c.yn x.c.yc)/\CE Wz x.bw 5 (O (some ⟨by0,oy,none⟩) x.c.on x.c.oc)/\CE Wz x.bw 6 (O x.c.va x.c.vn x.c.vc)/\CE Wz x.bw 7 (O x.c.fa x.c.fn x.c.fc)/\CE Wz x.bw 8 (O x.c.ba x.c.bn x.c.bc)/\CE Wz x.bw 9 (O x.c.la x.c.ln x.c.lc)/\CE Wz x.bw 10 (O x.c.ka x.c.kn x.c.kc)/\CE Wz W.heap.size 2 (zd U (jo:Int))/\CE Wz bz 0 (O o1 o2 o3)/\CE Wz bz 1 (O o4 o5 o6)/\CE Wz by0 (oy+jo*2) (O pa1 pn1 pc1)/\CE Wz by0 (oy+jo*2+1) (O pa2 pn2 pc2)
theorem Ss (x) (w0:World) (K kf:Nat) (gs ls ms vs fs) (S:WtS x w0 K kf gs ls ms vs fs) (s:WSt) (pv:Value) (W:World) (h:WtI x w0 s pv W) (hvl:s.vs.length=vs.length) (a:Int) (k:Nat) (cs:List Value) (d) (v:Value) (p) (funcs:Int) (hrs:RS w0 K (k+1) cs d) (hfn:funcs<=fs.length) (hok:Cx K vs.length ls.length ms.length funcs fs d) (hp:Aw x.c.n (XW x) W v p) (hk6:Ag d<=6) :
  Calls Tryz.prog 122 #[zi (some ⟨x.bw,0,none⟩),.agg cs.toArray,zd U a,v] W fun e W'=>e=zj (zg (doX (Bc x K gs ls ms vs fs) s a d p).1)/\WtI x w0 (doX (Bc x K gs ls ms vs fs) s a d p).2 pv W'/\FrW (XV x) W W':=by
 obtain ⟨p1,q1,r1,p2,q2,r2,rfl⟩:=hp.form;obtain ⟨ek,en,xa,xl,xc,aa,ac,ta,tc,ea,ec,rfl,i0,i1,i2,hX,hA,hT,hE,-,-,-⟩:=hrs.form;have ds:=hrs;obtain ⟨kd,az⟩:=nm (Ag d);obtain ⟨vr,fx⟩:=nm (Ap d);obtain ⟨ot,fy⟩:=nm (Ae d);obtain ⟨al,hn⟩:=nm ((Ai d).length);obtain ⟨tl,g7⟩:=nm ((Aj d).length);obtain ⟨el,hj⟩:=nm ((Ao d).length);rw [<-az,<-fx,<-fy,<-hn,<-g7,<-hj] at ds ⊢;obtain ⟨R,hR⟩:=nm (doX (Bc x K gs ls ms vs fs) s a d p);rw [<-hR];have HR:=Aa hR;obtain ⟨Q,d2⟩:=nm (withX (Bc x K gs ls ms vs fs) s p (Am d));have ff:Hx (withX (Bc x K gs ls ms vs fs) s p (Am d)=Q):=d2.symm;obtain ⟨V1,db⟩:=nm (((W.alloc (ze #[zd U kd,zd U vr,zd U ot,zd U ek,zd U en,O xa xl xc,O aa al ac,O ta tl tc,O ea el ec] 130)).alloc (ze #[O p1 q1 r1,O p2 q2 r2] 50)));have da:Ov W V1:=by rw [db];exact (bA W _).alloc (by simp) _
 have cc:Ad [zd U kd,zd U vr,zd U ot,zd U ek,zd U en,O xa xl xc,O aa al ac,O ta tl tc,O ea el ec] V1 W.heap.size:=by rw [db];exact (Ad.new _ _ _).over (bA _ _)
 have cy:Ad [O p1 q1 r1,O p2 q2 r2] V1 (W.heap.size+1):=by
  rw [db];have r:=Ad.new [O p1 q1 r1,O p2 q2 r2] 50 (W.alloc (ze #[zd U kd,zd U vr,zd U ot,zd U ek,zd U en,O xa xl xc,O aa al ac,O ta tl tc,O ea el ec] 130));simpa using r
 have gk:=Aa cc;have gf:=Aa cy;have h1:=h.over da;have e9:=Aa h1;have jg:=Aa (hp.over (A5 x) da);have gy:=Aa (FrW.of_below (Bx x) da);have e5:Hx (V1.heap.size=W.heap.size+1+1):=by rw [db];exact Aa (by simp)
 have gu:Hx (∀ q,W.heap.size<=q->¬ XV x V1 q):=fun q hq e=>by have:=(h.vlt _ ((Bx x).below _ _ da _ e)).2;omega
 have E:=Aa S;have d7:=Aa hvl;have e4:=Aa fx;have h5:=Aa fy;have jf:=Aa ds;have gt:=Aa hok;have jj:=Aa hfn;have HV:Hx ((Ag d=1\/Ag d=2\/Ag d=3\/Ag d=5\/Ag d=6)->0<=Ap d/\Ap d < vs.length):=hok.2.1;have gx:Hx (x.bw < V1.heap.size):=h1.lo.2;have bu:Hx (Ov V1 V1.drew):=(bD _);have ix:kd=1\/kd=2\/kd=3\/kd=4\/kd=5\/kd=6:=by have:=hok.1;omega
 have KW:Hx (∀ (W2:World),Ov V1 W2->Calls Tryz.prog 103 #[(zh #[zd U (x.c.n:Int),O x.c.ga x.c.gn x.c.gc,O x.c.sa x.c.sn x.c.sc,O x.c.ya x.c.yn x.c.yc,O x.c.oa x.c.on x.c.oc,O x.c.va x.c.vn x.c.vc,O x.c.fa x.c.fn x.c.fc,O x.c.ba x.c.bn x.c.bc,O x.c.la x.c.ln x.c.lc,O x.c.ka x.c.kn x.c.kc]),zh #[O p1 q1 r1,O p2 q2 r2],zh #[zd U ek,zd U en,O xa xl xc]] W2 fun e w'=>(∃ p1 q1 r1 p2 q2 r2,e=zj (zh #[O p1 q1 r1,O p2 q2 r2])/\Aw x.c.n (XW x) w' (zh #[O p1 q1 r1,O p2 q2 r2]) Q)/\Ov W2 w'):=fun W2 bm=>by
  have h2:=h1.over bm;rw [d2];exact Df x.c S.n1 S.n6 gs s.vs (XW x) (A5 x) _ p K _ (Am d) W2 (Af S.gr h2.below) S.chk h2.lev.levs ((hp.over (A5 x) da).over (A5 x) bm) (by rw [hvl];exact S.v16) (fun k hk=>(h2.xlt k hk).2) (hX.over h2.below) (by rw [hvl];exact Bd hok)
 have P:Hx (∀ W2,Ov V1 W2->Q7 x W ek en xa xl xc p1 q1 r1 p2 q2 r2 W2):=fun W2 bm=>by
  have h2:=h1.over bm;exact ⟨h2.cw (j:=0) rfl,h2.cw (j:=1) rfl,h2.cw (j:=2) rfl,h2.cw (j:=3) rfl,h2.cw (j:=4) rfl,h2.cw (j:=5) rfl,h2.cw (j:=6) rfl,h2.cw (j:=7) rfl,h2.cw (j:=8) rfl,h2.cw (j:=9) rfl,(cc.over bm) 3 _ rfl,(cc.over bm) 4 _ rfl,(cc.over bm) 5 _ rfl,(cy.over bm) 0 _ rfl,(cy.over bm) 1 _ rfl⟩
 have ji:=Aa az;clear hX hA hT hE hrs ds h hp cc cy da hok hvl hfn h1 S az fx fy hn g7 hj i0 i1 i2 hR d2 hk6;go_enter Tryz.func122,Tryz.ntmps122;go_wp2_with fail;rw [<-db];clear db;refine Cw (fun cz Wn=>∃ (bq:Nat) (x11 x12 x13 x14 x15 x16 x17 x18:Value) (o1:Option Addr) (o2 o3:Nat) (o4:Option Addr) (o5 o6:Nat),cz={ tmps:=#[zi (some ⟨x.bw,0,none⟩),zh #[zd U kd,zd U vr,zd U ot,zd U ek,zd U en,O xa xl xc,O aa al ac,O ta tl tc,O ea el ec],zd U a,zh #[O p1 q1 r1,O p2 q2 r2],undef,zi (some ⟨W.heap.size,0,none⟩),undef,zi (some ⟨W.heap.size+1,0,none⟩),zg false,zi (some ⟨bq,0,none⟩),undef,x11,x12,x13,x14,x15,x16,x17,x18,undef,undef,undef,undef,undef,undef,undef,undef,undef,undef,undef,undef,undef,undef,undef,undef,undef,undef,undef,undef,undef,undef,undef,undef,undef,undef,undef,undef,undef,undef,undef,undef,undef,undef,undef,undef,undef,undef,undef,undef,undef,undef,undef,undef,undef,undef,undef,undef,undef,undef,undef,undef,undef,undef,undef,undef,undef,undef,undef,undef,undef,undef,undef,undef,undef,undef,undef,undef,undef,undef,undef,undef,undef,undef,undef,undef,undef,undef,undef,undef,undef,undef,undef,undef,undef,undef,undef,undef,undef,undef,undef,undef,undef,undef,undef,undef,undef,undef,undef,undef,undef,undef,undef,undef,undef,undef,undef,undef,undef,undef,undef,undef,undef,undef,undef],defers:=[] }/\Ov V1 Wn/\Ad [O o1 o2 o3,O o4 o5 o6] Wn bq/\(Wn.frozen? ⟨bq,0,none⟩=false/\Wn.frozen? ⟨bq,1,none⟩=false)/\Aw x.c.n (XW x) Wn (zh #[O o1 o2 o3,O o4 o5 o6]) Q/\V1.heap.size<=bq/\bq < Wn.heap.size) ?_ ?_
 ·refine gS (Q7 x W ek en xa xl xc p1 q1 r1 p2 q2 r2) (P.o _ bu.o) fun i=>?_
  refine kT 0 ?_;refine kT 1 ?_;refine kT 2 ?_;refine kT 3 ?_;refine kT 4 ?_;refine kT 5 ?_;refine kT 6 ?_;refine rdB 7 8 rfl (fun K C=>?_) rfl fun K C=>?_
  ·go_simp
   refine (KW.o _ bu.o).mono ?_;rintro e l ⟨⟨o1,o2,o3,o4,o5,o6,rfl,am⟩,g⟩;have ad:=Aa (Ac bu.o g);have gw:=Aa am;clear am g;go_simp;refine xK C (P.o _ ad.o) fun i=>?_;clear C K;refine rdA 8 rfl fun K C=>?_;obtain ⟨W4,N⟩:=nm (l.alloc (ze #[O none 0 0,O none 0 0] 50));have V:Ov l W4:=by rw [N];exact bA _ _
   obtain ⟨bq,bk⟩:∃ b:Nat,b=l.heap.size:=⟨_,rfl⟩;have B:Hx (ZB bq W4):=by rw [bk,N];exact DJ _ _
   have Z:Hx (V1.heap.size<=bq):=by rw [bk];exact ad.o.size
   have ab:=Aa (Ac ad.o V);have aw:=Aa (gw.o.over (A5 x) V);go_simp;rw [<-N,<-bk];clear V N bk;refine xK C (P.o _ ab.o) fun i=>?_;clear C K;have d0:=B.o.c0;have d1:=B.o.c1;have z0:=B.o.z0;have z1:=B.o.z1;obtain ⟨W9,t⟩:=nm (BC W4 bq (O o1 o2 o3) (O o4 o5 o6));have H:Hx (Ov V1 W9):=by rw [t];exact B7 ab.o Z.o _ _
   have av:Hx (Ad [O o1 o2 o3,O o4 o5 o6] W9 bq):=by rw [t];exact B.o.fill _ _
   have bt:Hx (Aw x.c.n (XW x) W9 (zh #[O o1 o2 o3,O o4 o5 o6]) Q):=by rw [t];exact Dm aw.o B.o (by have:=gx.o;have:=Z.o;omega) _ _
   have cv:Hx (W9.frozen? ⟨bq,0,none⟩=false/\W9.frozen? ⟨bq,1,none⟩=false):=by rw [t];unfold BC;exact ⟨by simp [go_sem,z0],by simp [go_sem,z1]⟩
   unfold BC at t;refine rdA 9 rfl fun K C=>?_;go_simp;rw [<-t];clear t;refine xK C (P.o _ H.o) fun i=>?_;clear C K;refine gE ?_;exact Ba ⟨bq,_,_,_,_,_,_,_,_,o1,o2,o3,o4,o5,o6,rfl,H.o,av.o,cv.o,bt.o,Z.o,bL (av.o 0 _ rfl)⟩
  ·obtain ⟨l,bo⟩:=nm ((V1.alloc (ze #[O none 0 0,O none 0 0] 50)).drew)
   have g:Ov V1 l:=by rw [bo];exact (bA _ _).drew
   obtain ⟨bq,bl⟩:∃ b:Nat,b=V1.heap.size:=⟨_,rfl⟩;have dn:ZB bq l:=by rw [bl,bo];exact Jc (DJ _ _)
   have Z:Hx (V1.heap.size<=bq):=by rw [bl];exact Nat.le_refl _
   have ad:=Aa g;have ge:=Aa dn;go_simp;rw [<-bo,<-bl];clear g bo bl dn;refine xK C (P.o _ ad.o) fun i=>?_;clear C K;refine rdA 7 rfl fun K C=>?_;go_simp;refine (KW.o _ ad.o).mono ?_;rintro e W4 ⟨⟨o1,o2,o3,o4,o5,o6,rfl,ah⟩,V⟩;have ab:=Aa (Ac ad.o V);have B:=Aa (ge.o.over V);have aw:=Aa ah;clear ah V;go_simp;refine xK C (P.o _ ab.o) fun i=>?_;clear C K;have d0:=B.o.c0;have d1:=B.o.c1;have z0:=B.o.z0;have z1:=B.o.z1;obtain ⟨W9,t⟩:=nm (BC W4 bq (O o1 o2 o3) (O o4 o5 o6));have H:Hx (Ov V1 W9):=by rw [t];exact B7 ab.o Z.o _ _
   have av:Hx (Ad [O o1 o2 o3,O o4 o5 o6] W9 bq):=by rw [t];exact B.o.fill _ _
   have bt:Hx (Aw x.c.n (XW x) W9 (zh #[O o1 o2 o3,O o4 o5 o6]) Q):=by rw [t];exact Dm aw.o B.o (by have:=gx.o;have:=Z.o;omega) _ _
   have cv:Hx (W9.frozen? ⟨bq,0,none⟩=false/\W9.frozen? ⟨bq,1,none⟩=false):=by rw [t];unfold BC;exact ⟨by simp [go_sem,z0],by simp [go_sem,z1]⟩
   unfold BC at t;refine rdA 9 rfl fun K C=>?_;go_simp;rw [<-t];clear t;refine xK C (P.o _ H.o) fun i=>?_;clear C K;refine gE ?_;exact Ba ⟨bq,_,_,_,_,_,_,_,_,o1,o2,o3,o4,o5,o6,rfl,H.o,av.o,cv.o,bt.o,Z.o,bL (av.o 0 _ rfl)⟩
 rintro cz V2 ⟨bz,x11,x12,x13,x14,x15,x16,x17,x18,o1,o2,o3,o4,o5,o6,rfl,cr,g8,g6,ho,hc,g9⟩;have T:=Aa cr;have ak:=Aa (e9.o.over cr);have fe:=Aa (gy.o.trans (FrW.of_below (Bx x) cr));have au:=Aa (gk.o.over cr);have bp:=Aa (gf.o.over cr);have d9:=Aa (jg.o.over (A5 x) cr);have a7:=Aa g8;have ez:=Aa g6;have e8:=Aa ho;have df:=Aa hc;have e7:=Aa g9;have h6:Hx (x.bw≠bz):=by unfold Hx;have:=gx.o;omega
 clear cr g8 g6 ho hc g9 P bu KW;have az:=ji.o;rcases ix with rfl | rfl | rfl | rfl | rfl | rfl
 ·
  obtain ⟨F,I⟩:∃ q:Nat,Ap d=(q:Int):=⟨(Ap d).toNat,by have:=HV.o (by omega);omega⟩;obtain rfl:vr=(F:Int):=by rw [e4.o,I]
  have u:F < vs.length:=by have:=HV.o (by omega);omega
  have d8:Hx (R=CC (Bc x K gs ls ms vs fs) s p (F:Int) Q):=by
   rw [HR.o];unfold doX;rw [if_neg (by omega),if_neg (by omega),if_neg (by omega),if_neg (by omega),if_neg (by omega),ff.o,I];exact Aa rfl
  have ar:=Aa (FK x w0 K kf gs ls ms vs fs E.o s pv V2 ak.o d7.o _ _ p Q d9.o e8.o F u);obtain ⟨u0,u1,u2,u3,u4,u5,u6,u7,u8⟩:=rc9 au.o;obtain ⟨u10,u11⟩:=rc2 bp.o;obtain ⟨u12,u13⟩:=rc2 a7.o;clear I u az;go_wp2_with fail;refine (ar.o).mono ?_;rintro e W6 ⟨rfl,an,ao⟩;have cu:=Aa an;have cx:=Aa (fe.o.trans ao);clear an ao;go_wp2_with fail;go_ret;exact ⟨by rw [d8.o];rfl,by rw [d8.o];exact cu.o,cx.o⟩
 ·
  have d8:Hx (R=Es (Bc x K gs ls ms vs fs) s p d):=by
   rw [HR.o];unfold doX;rw [if_pos (by omega)];exact Aa rfl
  have KC:=Aa (Pi x w0 K kf gs ls ms vs fs E.o s pv V2 ak.o d7.o k _ d _ p funcs jf.o jj.o gt.o d9.o (by omega));obtain ⟨u0,u1,u2,u3,u4,u5,u6,u7,u8⟩:=rc9 au.o;obtain ⟨u10,u11⟩:=rc2 bp.o;obtain ⟨u12,u13⟩:=rc2 a7.o;clear az;go_wp2_with fail;refine (KC.o).mono ?_;rintro e W6 ⟨rfl,an,ao⟩;have cu:=Aa an;have cx:=Aa (fe.o.trans ao);clear an ao;go_wp2_with fail;go_ret;exact ⟨by rw [d8.o];rfl,by rw [d8.o];exact cu.o,cx.o⟩
 ·
  obtain ⟨F,I⟩:∃ q:Nat,Ap d=(q:Int):=⟨(Ap d).toNat,by have:=HV.o (by omega);omega⟩;obtain rfl:vr=(F:Int):=by rw [e4.o,I]
  have u:F < vs.length:=by have:=HV.o (by omega);omega
  have f2:0<=Ae d/\Ae d < ls.length:=gt.o.2.2.2.1 (by omega);obtain ⟨jo,cn⟩:∃ q:Nat,Ae d=(q:Int):=⟨(Ae d).toNat,by omega⟩;obtain ⟨fu,ij,ii,fw,dq⟩:=E.o.ins;injection fw with y1 y2 y3;have ag:jo < ls.length:=by omega
  obtain ⟨L,oy,dp,cd⟩:=dq (by intro h;rw [h] at ag;simp at ag);obtain ⟨pr,pw,l0,l1,ck,cj⟩:=cd jo ag;obtain ⟨bj,bf,bh,rfl⟩:=Az ck;obtain ⟨bi,be,bg,rfl⟩:=Az cj;have ce:x.c.ya=some ⟨L,oy,none⟩:=y1.trans dp;have ft:x.c.yn=ls.length:=y2;have dw:=E.o.ichk ls[jo] (List.getElem_mem ag);have f3:=E.o.i5;have i6:(jo:Int) < (x.c.yn:Int):=by omega
  have i4:x.c.yn<=5:=by omega
  have cp:x.c.v=(zh #[zd U (x.c.n:Int),O x.c.ga x.c.gn x.c.gc,O x.c.sa x.c.sn x.c.sc,O (some ⟨L,oy,none⟩) x.c.yn x.c.yc,O x.c.oa x.c.on x.c.oc,O x.c.va x.c.vn x.c.vc,O x.c.fa x.c.fn x.c.fc,O x.c.ba x.c.bn x.c.bc,O x.c.la x.c.ln x.c.lc,O x.c.ka x.c.kn x.c.kc]):=by show Value.agg #[zd U (x.c.n:Int),O x.c.ga x.c.gn x.c.gc,O x.c.sa x.c.sn x.c.sc,O x.c.ya x.c.yn x.c.yc,O x.c.oa x.c.on x.c.oc,O x.c.va x.c.vn x.c.vc,O x.c.fa x.c.fn x.c.fc,O x.c.ba x.c.bn x.c.bc,O x.c.la x.c.ln x.c.lc,O x.c.ka x.c.kn x.c.kc]=_;rw [ce]
  obtain ⟨G,ae⟩:=nm (Ar (Ax gs) x.c.n ls[jo]);have bb:G.len x.c.n:=by rw [ae];exact Dl _ _ _
  have KL:Hx (∀ (l:World),Ov V2 l->Calls Tryz.prog 114 #[(zh #[zd U (x.c.n:Int),O x.c.ga x.c.gn x.c.gc,O x.c.sa x.c.sn x.c.sc,O (some ⟨L,oy,none⟩) x.c.yn x.c.yc,O x.c.oa x.c.on x.c.oc,O x.c.va x.c.vn x.c.vc,O x.c.fa x.c.fn x.c.fc,O x.c.ba x.c.bn x.c.bc,O x.c.la x.c.ln x.c.lc,O x.c.ka x.c.kn x.c.kc]),zh #[O bj bf bh,O bi be bg]] l fun e w'=>(∃ a1 a2 a3 a4 a5 a6,e=zj (zh #[O a1 a2 a3,O a4 a5 a6])/\Aw x.c.n (XW x) w' (zh #[O a1 a2 a3,O a4 a5 a6]) G)/\Ov l w'):=fun l g=>by
   have J:=ak.o.over g;have:=Hh x.c gs (O bj bf bh) (O bi be bg) ls[jo] l (Af E.o.gr J.below) (Ak ck J.below) (Ak cj J.below) dw;rw [cp,<-ae] at this;refine this.mono fun e w' hh=>?_;obtain ⟨vj,rfl,hf,hb⟩:=hh;obtain ⟨a1,a2,a3,a4,a5,a6,rfl,hl⟩:=L7 J hb hf bb;exact ⟨⟨a1,a2,a3,a4,a5,a6,rfl,hl⟩,hb⟩
  obtain rfl:ot=(jo:Int):=by rw [h5.o,cn]
  obtain ⟨fb,co⟩:=nm (Av p G x.c.n);have e6:Hx ((fb=true->R=CC (Bc x K gs ls ms vs fs) s p (F:Int) (BA G p x.c.n))/\(fb=false->R=(false,s))):=by
   have e2:(Bc x K gs ls ms vs fs).ins.getD (Ae d).toNat Ah=G:=by
    rw [ae,cn];unfold Bc;simp [List.getD_eq_getElem?_getD,ag]
   have e3:R=if fb=true then CC (Bc x K gs ls ms vs fs) s p (F:Int) (BA G p x.c.n) else (false,s):=by
    rw [HR.o];unfold doX;rw [if_neg (by omega),if_pos (by omega),e2,I,co];rfl
   exact ⟨fun ht=>by rw [e3,if_pos ht],fun ht=>by rw [e3,ht];rfl⟩
  have P:Hx (∀ l,Ov V2 l->Q6 x L oy W jo bj bf bh bi be bg l):=fun l g=>by
   have J:=ak.o.over g;exact ⟨J.cw (j:=0) rfl,J.cw (j:=1) rfl,J.cw (j:=2) rfl,by rw [<-ce];exact J.cw (j:=3) rfl,J.cw (j:=4) rfl,J.cw (j:=5) rfl,J.cw (j:=6) rfl,J.cw (j:=7) rfl,J.cw (j:=8) rfl,J.cw (j:=9) rfl,(au.o.over g) 2 _ rfl,Ab J.below _ _ l0,Ab J.below _ _ l1⟩
  have hx:=Aa ce;have h9:=Aa u;have bu:Hx (Ov V2 V2.drew):=(bD _);have fp:Hx (x.bw < V2.heap.size):=ak.o.lo.2;have ic:=Aa cp;have jk:=Aa co;have jp:=Aa bb;obtain ⟨u0,u1,u2,u3,u4,u5,u6,u7,u8⟩:=rc9 au.o;obtain ⟨u10,u11⟩:=rc2 bp.o;obtain ⟨u12,u13⟩:=rc2 a7.o;clear az ce ft l0 l1 I u f2 co ae bb cp cn fu dq y1 y2 y3 ag dp cd ck cj dw f3;go_wp2_with fail;refine Cw (fun cz Wn=>∃ (bq:Nat) (x29 x30 x31 x32 x33 x34 x35 x36 x37 x38 x39 x40 x41 x42 x43:Value) (o1:Option Addr) (o2 o3:Nat) (o4:Option Addr) (o5 o6:Nat),cz={ tmps:=#[zi (some ⟨x.bw,0,none⟩),zh #[zd U 3,zd U (F:Int),zd U (jo:Int),zd U ek,zd U en,O xa xl xc,O aa al ac,O ta tl tc,O ea el ec],zd U a,zh #[O p1 q1 r1,O p2 q2 r2],undef,zi (some ⟨W.heap.size,0,none⟩),undef,zi (some ⟨W.heap.size+1,0,none⟩),zg false,zi (some ⟨bz,0,none⟩),zi (some ⟨bq,0,none⟩),x11,x12,x13,x14,x15,x16,x17,x18,zi (some ⟨W.heap.size,0,none⟩),zd U 3,zg false,zg false,undef,undef,undef,undef,zg true,zg true,x29,x30,x31,x32,x33,x34,x35,x36,x37,x38,x39,x40,x41,x42,x43,undef,undef,undef,undef,undef,undef,undef,undef,undef,undef,undef,undef,undef,undef,undef,undef,undef,undef,undef,undef,undef,undef,undef,undef,undef,undef,undef,undef,undef,undef,undef,undef,undef,undef,undef,undef,undef,undef,undef,undef,undef,undef,undef,undef,undef,undef,undef,undef,undef,undef,undef,undef,undef,undef,undef,undef,undef,undef,undef,undef,undef,undef,undef,undef,undef,undef,undef,undef,undef,undef,undef,undef,undef,undef,undef,undef,undef,undef,undef,undef,undef,undef,undef,undef,undef,undef,undef,undef,undef,undef],defers:=[] }/\Ov V2 Wn/\Ad [O o1 o2 o3,O o4 o5 o6] Wn bq/\(Wn.frozen? ⟨bq,0,none⟩=false/\Wn.frozen? ⟨bq,1,none⟩=false)/\Aw x.c.n (XW x) Wn (zh #[O o1 o2 o3,O o4 o5 o6]) G/\V2.heap.size<=bq/\bq < Wn.heap.size) ?_ ?_
  ·refine gS (Q6 x L oy W jo bj bf bh bi be bg) (P.o _ bu.o) fun i=>?_
   refine kT 0 ?_;refine kT 1 ?_;refine kT 2 ?_;refine kT 3 ?_;refine kT 4 ?_;refine kT 5 ?_;refine kT 6 ?_;refine kT 7 ?_;refine kT 8 ?_;refine kT 9 ?_;refine kT 10 ?_;refine kT 11 ?_;refine kT 12 ?_;refine kT 13 ?_;refine rdB 14 15 rfl (fun K C=>?_) rfl fun K C=>?_
   ·go_simp
    refine (KL.o _ bu.o).mono ?_;rintro e l ⟨⟨o1,o2,o3,o4,o5,o6,rfl,am⟩,g⟩;have ad:=Aa (Ac bu.o g);have gw:=Aa am;clear am g;go_simp;refine xK C (P.o _ ad.o) fun i=>?_;clear C K;refine rdA 15 rfl fun K C=>?_;obtain ⟨W4,N⟩:=nm (l.alloc (ze #[O none 0 0,O none 0 0] 50));have V:Ov l W4:=by rw [N];exact bA _ _
    obtain ⟨bq,bk⟩:∃ b:Nat,b=l.heap.size:=⟨_,rfl⟩;have B:Hx (ZB bq W4):=by rw [bk,N];exact DJ _ _
    have Z:Hx (V2.heap.size<=bq):=by rw [bk];exact ad.o.size
    have ab:=Aa (Ac ad.o V);have aw:=Aa (gw.o.over (A5 x) V);go_simp;rw [<-N,<-bk];clear V N bk;refine xK C (P.o _ ab.o) fun i=>?_;clear C K;have d0:=B.o.c0;have d1:=B.o.c1;have z0:=B.o.z0;have z1:=B.o.z1;obtain ⟨W9,t⟩:=nm (BC W4 bq (O o1 o2 o3) (O o4 o5 o6));have H:Hx (Ov V2 W9):=by rw [t];exact B7 ab.o Z.o _ _
    have av:Hx (Ad [O o1 o2 o3,O o4 o5 o6] W9 bq):=by rw [t];exact B.o.fill _ _
    have bt:Hx (Aw x.c.n (XW x) W9 (zh #[O o1 o2 o3,O o4 o5 o6]) G):=by rw [t];exact Dm aw.o B.o (by have:=fp.o;have:=Z.o;omega) _ _
    have cv:Hx (W9.frozen? ⟨bq,0,none⟩=false/\W9.frozen? ⟨bq,1,none⟩=false):=by rw [t];unfold BC;exact ⟨by simp [go_sem,z0],by simp [go_sem,z1]⟩
    unfold BC at t;refine rdA 16 rfl fun K C=>?_;go_simp;rw [<-t];clear t;refine xK C (P.o _ H.o) fun i=>?_;clear C K;refine gE ?_;exact Ba ⟨bq,_,_,_,_,_,_,_,_,_,_,_,_,_,_,_,o1,o2,o3,o4,o5,o6,rfl,H.o,av.o,cv.o,bt.o,Z.o,bL (av.o 0 _ rfl)⟩
   ·obtain ⟨l,bo⟩:=nm ((V2.alloc (ze #[O none 0 0,O none 0 0] 50)).drew)
    have g:Ov V2 l:=by rw [bo];exact (bA _ _).drew
    obtain ⟨bq,bl⟩:∃ b:Nat,b=V2.heap.size:=⟨_,rfl⟩;have dn:ZB bq l:=by rw [bl,bo];exact Jc (DJ _ _)
    have Z:Hx (V2.heap.size<=bq):=by rw [bl];exact Nat.le_refl _
    have ad:=Aa g;have ge:=Aa dn;go_simp;rw [<-bo,<-bl];clear g bo bl dn;refine xK C (P.o _ ad.o) fun i=>?_;clear C K;refine rdA 14 rfl fun K C=>?_;go_simp;refine (KL.o _ ad.o).mono ?_;rintro e W4 ⟨⟨o1,o2,o3,o4,o5,o6,rfl,ah⟩,V⟩;have ab:=Aa (Ac ad.o V);have B:=Aa (ge.o.over V);have aw:=Aa ah;clear ah V;go_simp;refine xK C (P.o _ ab.o) fun i=>?_;clear C K;have d0:=B.o.c0;have d1:=B.o.c1;have z0:=B.o.z0;have z1:=B.o.z1;obtain ⟨W9,t⟩:=nm (BC W4 bq (O o1 o2 o3) (O o4 o5 o6));have H:Hx (Ov V2 W9):=by rw [t];exact B7 ab.o Z.o _ _
    have av:Hx (Ad [O o1 o2 o3,O o4 o5 o6] W9 bq):=by rw [t];exact B.o.fill _ _
    have bt:Hx (Aw x.c.n (XW x) W9 (zh #[O o1 o2 o3,O o4 o5 o6]) G):=by rw [t];exact Dm aw.o B.o (by have:=fp.o;have:=Z.o;omega) _ _
    have cv:Hx (W9.frozen? ⟨bq,0,none⟩=false/\W9.frozen? ⟨bq,1,none⟩=false):=by rw [t];unfold BC;exact ⟨by simp [go_sem,z0],by simp [go_sem,z1]⟩
    unfold BC at t;refine rdA 16 rfl fun K C=>?_;go_simp;rw [<-t];clear t;refine xK C (P.o _ H.o) fun i=>?_;clear C K;refine gE ?_;exact Ba ⟨bq,_,_,_,_,_,_,_,_,_,_,_,_,_,_,_,o1,o2,o3,o4,o5,o6,rfl,H.o,av.o,cv.o,bt.o,Z.o,bL (av.o 0 _ rfl)⟩
  rintro jn W7 ⟨bc,x29,x30,x31,x32,x33,x34,x35,x36,x37,x38,x39,x40,x41,x42,x43,c1,c2,c3,c4,c5,c6,rfl,a0,c8,-,hr,f4,iz⟩;have ee:=Aa (ak.o.over a0);have ia:=Aa (fe.o.trans (FrW.of_below (Bx x) a0));have hz:=Aa (au.o.over a0);have e0:=Aa (bp.o.over a0);have gq:=Aa (d9.o.over (A5 x) a0);have j8:=Aa c8;have h7:=Aa hr;have h0:Hx (∀ W8,WtI x w0 (CC (Bc x K gs ls ms vs fs) s p (F:Int) (BA G p x.c.n)).2 pv W8->FrW (XV x) W7 W8->MF x L oy W F p1 q1 r1 p2 q2 r2 bc c1 c2 c3 c4 c5 c6 W8):=fun W8 h8 dx=>by
   have hd:∀ q,V1.heap.size<=q->¬ XV x W7 q:=fun q hq e=>by have:=(e9.o.vlt _ ((Bx x).below _ _ (Ac T.o a0) _ e)).2;omega
   exact ⟨h8.cw (j:=0) rfl,h8.cw (j:=1) rfl,h8.cw (j:=2) rfl,by rw [<-hx.o];exact h8.cw (j:=3) rfl,h8.cw (j:=4) rfl,h8.cw (j:=5) rfl,h8.cw (j:=6) rfl,h8.cw (j:=7) rfl,h8.cw (j:=8) rfl,h8.cw (j:=9) rfl,dx.row hz.o (gu.o _ (Nat.le_refl _) ∘ (Bx x).below _ _ (Ac T.o a0) _) 1 _ rfl,dx.row e0.o (gu.o _ (by omega) ∘ (Bx x).below _ _ (Ac T.o a0) _) 0 _ rfl,dx.row e0.o (gu.o _ (by omega) ∘ (Bx x).below _ _ (Ac T.o a0) _) 1 _ rfl,dx.row c8 (hd _ (Nat.le_trans T.o.size f4)) 0 _ rfl,dx.row c8 (hd _ (Nat.le_trans T.o.size f4)) 1 _ rfl⟩
  have br:Hx (∀ W8,Ov W7 W8->MF x L oy W F p1 q1 r1 p2 q2 r2 bc c1 c2 c3 c4 c5 c6 W8):=fun W8 A=>by
   have h8:=ee.o.over A;exact ⟨h8.cw (j:=0) rfl,h8.cw (j:=1) rfl,h8.cw (j:=2) rfl,by rw [<-hx.o];exact h8.cw (j:=3) rfl,h8.cw (j:=4) rfl,h8.cw (j:=5) rfl,h8.cw (j:=6) rfl,h8.cw (j:=7) rfl,h8.cw (j:=8) rfl,h8.cw (j:=9) rfl,(hz.o.over A) 1 _ rfl,(e0.o.over A) 0 _ rfl,(e0.o.over A) 1 _ rfl,(c8.over A) 0 _ rfl,(c8.over A) 1 _ rfl⟩
  have KF:Hx (∀ (W8:World),Ov W7 W8->Calls Tryz.prog 57 #[(zh #[zd U (x.c.n:Int),O x.c.ga x.c.gn x.c.gc,O x.c.sa x.c.sn x.c.sc,O (some ⟨L,oy,none⟩) x.c.yn x.c.yc,O x.c.oa x.c.on x.c.oc,O x.c.va x.c.vn x.c.vc,O x.c.fa x.c.fn x.c.fc,O x.c.ba x.c.bn x.c.bc,O x.c.la x.c.ln x.c.lc,O x.c.ka x.c.kn x.c.kc]),zh #[O p1 q1 r1,O p2 q2 r2],zh #[O c1 c2 c3,O c4 c5 c6]] W8 fun e w'=>e=zj (zg fb)/\Ov W8 w'):=fun W8 A=>by
   have h8:=ee.o.over A;have ha:=gq.o.over (A5 x) A;have hb:=h7.o.over (A5 x) A;have:=DY x.c gs _ _ _ _ W8 (Af E.o.gr h8.below) E.o.chk ha.at_ ha.len hb.at_ hb.len;rw [ic.o,<-jk.o] at this;exact this
  have KJ:Hx (∀ (W8:World),Ov W7 W8->Calls Tryz.prog 58 #[(zh #[zd U (x.c.n:Int),O x.c.ga x.c.gn x.c.gc,O x.c.sa x.c.sn x.c.sc,O (some ⟨L,oy,none⟩) x.c.yn x.c.yc,O x.c.oa x.c.on x.c.oc,O x.c.va x.c.vn x.c.vc,O x.c.fa x.c.fn x.c.fc,O x.c.ba x.c.bn x.c.bc,O x.c.la x.c.ln x.c.lc,O x.c.ka x.c.kn x.c.kc]),zh #[O c1 c2 c3,O c4 c5 c6],zh #[O p1 q1 r1,O p2 q2 r2]] W8 fun e w'=>(∃ a1 a2 a3 a4 a5 a6,e=zj (zh #[O a1 a2 a3,O a4 a5 a6])/\Aw x.c.n (XW x) w' (zh #[O a1 a2 a3,O a4 a5 a6]) (BA G p x.c.n))/\Ov W8 w'):=fun W8 A=>by
   have h8:=ee.o.over A;have ha:=gq.o.over (A5 x) A;have hb:=h7.o.over (A5 x) A;have:=RC x.c gs _ _ _ _ W8 (Af E.o.gr h8.below) E.o.chk hb.at_ hb.len ha.at_ ha.len;rw [ic.o] at this;refine this.mono fun e w' hh=>?_;obtain ⟨vj,rfl,hf,hm⟩:=hh;obtain ⟨a1,a2,a3,a4,a5,a6,rfl,hl⟩:=L7 h8 hm hf (NG _ _ _);exact ⟨⟨a1,a2,a3,a4,a5,a6,rfl,hl⟩,hm⟩
  have ar:Hx (∀ (W8:World) {y:Value},Ov W7 W8->Aw x.c.n (XW x) W8 y (BA G p x.c.n)->Calls Tryz.prog 121 #[zi (some ⟨x.bw,0,none⟩),zh #[O p1 q1 r1,O p2 q2 r2],zd U (F:Int),y] W8 fun e W'=>e=zj (zg (CC (Bc x K gs ls ms vs fs) s p (F:Int) (BA G p x.c.n)).1)/\WtI x w0 (CC (Bc x K gs ls ms vs fs) s p (F:Int) (BA G p x.c.n)).2 pv W'/\FrW (XV x) W8 W'):=fun W8 y A hy=>FK x w0 K kf gs ls ms vs fs E.o s pv W8 (ee.o.over A) d7.o _ _ p _ (gq.o.over (A5 x) A) hy F h9.o;have a8:Hx (Ov W7 W7.drew):=(bD _);clear a0 c8 hr f4 iz u0 u1 u2 u3 u4 u5 u6 u7 u8 u10 u11 u12 u13 P bu
  cases fb with
  | false=>
   go_wp2_with fail;refine gS (MF x L oy W F p1 q1 r1 p2 q2 r2 bc c1 c2 c3 c4 c5 c6) (br.o _ a8.o) fun i=>?_;refine kT 0 ?_;refine kT 1 ?_;refine kT 2 ?_;refine kT 3 ?_;refine kT 4 ?_;refine kT 5 ?_;refine rdA 6 rfl fun K C=>?_;go_simp;refine (KF.o _ a8.o).mono ?_;rintro e W8 ⟨rfl,A⟩;have ax:=Aa (Ac a8.o A);clear A;go_simp;refine xK C (br.o _ ax.o) fun i=>?_;clear C K;refine kT 7 ?_;refine kU 8 ?_;refine kU 9 ?_;refine kU 10 ?_;refine kU 11 ?_;refine kU 12 ?_;refine kU 13 ?_;refine kU 14 ?_;refine kU 15 ?_;refine kU 16 ?_;refine kU 17 ?_;refine kU 18 ?_;refine kU 19 ?_;refine kT 20 ?_;refine kT 21 ?_;refine gE ?_;go_wp2_with fail;go_ret;exact ⟨by rw [e6.o.2 (by first | rfl | trivial)];first | rfl | simp,by rw [e6.o.2 (by first | rfl | trivial)];exact ee.o.over ax.o,ia.o.trans (FrW.of_below (Bx x) ax.o)⟩
  | true=>
   go_wp2_with fail;refine gS (MF x L oy W F p1 q1 r1 p2 q2 r2 bc c1 c2 c3 c4 c5 c6) (br.o _ a8.o) fun i=>?_;refine kT 0 ?_;refine kT 1 ?_;refine kT 2 ?_;refine kT 3 ?_;refine kT 4 ?_;refine kT 5 ?_;refine rdA 6 rfl fun K C=>?_;go_simp;refine (KF.o _ a8.o).mono ?_;rintro e W8 ⟨rfl,A⟩;have ax:=Aa (Ac a8.o A);clear A;go_simp;refine xK C (br.o _ ax.o) fun i=>?_;clear C K;refine kT 7 ?_;refine kT 8 ?_;refine kT 9 ?_;refine kT 10 ?_;refine kT 11 ?_;refine kT 12 ?_;refine kT 13 ?_;refine kT 14 ?_;refine kT 15 ?_;refine kT 16 ?_;refine kT 17 ?_;refine rdA 18 rfl fun K C=>?_;go_simp;refine (KJ.o _ ax.o).mono ?_;rintro e W9 ⟨⟨j1,j2,j3,j4,j5,j6,rfl,hs⟩,dy⟩;have H:=Aa (Ac ax.o dy);have bt:=Aa hs;clear hs dy;go_simp;refine xK C (br.o _ H.o) fun i=>?_;clear C K;refine rdA 19 rfl fun K C=>?_;go_simp;refine (ar.o _ H.o bt.o).mono ?_;rintro e jc ⟨rfl,fi,d5⟩;have fq:=Aa fi;have ib:=Aa d5;have h4:=Aa (h0.o jc fq.o (FrW.trans (FrW.of_below (Bx x) H.o) d5));clear fi d5;go_simp;refine xK C (h4.o) fun i=>?_;clear C K;refine kT 20 ?_;refine kT 21 ?_;refine gE ?_;go_wp2_with fail;go_ret;exact ⟨by rw [e6.o.1 (by first | rfl | trivial)];first | rfl | simp,by rw [e6.o.1 (by first | rfl | trivial)];exact fq.o,(ia.o.trans (FrW.of_below (Bx x) H.o)).trans ib.o⟩
 ·
  have f2:0<=Ae d/\Ae d < ms.length:=gt.o.2.2.2.2.2.2 (by omega);obtain ⟨jo,cn⟩:∃ q:Nat,Ae d=(q:Int):=⟨(Ae d).toNat,by omega⟩;obtain ⟨fu,ij,ii,fw,dq⟩:=E.o.outs;injection fw with y1 y2 y3;have ag:jo < ms.length:=by omega
  obtain ⟨L,oy,dp,cd⟩:=dq (by intro h;rw [h] at ag;simp at ag);obtain ⟨pr,pw,l0,l1,ck,cj⟩:=cd jo ag;obtain ⟨bj,bf,bh,rfl⟩:=Az ck;obtain ⟨bi,be,bg,rfl⟩:=Az cj;have ce:x.c.oa=some ⟨L,oy,none⟩:=y1.trans dp;have ft:x.c.on=ms.length:=y2;have dw:=E.o.ochk ms[jo] (List.getElem_mem ag);have f3:=E.o.o5;have i6:(jo:Int) < (x.c.on:Int):=by omega
  have i4:x.c.on<=5:=by omega
  have cp:x.c.v=(zh #[zd U (x.c.n:Int),O x.c.ga x.c.gn x.c.gc,O x.c.sa x.c.sn x.c.sc,O x.c.ya x.c.yn x.c.yc,O (some ⟨L,oy,none⟩) x.c.on x.c.oc,O x.c.va x.c.vn x.c.vc,O x.c.fa x.c.fn x.c.fc,O x.c.ba x.c.bn x.c.bc,O x.c.la x.c.ln x.c.lc,O x.c.ka x.c.kn x.c.kc]):=by show Value.agg #[zd U (x.c.n:Int),O x.c.ga x.c.gn x.c.gc,O x.c.sa x.c.sn x.c.sc,O x.c.ya x.c.yn x.c.yc,O x.c.oa x.c.on x.c.oc,O x.c.va x.c.vn x.c.vc,O x.c.fa x.c.fn x.c.fc,O x.c.ba x.c.bn x.c.bc,O x.c.la x.c.ln x.c.lc,O x.c.ka x.c.kn x.c.kc]=_;rw [ce]
  obtain ⟨G,ae⟩:=nm (Ar (Ax gs) x.c.n ms[jo]);have bb:G.len x.c.n:=by rw [ae];exact Dl _ _ _
  have KL:Hx (∀ (l:World),Ov V2 l->Calls Tryz.prog 114 #[(zh #[zd U (x.c.n:Int),O x.c.ga x.c.gn x.c.gc,O x.c.sa x.c.sn x.c.sc,O x.c.ya x.c.yn x.c.yc,O (some ⟨L,oy,none⟩) x.c.on x.c.oc,O x.c.va x.c.vn x.c.vc,O x.c.fa x.c.fn x.c.fc,O x.c.ba x.c.bn x.c.bc,O x.c.la x.c.ln x.c.lc,O x.c.ka x.c.kn x.c.kc]),zh #[O bj bf bh,O bi be bg]] l fun e w'=>(∃ a1 a2 a3 a4 a5 a6,e=zj (zh #[O a1 a2 a3,O a4 a5 a6])/\Aw x.c.n (XW x) w' (zh #[O a1 a2 a3,O a4 a5 a6]) G)/\Ov l w'):=fun l g=>by
   have J:=ak.o.over g;have:=Hh x.c gs (O bj bf bh) (O bi be bg) ms[jo] l (Af E.o.gr J.below) (Ak ck J.below) (Ak cj J.below) dw;rw [cp,<-ae] at this;refine this.mono fun e w' hh=>?_;obtain ⟨vj,rfl,hf,hb⟩:=hh;obtain ⟨a1,a2,a3,a4,a5,a6,rfl,hl⟩:=L7 J hb hf bb;exact ⟨⟨a1,a2,a3,a4,a5,a6,rfl,hl⟩,hb⟩
  obtain rfl:ot=(jo:Int):=by rw [h5.o,cn]
  obtain ⟨fb,co⟩:=nm (Av Q G x.c.n);have de:Hx (R=(fb,s)):=by
   have e2:(Bc x K gs ls ms vs fs).outs.getD (Ae d).toNat Ah=G:=by
    rw [ae,cn];unfold Bc;simp [List.getD_eq_getElem?_getD,ag]
   rw [HR.o];unfold doX;rw [if_neg (by omega),if_neg (by omega),if_pos (by omega),e2,ff.o,co];exact Aa rfl
  have KF:Hx (∀ (W8:World) {y:Value},Ov V2 W8->Aw x.c.n (XW x) W8 y G->Calls Tryz.prog 57 #[(zh #[zd U (x.c.n:Int),O x.c.ga x.c.gn x.c.gc,O x.c.sa x.c.sn x.c.sc,O x.c.ya x.c.yn x.c.yc,O (some ⟨L,oy,none⟩) x.c.on x.c.oc,O x.c.va x.c.vn x.c.vc,O x.c.fa x.c.fn x.c.fc,O x.c.ba x.c.bn x.c.bc,O x.c.la x.c.ln x.c.lc,O x.c.ka x.c.kn x.c.kc]),zh #[O o1 o2 o3,O o4 o5 o6],y] W8 fun e w'=>e=zj (zg fb)/\Ov W8 w'):=fun W8 y A hy=>by
   have h8:=ak.o.over A;have ha:=e8.o.over (A5 x) A;have:=DY x.c gs _ y _ _ W8 (Af E.o.gr h8.below) E.o.chk ha.at_ ha.len hy.at_ hy.len;rw [cp,<-co] at this;exact this
  have br:Hx (∀ l,Ov V2 l->Q5 x L oy W jo bz o1 o2 o3 o4 o5 o6 bj bf bh bi be bg l):=fun l g=>by
   have J:=ak.o.over g;exact ⟨J.cw (j:=0) rfl,J.cw (j:=1) rfl,J.cw (j:=2) rfl,J.cw (j:=3) rfl,by rw [<-ce];exact J.cw (j:=4) rfl,J.cw (j:=5) rfl,J.cw (j:=6) rfl,J.cw (j:=7) rfl,J.cw (j:=8) rfl,J.cw (j:=9) rfl,(au.o.over g) 2 _ rfl,(a7.o.over g) 0 _ rfl,(a7.o.over g) 1 _ rfl,Ab J.below _ _ l0,Ab J.below _ _ l1⟩
  have a8:Hx (Ov V2 V2.drew):=(bD _);obtain ⟨u0,u1,u2,u3,u4,u5,u6,u7,u8⟩:=rc9 au.o;obtain ⟨u10,u11⟩:=rc2 bp.o;obtain ⟨u12,u13⟩:=rc2 a7.o;clear az ce ft l0 l1 f2 co ae bb cp cn fu dq y1 y2 y3 ag dp cd ck cj dw f3;go_wp2_with fail;refine gS (Q5 x L oy W jo bz o1 o2 o3 o4 o5 o6 bj bf bh bi be bg) (br.o _ a8.o) fun i=>?_;refine kT 0 ?_;refine kT 1 ?_;refine kT 2 ?_;refine kT 3 ?_;refine kT 4 ?_;refine kT 5 ?_;refine kT 6 ?_;refine kT 7 ?_;refine kT 8 ?_;refine kT 9 ?_;refine kT 10 ?_;refine kT 11 ?_;refine kT 12 ?_;refine kT 13 ?_;refine kT 14 ?_;refine kT 15 ?_;refine kT 16 ?_;refine kT 17 ?_;refine kT 18 ?_;refine rdA 19 rfl fun K C=>?_;go_simp;refine (KL.o _ a8.o).mono ?_;rintro e W8 ⟨⟨c1,c2,c3,c4,c5,c6,rfl,hu⟩,A⟩;have ax:=Aa (Ac a8.o A);have jh:=Aa hu;clear hu A;go_simp;refine xK C (br.o _ ax.o) fun i=>?_;clear C K;refine rdA 20 rfl fun K C=>?_;go_simp;refine (KF.o _ ax.o jh.o).mono ?_;rintro e W9 ⟨rfl,dy⟩;have H:=Aa (Ac ax.o dy);clear dy;go_simp;refine xK C (br.o _ H.o) fun i=>?_;clear C K;refine kT 21 ?_;refine gE ?_;go_wp2_with fail;go_ret;exact ⟨by rw [de.o];rfl,by rw [de.o];exact ak.o.over H.o,fe.o.trans (FrW.of_below (Bx x) H.o)⟩
 ·
  obtain ⟨F,I⟩:∃ q:Nat,Ap d=(q:Int):=⟨(Ap d).toNat,by have:=HV.o (by omega);omega⟩;obtain rfl:vr=(F:Int):=by rw [e4.o,I]
  obtain ⟨u0,u1,u2,u3,u4,u5,u6,u7,u8⟩:=rc9 au.o;obtain ⟨u10,u11⟩:=rc2 bp.o;obtain ⟨u12,u13⟩:=rc2 a7.o;have u:F < vs.length:=by have:=HV.o (by omega);omega
  have d6:Hx (∀ (l:World),Ov V2 l->Calls Tryz.prog 188 #[zi (some ⟨x.bw,0,none⟩),zd U (F:Int)] l fun e W'=>∃ a1 a2 a3 a4 a5 a6,e=zj (zh #[O a1 a2 a3,O a4 a5 a6])/\Aw x.c.n (XW x) W' (zh #[O a1 a2 a3,O a4 a5 a6]) (Ar (Ax gs) x.c.n vs[F].2)/\Ov l W'):=fun l g=>Ms x w0 K kf gs ls ms vs fs E.o s pv l (ak.o.over g) F u;obtain ⟨tb,ci⟩:=nm ((vs[F].1 && !x.fl.any (fun f=>decide (f.1=a) && (decide (f.2=6) || decide (f.2=7)))));have KT:Hx (∀ (l:World),WtI x w0 s pv l->Calls Tryz.prog 189 #[zi (some ⟨x.bw,0,none⟩),zh #[zd U 5,zd U (F:Int),zd U ot,zd U ek,zd U en,O xa xl xc,O aa al ac,O ta tl tc,O ea el ec],zd U a] l fun e W'=>e=zj (zg tb)/\Ov l W'):=fun l J=>by
   rw [ci];exact Ki x w0 K kf gs ls ms vs fs E.o s pv l J a 5 ot ek en xa xl xc aa al ac ta tl tc ea el ec F u
  obtain ⟨lb,cm⟩:=nm (Ar (Ax gs) x.c.n vs[F].2);have bs:Hx ((tb=true->R=CC (Bc x K gs ls ms vs fs) s p (F:Int) ⟨lb.r,Q.w⟩)/\(tb=false->R=(false,s))):=by
   have e1:E3 (Bc x K gs ls ms vs fs) a d=tb:=by
    rw [ci];unfold E3 Bc;rw [I];simp [List.getD_eq_getElem?_getD,u]
   have e2:(Bc x K gs ls ms vs fs).bound.getD (Ap d).toNat Ah=lb:=by
    rw [cm,I];unfold Bc;simp [List.getD_eq_getElem?_getD,u]
   have e3:R=if tb=true then CC (Bc x K gs ls ms vs fs) s p (F:Int) ⟨lb.r,Q.w⟩ else (false,s):=by
    rw [HR.o];unfold doX;rw [if_neg (by omega),if_neg (by omega),if_neg (by omega),if_pos (by omega),e1,e2,ff.o,I]
   exact ⟨fun ht=>by rw [e3,if_pos ht],fun ht=>by rw [e3,ht];rfl⟩
  rw [<-cm] at d6;have f0:=ez.o.1;have f1:=ez.o.2;have iy:=I3;clear ci cm I az;go_wp2_with fail;refine (d6.o _ (Below.refl _ _)).mono ?_;rintro e l ⟨b1,b2,b3,b4,b5,b6,rfl,am,g⟩;have rb:=(a7.o.over g);obtain ⟨k0,k1⟩:=rc2 rb;have f0:=((An g).2 _ 0 e7.o).trans f0;have f1:=((An g).2 _ 1 e7.o).trans f1;have dv:=am.mix (e8.o.over (A5 x) g);have cl:=h6.o;have ah:Aw x.c.n (XW x) (l.setCell ⟨bz,0,none⟩ (O b1 b2 b3)) (zh #[O b1 b2 b3,O o4 o5 o6]) ⟨lb.r,Q.w⟩:=CG dv k0 cl _;have cq:=CG (d9.o.over (A5 x) g) k0 cl (O b1 b2 b3);have ai:Ov V1 (l.setCell ⟨bz,0,none⟩ (O b1 b2 b3)):=(T.o.trans (g.mono T.o.size)).setCell (p:=⟨bz,0,none⟩) df.o _;have ch:Ad [O b1 b2 b3,O o4 o5 o6] (l.setCell ⟨bz,0,none⟩ (O b1 b2 b3)) bz:=by
   have r:=BK (j:=0) (v:=O b1 b2 b3) rb (by simp);simpa using r
  obtain ⟨W4,N⟩:=nm (l.setCell ⟨bz,0,none⟩ (O b1 b2 b3));rw [<-N] at ah cq ai ch;have ab:=Aa ai;have aw:=Aa ah;have gp:=Aa cq;have ed:=Aa (e9.o.over ai);have de:=Aa ch;have gj:=Aa (gk.o.over ai);have gh:=Aa (gf.o.over ai);have d4:=au.o.over g;have d3:=bp.o.over g;obtain ⟨m0,m1,m2,m3,m4,m5,m6,m7,m8⟩:=rc9 d4;obtain ⟨dl,dk⟩:=rc2 d3;have cg:W.heap.size≠bz:=by have:=df.o;have:=e5.o;omega
  have cf:W.heap.size+1≠bz:=by have:=df.o;have:=e5.o;omega
  have du:=Ne.symm cg;have dt:=Ne.symm cf;clear ah cq ai ch dv cl am g rb d4 d3;go_wp2_with fail;rw [<-N];clear N k0 k1 f0 f1;refine (KT.o _ ed.o).mono ?_;rintro e W5 ⟨rfl,M⟩;have eb:=Aa (ed.o.over M);have ef:=Aa (gy.o.trans (FrW.of_below (Bx x) (Ac ab.o M)));have gi:=Aa (gj.o.over M);have gg:=Aa (gh.o.over M);have gl:=Aa (de.o.over M);have gv:=Aa (aw.o.over (A5 x) M);have gm:=Aa (gp.o.over (A5 x) M);clear M m0 m1 m2 m3 m4 m5 m6 m7 m8 dl dk cg cf du dt
  cases tb with
  | false=>
   go_wp2_with fail;go_ret;exact ⟨by rw [bs.o.2 (by first | rfl | trivial)];first | rfl | simp,by rw [bs.o.2 (by first | rfl | trivial)];exact eb.o,ef.o⟩
  | true=>
   have m1:=gi.o 1 _ rfl;obtain ⟨dl,dk⟩:=rc2 gg.o;obtain ⟨iv,iu⟩:=rc2 gl.o;have ar:=Aa (FK x w0 K kf gs ls ms vs fs E.o s pv W5 eb.o d7.o _ _ p ⟨lb.r,Q.w⟩ gm.o gv.o F u);clear u;go_wp2_with fail;refine (ar.o).mono ?_;rintro e W6 ⟨rfl,an,ao⟩;have cu:=Aa an;have cx:=Aa (ef.o.trans ao);clear an ao;go_wp2_with fail;go_ret;exact ⟨by rw [bs.o.1 (by first | rfl | trivial)];first | rfl | simp,by rw [bs.o.1 (by first | rfl | trivial)];exact cu.o,cx.o⟩
 ·
  obtain ⟨F,I⟩:∃ q:Nat,Ap d=(q:Int):=⟨(Ap d).toNat,by have:=HV.o (by omega);omega⟩;obtain rfl:vr=(F:Int):=by rw [e4.o,I]
  obtain ⟨u0,u1,u2,u3,u4,u5,u6,u7,u8⟩:=rc9 au.o;obtain ⟨u10,u11⟩:=rc2 bp.o;obtain ⟨u12,u13⟩:=rc2 a7.o;have u:F < vs.length:=by have:=HV.o (by omega);omega
  have d6:Hx (∀ (l:World),Ov V2 l->Calls Tryz.prog 188 #[zi (some ⟨x.bw,0,none⟩),zd U (F:Int)] l fun e W'=>∃ a1 a2 a3 a4 a5 a6,e=zj (zh #[O a1 a2 a3,O a4 a5 a6])/\Aw x.c.n (XW x) W' (zh #[O a1 a2 a3,O a4 a5 a6]) (Ar (Ax gs) x.c.n vs[F].2)/\Ov l W'):=fun l g=>Ms x w0 K kf gs ls ms vs fs E.o s pv l (ak.o.over g) F u;obtain ⟨tb,ci⟩:=nm ((vs[F].1 && !x.fl.any (fun f=>decide (f.1=a) && (decide (f.2=6) || decide (f.2=7)))));have KT:Hx (∀ (l:World),WtI x w0 s pv l->Calls Tryz.prog 189 #[zi (some ⟨x.bw,0,none⟩),zh #[zd U 6,zd U (F:Int),zd U ot,zd U ek,zd U en,O xa xl xc,O aa al ac,O ta tl tc,O ea el ec],zd U a] l fun e W'=>e=zj (zg tb)/\Ov l W'):=fun l J=>by
   rw [ci];exact Ki x w0 K kf gs ls ms vs fs E.o s pv l J a 6 ot ek en xa xl xc aa al ac ta tl tc ea el ec F u
  obtain ⟨lb,cm⟩:=nm (Ar (Ax gs) x.c.n vs[F].2);have bs:Hx ((tb=true->R=CC (Bc x K gs ls ms vs fs) s p (F:Int) ⟨Q.r,lb.w⟩)/\(tb=false->R=(false,s))):=by
   have e1:E3 (Bc x K gs ls ms vs fs) a d=tb:=by
    rw [ci];unfold E3 Bc;rw [I];simp [List.getD_eq_getElem?_getD,u]
   have e2:(Bc x K gs ls ms vs fs).bound.getD (Ap d).toNat Ah=lb:=by
    rw [cm,I];unfold Bc;simp [List.getD_eq_getElem?_getD,u]
   have e3:R=if tb=true then CC (Bc x K gs ls ms vs fs) s p (F:Int) ⟨Q.r,lb.w⟩ else (false,s):=by
    rw [HR.o];unfold doX;rw [if_neg (by omega),if_neg (by omega),if_neg (by omega),if_neg (by omega),if_pos (by omega),e1,e2,ff.o,I]
   exact ⟨fun ht=>by rw [e3,if_pos ht],fun ht=>by rw [e3,ht];rfl⟩
  rw [<-cm] at d6;have f0:=ez.o.1;have f1:=ez.o.2;have iy:=I3;clear ci cm I az;go_wp2_with fail;refine (d6.o _ (Below.refl _ _)).mono ?_;rintro e l ⟨b1,b2,b3,b4,b5,b6,rfl,am,g⟩;have rb:=(a7.o.over g);obtain ⟨k0,k1⟩:=rc2 rb;have f0:=((An g).2 _ 0 e7.o).trans f0;have f1:=((An g).2 _ 1 e7.o).trans f1;have dv:=(e8.o.over (A5 x) g).mix am;have cl:=h6.o;have ah:Aw x.c.n (XW x) (l.setCell ⟨bz,1,none⟩ (O b4 b5 b6)) (zh #[O o1 o2 o3,O b4 b5 b6]) ⟨Q.r,lb.w⟩:=CG dv k1 cl _;have cq:=CG (d9.o.over (A5 x) g) k1 cl (O b4 b5 b6);have ai:Ov V1 (l.setCell ⟨bz,1,none⟩ (O b4 b5 b6)):=(T.o.trans (g.mono T.o.size)).setCell (p:=⟨bz,1,none⟩) df.o _;have ch:Ad [O o1 o2 o3,O b4 b5 b6] (l.setCell ⟨bz,1,none⟩ (O b4 b5 b6)) bz:=by
   have r:=BK (j:=1) (v:=O b4 b5 b6) rb (by simp);simpa using r
  obtain ⟨W4,N⟩:=nm (l.setCell ⟨bz,1,none⟩ (O b4 b5 b6));rw [<-N] at ah cq ai ch;have ab:=Aa ai;have aw:=Aa ah;have gp:=Aa cq;have ed:=Aa (e9.o.over ai);have de:=Aa ch;have gj:=Aa (gk.o.over ai);have gh:=Aa (gf.o.over ai);have d4:=au.o.over g;have d3:=bp.o.over g;obtain ⟨m0,m1,m2,m3,m4,m5,m6,m7,m8⟩:=rc9 d4;obtain ⟨dl,dk⟩:=rc2 d3;have cg:W.heap.size≠bz:=by have:=df.o;have:=e5.o;omega
  have cf:W.heap.size+1≠bz:=by have:=df.o;have:=e5.o;omega
  have du:=Ne.symm cg;have dt:=Ne.symm cf;clear ah cq ai ch dv cl am g rb d4 d3;go_wp2_with fail;rw [<-N];clear N k0 k1 f0 f1;refine (KT.o _ ed.o).mono ?_;rintro e W5 ⟨rfl,M⟩;have eb:=Aa (ed.o.over M);have ef:=Aa (gy.o.trans (FrW.of_below (Bx x) (Ac ab.o M)));have gi:=Aa (gj.o.over M);have gg:=Aa (gh.o.over M);have gl:=Aa (de.o.over M);have gv:=Aa (aw.o.over (A5 x) M);have gm:=Aa (gp.o.over (A5 x) M);clear M m0 m1 m2 m3 m4 m5 m6 m7 m8 dl dk cg cf du dt
  cases tb with
  | false=>
   go_wp2_with fail;go_ret;exact ⟨by rw [bs.o.2 (by first | rfl | trivial)];first | rfl | simp,by rw [bs.o.2 (by first | rfl | trivial)];exact eb.o,ef.o⟩
  | true=>
   have m1:=gi.o 1 _ rfl;obtain ⟨dl,dk⟩:=rc2 gg.o;obtain ⟨iv,iu⟩:=rc2 gl.o;have ar:=Aa (FK x w0 K kf gs ls ms vs fs E.o s pv W5 eb.o d7.o _ _ p ⟨Q.r,lb.w⟩ gm.o gv.o F u);clear u;go_wp2_with fail;refine (ar.o).mono ?_;rintro e W6 ⟨rfl,an,ao⟩;have cu:=Aa an;have cx:=Aa (ef.o.trans ao);clear an ao;go_wp2_with fail;go_ret;exact ⟨by rw [bs.o.1 (by first | rfl | trivial)];first | rfl | simp,by rw [bs.o.1 (by first | rfl | trivial)];exact cu.o,cx.o⟩
abbrev Q4 (x:WX) (g pl cap:Nat) (W:World) (dp:Nat) (kd vr ot ek en:Int) (xa:Option Addr) (xl xc:Nat) (aa:Option Addr) (al ac:Nat) (ta:Option Addr) (tl tc:Nat) (ea:Option Addr) (el ec:Nat) (p1:Option Addr) (q1 r1:Nat) (p2:Option Addr) (q2 r2:Nat) (Wz:World):Prop:=Wz.cell? ⟨x.bw,11,none⟩=some (O (some ⟨g,0,none⟩) pl cap)/\CE Wz W.heap.size 2 (zd U (dp:Int))/\CE Wz W.heap.size 3 (zd U kd)/\CE Wz W.heap.size 4 (zd U vr)/\CE Wz W.heap.size 5 (zd U ot)/\CE Wz W.heap.size 6 (zd U ek)/\CE Wz W.heap.size 7 (zd U en)/\CE Wz W.heap.size 8 (O xa xl xc)/\CE Wz W.heap.size 9 (O aa al ac)/\CE Wz W.heap.size 10 (O ta tl tc)/\CE Wz W.heap.size 11 (O ea el ec)/\CE Wz g (dp*2) (O p1 q1 r1)/\CE Wz g (dp*2+1) (O p2 q2 r2)
abbrev ME (x:WX) (W:World) (dp bp:Nat) (p1:Option Addr) (q1 r1:Nat) (p2:Option Addr) (q2 r2 bs:Nat) (ek en:Int) (xa:Option Addr) (xl xc:Nat) (Wz:World):Prop:=Wz.cell? ⟨x.bw,1,none⟩=some (zd U (x.c.n:Int))/\CE Wz x.bw 2 (O x.c.ga x.c.gn x.c.gc)/\CE Wz x.bw 3 (O x.c.sa x.c.sn x.c.sc)/\CE Wz x.bw 4 (O x.c.ya x.c.yn x.c.yc)/\CE Wz x.bw 5 (O x.c.oa x.c.on x.c.oc)/\CE Wz x.bw 6 (O x.c.va x.c.vn x.c.vc)/\CE Wz x.bw 7 (O x.c.fa x.c.fn x.c.fc)/\CE Wz x.bw 8 (O x.c.ba x.c.bn x.c.bc)/\CE Wz x.bw 9 (O x.c.la x.c.ln x.c.lc)/\CE Wz x.bw 10 (O x.c.ka x.c.kn x.c.kc)/\CE Wz W.heap.size 2 (zd U (dp:Int))/\CE Wz bp 0 (O p1 q1 r1)/\CE Wz bp 1 (O p2 q2 r2)/\CE Wz bs 3 (zd U ek)/\CE Wz bs 4 (zd U en)/\CE Wz bs 5 (O xa xl xc)
abbrev Ol (x:WX) (W:World) (dp bs:Nat) (ek en:Int) (xa:Option Addr) (xl xc:Nat) (Wz:World):Prop:=Wz.cell? ⟨x.bw,1,none⟩=some (zd U (x.c.n:Int))/\CE Wz x.bw 2 (O x.c.ga x.c.gn x.c.gc)/\CE Wz x.bw 3 (O x.c.sa x.c.sn x.c.sc)/\CE Wz x.bw 4 (O x.c.ya x.c.yn x.c.yc)/\CE Wz x.bw 5 (O x.c.oa x.c.on x.c.oc)/\CE Wz x.bw 6 (O x.c.va x.c.vn x.c.vc)/\CE Wz x.bw 7 (O x.c.fa x.c.fn x.c.fc)/\CE Wz x.bw 8 (O x.c.ba x.c.bn x.c.bc)/\CE Wz x.bw 9 (O x.c.la x.c.ln x.c.lc)/\CE Wz x.bw 10 (O x.c.ka x.c.kn x.c.kc)/\CE Wz W.heap.size 2 (zd U (dp:Int))/\CE Wz bs 3 (zd U ek)/\CE Wz bs 4 (zd U en)/\CE Wz bs 5 (O xa xl xc)
abbrev Ok (x:WX) (b8 z8 bp:Nat) (p1:Option Addr) (q1 r1:Nat) (p2:Option Addr) (q2 r2 bs jv j:Nat) (rk rn:Int) (ra:Option Addr) (rl rc:Nat) (Wz:World):Prop:=Wz.cell? ⟨x.bw,1,none⟩=some (zd U (x.c.n:Int))/\CE Wz x.bw 2 (O x.c.ga x.c.gn x.c.gc)/\CE Wz x.bw 3 (O x.c.sa x.c.sn x.c.sc)/\CE Wz x.bw 4 (O x.c.ya x.c.yn x.c.yc)/\CE Wz x.bw 5 (O x.c.oa x.c.on x.c.oc)/\CE Wz x.bw 6 (O x.c.va x.c.vn x.c.vc)/\CE Wz x.bw 7 (O (some ⟨b8,z8,none⟩) x.c.fn x.c.fc)/\CE Wz x.bw 8 (O x.c.ba x.c.bn x.c.bc)/\CE Wz x.bw 9 (O x.c.la x.c.ln x.c.lc)/\CE Wz x.bw 10 (O x.c.ka x.c.kn x.c.kc)/\CE Wz bp 0 (O p1 q1 r1)/\CE Wz bp 1 (O p2 q2 r2)/\CE Wz bs 1 (zd U (jv:Int))/\CE Wz bs 2 (zd U (j:Int))/\CE Wz b8 (z8+j*5+2) (zd U rk)/\CE Wz b8 (z8+j*5+3) (zd U rn)/\CE Wz b8 (z8+j*5+4) (O ra rl rc)
theorem TC (x) (w0:World) (K kf:Nat) (gs ls ms vs fs) (S:WtS x w0 K kf gs ls ms vs fs) (s:WSt) (pv:Value) (W:World) (h:WtI x w0 s pv W) (hvl:s.vs.length=vs.length) (kind:Nat) (a:Int) (dp k:Nat) (cs:List Value) (d) (funcs:Int) (hrs:RS w0 K (k+1) cs d) (hfn:funcs<=fs.length) (hok:Cx K vs.length ls.length ms.length funcs fs d) (hd:dp < s.ps.length) (hd9:dp<=9000) (hps:s.ps.length<=20000)
  (hkind:kind=1\/(kind=2/\Ag d=8/\dp+1 < s.ps.length)\/(kind=3/\Ag d=2)) :
  Calls Tryz.prog 64 #[zi (some ⟨x.bw,0,none⟩),.agg (zd U kind::zd U a::zd U dp::cs).toArray] W fun e W'=>e=zj (zg (obW (Bc x K gs ls ms vs fs) kind a dp d s).1)/\(∃ pv',WtI x w0 (obW (Bc x K gs ls ms vs fs) kind a dp d s).2 pv' W')/\FrW (XV x) W W':=by
 obtain ⟨ek,en,xa,xl,xc,aa,ac,ta,tc,ea,ec,rfl,i0,i1,i2,hX,hA,hT,hE,-,-,-⟩:=hrs.form;have bo:=hrs;obtain ⟨kd,a3⟩:=nm (Ag d);obtain ⟨vr,cf⟩:=nm (Ap d);obtain ⟨ot,cj⟩:=nm (Ae d);obtain ⟨al,dn⟩:=nm ((Ai d).length);obtain ⟨tl,c5⟩:=nm ((Aj d).length);obtain ⟨el,dl⟩:=nm ((Ao d).length);rw [<-a3,<-cf,<-cj,<-dn,<-c5,<-dl] at bo ⊢;obtain ⟨R,hR⟩:=nm (obW (Bc x K gs ls ms vs fs) kind a dp d s);rw [<-hR];have HR:=Aa hR;obtain ⟨g,cap,T,P,M,Q,N,L,es,k0,k1,ck⟩:=h.pls.cells hd;subst es;obtain ⟨p,cg⟩:=nm (s.ps[dp]);rw [<-cg] at ck;have cq:Hx (s.ps.getD dp Ah=p):=by rw [cg];exact Aa (by simp [List.getD_eq_getElem?_getD,hd])
 obtain ⟨pl,ci⟩:=nm s.ps.length;obtain ⟨V1,br⟩:=nm ((W.alloc (ze #[zd U (kind:Int),zd U a,zd U (dp:Int),zd U kd,zd U vr,zd U ot,zd U ek,zd U en,O xa xl xc,O aa al ac,O ta tl tc,O ea el ec] 132)));have be:Ov W V1:=by rw [br];exact bA W _
 have E:Ad [zd U (kind:Int),zd U a,zd U (dp:Int),zd U kd,zd U vr,zd U ot,zd U ek,zd U en,O xa xl xc,O aa al ac,O ta tl tc,O ea el ec] V1 W.heap.size:=by rw [br];exact Ad.new _ _ _
 have h1:=h.over be;have fh:=Aa E;have fq:=Aa h1;have ds:=Aa (ck.over (A5 x) be);have fr:=Aa (FrW.of_below (Bx x) be);have dq:Hx (W.heap.size < V1.heap.size):=by rw [br];exact Aa (by simp)
 have cr:Hx (∀ q,W.heap.size<=q->∀ W8,Ov V1 W8->¬ XV x W8 q):=fun q hq W8 B e=>by have:=(h.vlt _ ((Bx x).below _ _ (Ac be B) _ e)).2;omega
 have A:=Aa S;have a9:=Aa hvl;have fg:=Aa cf;have fk:=Aa cj;have fi:=Aa bo;have bl:=Aa hok;have dt:=Aa hfn;have HX:=Aa hX;have du:=Aa hd;have fj:=Aa ci;have fu:=Aa (Ab be _ _ k0);have ft:=Aa (Ab be _ _ k1);have aw:Hx (∀ W2,Ov V1 W2->Q4 x g pl cap W dp kd vr ot ek en xa xl xc aa al ac ta tl tc ea el ec T P M Q N L W2):=fun W2 af=>by
  have h2:=h1.over af;exact ⟨by rw [ci];exact h2.c11,(E.over af) 2 _ rfl,(E.over af) 3 _ rfl,(E.over af) 4 _ rfl,(E.over af) 5 _ rfl,(E.over af) 6 _ rfl,(E.over af) 7 _ rfl,(E.over af) 8 _ rfl,(E.over af) 9 _ rfl,(E.over af) 10 _ rfl,(E.over af) 11 _ rfl,Ab af _ _ fu.o,Ab af _ _ ft.o⟩
 have f7:(dp:Int) < (pl:Int):=by omega
 have f2:pl<=20000:=by omega
 have fp:=Aa a3;have fo:=Aa hkind;clear hX hA hT hE hrs bo h E be hok hvl hfn h1 S a3 cf cj dn c5 dl i0 i1 i2 hR ck cg ci hps hd k0 k1;go_enter Tryz.func64,Tryz.ntmps64;go_wp2_with fail;rw [<-br];clear br;refine Cw (fun b7 Wn=>∃ (bp bs:Nat) (x7 x8 x9 x10 x11 x12 x13 x14 x15 x16:Value),b7={ tmps:=#[zi (some ⟨x.bw,0,none⟩),zh #[zd U (kind:Int),zd U a,zd U (dp:Int),zd U kd,zd U vr,zd U ot,zd U ek,zd U en,O xa xl xc,O aa al ac,O ta tl tc,O ea el ec],undef,zi (some ⟨W.heap.size,0,none⟩),zg false,zi (some ⟨bp,0,none⟩),zi (some ⟨bs,0,none⟩),x7,x8,x9,x10,x11,x12,x13,x14,x15,x16,undef,undef,undef,undef,undef,undef,undef,undef,undef,undef,undef,undef,undef,undef,undef,undef,undef,undef,undef,undef,undef,undef,undef,undef,undef,undef,undef,undef,undef,undef,undef,undef,undef,undef,undef,undef,undef,undef,undef,undef,undef,undef,undef,undef,undef,undef,undef,undef,undef,undef,undef,undef,undef,undef,undef,undef,undef,undef,undef,undef,undef,undef,undef,undef,undef,undef,undef,undef,undef,undef,undef,undef,undef,undef,undef,undef,undef],defers:=[] }/\Ov V1 Wn/\Ad [O T P M,O Q N L] Wn bp/\Ad [zd U kd,zd U vr,zd U ot,zd U ek,zd U en,O xa xl xc,O aa al ac,O ta tl tc,O ea el ec] Wn bs/\V1.heap.size<=bp/\V1.heap.size<=bs) ?_ ?_
 ·refine gS (Q4 x g pl cap W dp kd vr ot ek en xa xl xc aa al ac ta tl tc ea el ec T P M Q N L) (aw.o _ (bD _)) fun b=>?_
  refine kT 0 ?_;refine kT 1 ?_;refine kT 2 ?_;refine kT 3 ?_;refine kT 4 ?_;refine kT 5 ?_;refine kT 6 ?_;refine kT 7 ?_;refine kT 8 ?_;refine kT 9 ?_;refine rdB 10 11 rfl (fun K u=>?_) rfl fun K u=>?_
  ·go_simp
   refine xK u (aw.o _ ((bA _ _).drew)) fun b=>?_;clear u K;refine rdA 11 rfl fun K u=>?_;go_simp;refine xK u (aw.o _ (((bA _ _).alloc (by simp) _).drew)) fun b=>?_;clear u K;refine rdA 12 rfl fun K u=>?_;go_simp;refine xK u (aw.o _ (((bA _ _).alloc (by simp) _).drew)) fun b=>?_;clear u K;refine rdA 13 rfl fun K u=>?_;go_simp;refine xK u (aw.o _ (((bA _ _).alloc (by simp) _).drew)) fun b=>?_;clear u K;refine gE ?_;have hb:Ov V1 ((V1.alloc (ze #[O T P M,O Q N L] 50)).alloc (ze #[zd U kd,zd U vr,zd U ot,zd U ek,zd U en,O xa xl xc,O aa al ac,O ta tl tc,O ea el ec] 130)).drew:=((bA _ _).alloc (by simp) _).drew;have ce:Ad [O T P M,O Q N L] ((V1.alloc (ze #[O T P M,O Q N L] 50)).alloc (ze #[zd U kd,zd U vr,zd U ot,zd U ek,zd U en,O xa xl xc,O aa al ac,O ta tl tc,O ea el ec] 130)).drew V1.heap.size:=((Ad.new [O T P M,O Q N L] 50 V1).over (bA _ _)).over (bD _);have cd:Ad [zd U kd,zd U vr,zd U ot,zd U ek,zd U en,O xa xl xc,O aa al ac,O ta tl tc,O ea el ec] ((V1.alloc (ze #[O T P M,O Q N L] 50)).alloc (ze #[zd U kd,zd U vr,zd U ot,zd U ek,zd U en,O xa xl xc,O aa al ac,O ta tl tc,O ea el ec] 130)).drew (V1.heap.size+1):=by
    have r:=(Ad.new [zd U kd,zd U vr,zd U ot,zd U ek,zd U en,O xa xl xc,O aa al ac,O ta tl tc,O ea el ec] 130 (V1.alloc (ze #[O T P M,O Q N L] 50))).over (bD _);simpa using r
   exact Ba ⟨V1.heap.size,V1.heap.size+1,_,_,_,_,_,_,_,_,_,_,rfl,hb,ce,cd,Nat.le_refl _,Nat.le_succ _⟩
  ·go_simp
   refine xK u (aw.o _ ((bA _ _).drew)) fun b=>?_;clear u K;refine rdA 10 rfl fun K u=>?_;go_simp;refine xK u (aw.o _ (((bA _ _).alloc (by simp) _).drew)) fun b=>?_;clear u K;refine rdA 12 rfl fun K u=>?_;go_simp;refine xK u (aw.o _ (((bA _ _).alloc (by simp) _).drew)) fun b=>?_;clear u K;refine rdA 13 rfl fun K u=>?_;go_simp;refine xK u (aw.o _ (((bA _ _).alloc (by simp) _).drew)) fun b=>?_;clear u K;refine gE ?_;have hb:Ov V1 ((V1.alloc (ze #[zd U kd,zd U vr,zd U ot,zd U ek,zd U en,O xa xl xc,O aa al ac,O ta tl tc,O ea el ec] 130)).alloc (ze #[O T P M,O Q N L] 50)).drew:=((bA _ _).alloc (by simp) _).drew;have ce:Ad [zd U kd,zd U vr,zd U ot,zd U ek,zd U en,O xa xl xc,O aa al ac,O ta tl tc,O ea el ec] ((V1.alloc (ze #[zd U kd,zd U vr,zd U ot,zd U ek,zd U en,O xa xl xc,O aa al ac,O ta tl tc,O ea el ec] 130)).alloc (ze #[O T P M,O Q N L] 50)).drew V1.heap.size:=((Ad.new [zd U kd,zd U vr,zd U ot,zd U ek,zd U en,O xa xl xc,O aa al ac,O ta tl tc,O ea el ec] 130 V1).over (bA _ _)).over (bD _);have cd:Ad [O T P M,O Q N L] ((V1.alloc (ze #[zd U kd,zd U vr,zd U ot,zd U ek,zd U en,O xa xl xc,O aa al ac,O ta tl tc,O ea el ec] 130)).alloc (ze #[O T P M,O Q N L] 50)).drew (V1.heap.size+1):=by
    have r:=(Ad.new [O T P M,O Q N L] 50 (V1.alloc (ze #[zd U kd,zd U vr,zd U ot,zd U ek,zd U en,O xa xl xc,O aa al ac,O ta tl tc,O ea el ec] 130))).over (bD _);simpa using r
   exact Ba ⟨V1.heap.size+1,V1.heap.size,_,_,_,_,_,_,_,_,_,_,rfl,hb,cd,ce,Nat.le_succ _,Nat.le_refl _⟩
 rintro b7 V2 ⟨bp,bs,x7,x8,x9,x10,x11,x12,x13,x14,x15,x16,rfl,ax,c6,b3,et,er⟩;have ge:=Aa ax;have ao:=Aa (fq.o.over ax);have bx:=Aa (fr.o.trans (FrW.of_below (Bx x) ax));have bb:=Aa (fh.o.over ax);have bi:=Aa (ds.o.over (A5 x) ax);have G:=Aa c6;have t:=Aa b3;have dr:Hx (¬ XV x V2 W.heap.size):=cr.o _ (Nat.le_refl _) V2 ax;have b1:Hx (¬ XV x V2 bp):=cr.o _ (by have:=dq.o;omega) V2 ax;have bd:Hx (¬ XV x V2 bs):=cr.o _ (by have:=dq.o;omega) V2 ax;clear ax c6 b3 et er aw;have a3:=fp.o;rcases (fo.o) with rfl | ⟨rfl,eu,e4⟩ | ⟨rfl,dg⟩
 ·
  by_cases hk7:Ag d=7\/Ag d=8
  ·obtain ⟨I,J⟩:=nm (withX (Bc x K gs ls ms vs fs) s p (Am d))
   have ag:Hx (R=(true,s.enter dp I)):=by
    rw [HR.o,J];unfold obW;rw [if_neg (by omega),if_neg (by omega),if_pos hk7,cq.o];exact Aa rfl
   have KW:Hx (∀ (W3:World),Ov V2 W3->Calls Tryz.prog 103 #[(zh #[zd U (x.c.n:Int),O x.c.ga x.c.gn x.c.gc,O x.c.sa x.c.sn x.c.sc,O x.c.ya x.c.yn x.c.yc,O x.c.oa x.c.on x.c.oc,O x.c.va x.c.vn x.c.vc,O x.c.fa x.c.fn x.c.fc,O x.c.ba x.c.bn x.c.bc,O x.c.la x.c.ln x.c.lc,O x.c.ka x.c.kn x.c.kc]),zh #[O T P M,O Q N L],zh #[zd U ek,zd U en,O xa xl xc]] W3 fun e w'=>(∃ T P M Q N L,e=zj (zh #[O T P M,O Q N L])/\Aw x.c.n (XW x) w' (zh #[O T P M,O Q N L]) I)/\Ov W3 w'):=fun W3 ab=>by
    have h3:=ao.o.over ab;have:=Df x.c A.o.n1 A.o.n6 gs s.vs (XW x) (A5 x) _ p K _ (Am d) W3 (Af A.o.gr h3.below) A.o.chk h3.lev.levs (bi.o.over (A5 x) ab) (by rw [a9.o];exact A.o.v16) (fun k hk=>(h3.xlt k hk).2) (HX.o.over h3.below) (by rw [a9.o];exact Bd bl.o);rw [J];exact this
   have KE:Hx (∀ (W3:World) {y:Value},Ov V2 W3->Aw x.c.n (XW x) W3 y I->Calls Tryz.prog 120 #[zi (some ⟨x.bw,0,none⟩),zd U (dp:Int),y] W3 fun e W'=>e=zj (zk #[])/\(∃ pv',WtI x w0 (s.enter dp I) pv' W')/\FrW (XV x) W3 W'):=fun W3 y ab hy=>PE x w0 A.o.n1 s _ W3 (ao.o.over ab) y I hy dp du.o hd9;have F:Hx (∀ W8,Ov V2 W8->ME x W dp bp T P M Q N L bs ek en xa xl xc W8):=fun W8 B=>by
    have l:=ao.o.over B;exact ⟨l.cw (j:=0) rfl,l.cw (j:=1) rfl,l.cw (j:=2) rfl,l.cw (j:=3) rfl,l.cw (j:=4) rfl,l.cw (j:=5) rfl,l.cw (j:=6) rfl,l.cw (j:=7) rfl,l.cw (j:=8) rfl,l.cw (j:=9) rfl,(bb.o.over B) 2 _ rfl,(G.o.over B) 0 _ rfl,(G.o.over B) 1 _ rfl,(t.o.over B) 3 _ rfl,(t.o.over B) 4 _ rfl,(t.o.over B) 5 _ rfl⟩
   have bk:Hx (∀ W8 s8 pv8,WtI x w0 s8 pv8 W8->FrW (XV x) V2 W8->ME x W dp bp T P M Q N L bs ek en xa xl xc W8):=fun W8 s8 pv8 l V=>by
    exact ⟨l.cw (j:=0) rfl,l.cw (j:=1) rfl,l.cw (j:=2) rfl,l.cw (j:=3) rfl,l.cw (j:=4) rfl,l.cw (j:=5) rfl,l.cw (j:=6) rfl,l.cw (j:=7) rfl,l.cw (j:=8) rfl,l.cw (j:=9) rfl,V.row bb.o dr.o 2 _ rfl,V.row G.o b1.o 0 _ rfl,V.row G.o b1.o 1 _ rfl,V.row t.o bd.o 3 _ rfl,V.row t.o bd.o 4 _ rfl,V.row t.o bd.o 5 _ rfl⟩
   have Z:Hx (Ov V2 V2.drew):=(bD _);obtain ⟨u0,u1,u2,u3,u4,u5,u6,u7,u8,u9,u10,u11⟩:=P9 bb.o;obtain ⟨t0,t1,t2,t3,t4,t5,t6,t7,t8⟩:=rc9 t.o;obtain ⟨cc,cb⟩:=rc2 G.o;have df:kd=7\/kd=8:=by omega
   clear J a3 hk7;rcases df with rfl | rfl
   ·go_wp2_with fail
    refine gS (ME x W dp bp T P M Q N L bs ek en xa xl xc) (F.o _ Z.o) fun b=>?_;refine kT 0 ?_;refine kT 1 ?_;refine kT 2 ?_;refine kT 3 ?_;refine kT 4 ?_;refine kT 5 ?_;refine kT 6 ?_;refine kT 7 ?_;refine kT 8 ?_;refine kT 9 ?_;refine rdA 10 rfl fun K u=>?_;go_simp;refine (KW.o _ Z.o).mono ?_;rintro e W6 ⟨⟨o1,o2,o3,o4,o5,o6,rfl,au⟩,ar⟩;have C:=Aa (Ac Z.o ar);have bg:=Aa au;clear au ar;go_simp;refine xK u (F.o _ C.o) fun b=>?_;clear u K;refine rdA 11 rfl fun K u=>?_;go_simp;refine (KE.o _ C.o bg.o).mono ?_;rintro e W7 ⟨rfl,⟨bm,ad⟩,H⟩;have ah:=Aa ad;have ay:=Aa (bx.o.trans ((FrW.of_below (Bx x) C.o).trans H));have bf:=Aa (bk.o W7 _ _ ah.o ((FrW.of_below (Bx x) C.o).trans H));clear ad H;go_simp;refine xK u (bf.o) fun b=>?_;clear u K;refine gE ?_;go_wp2_with fail;go_ret;exact ⟨by rw [ag.o];rfl,by rw [ag.o];exact ⟨bm,ah.o⟩,ay.o⟩
   ·go_wp2_with fail
    refine gS (ME x W dp bp T P M Q N L bs ek en xa xl xc) (F.o _ Z.o) fun b=>?_;refine kT 0 ?_;refine kT 1 ?_;refine kT 2 ?_;refine kT 3 ?_;refine kT 4 ?_;refine kT 5 ?_;refine kT 6 ?_;refine kT 7 ?_;refine kT 8 ?_;refine kT 9 ?_;refine rdA 10 rfl fun K u=>?_;go_simp;refine (KW.o _ Z.o).mono ?_;rintro e W6 ⟨⟨o1,o2,o3,o4,o5,o6,rfl,au⟩,ar⟩;have C:=Aa (Ac Z.o ar);have bg:=Aa au;clear au ar;go_simp;refine xK u (F.o _ C.o) fun b=>?_;clear u K;refine rdA 11 rfl fun K u=>?_;go_simp;refine (KE.o _ C.o bg.o).mono ?_;rintro e W7 ⟨rfl,⟨bm,ad⟩,H⟩;have ah:=Aa ad;have ay:=Aa (bx.o.trans ((FrW.of_below (Bx x) C.o).trans H));have bf:=Aa (bk.o W7 _ _ ah.o ((FrW.of_below (Bx x) C.o).trans H));clear ad H;go_simp;refine xK u (bf.o) fun b=>?_;clear u K;refine gE ?_;go_wp2_with fail;go_ret;exact ⟨by rw [ag.o];rfl,by rw [ag.o];exact ⟨bm,ah.o⟩,ay.o⟩
  ·have de:Ag d<=6:=by have:=bl.o.1;omega
   have ag:Hx (R=doX (Bc x K gs ls ms vs fs) s a d p):=by
    rw [HR.o];unfold obW;rw [if_neg (by omega),if_neg (by omega),if_neg hk7,cq.o];exact Aa rfl
   have KD:=Aa (Ss x w0 K kf gs ls ms vs fs A.o s _ V2 ao.o a9.o a k _ d _ p funcs fi.o dt.o bl.o bi.o de);obtain ⟨u0,u1,u2,u3,u4,u5,u6,u7,u8,u9,u10,u11⟩:=P9 bb.o;obtain ⟨t0,t1,t2,t3,t4,t5,t6,t7,t8⟩:=rc9 t.o;obtain ⟨cc,cb⟩:=rc2 G.o;have gm:(kd == 7)=false:=by rw [beq_eq_false_iff_ne];omega
   have gl:(kd == 8)=false:=by rw [beq_eq_false_iff_ne];omega
   clear a3 hk7 de;go_wp2_with fail;refine (KD.o).mono ?_;rintro e W7 ⟨rfl,ad,H⟩;have ah:=Aa ad;have ay:=Aa (bx.o.trans H);clear ad H;go_wp2_with fail;go_ret;exact ⟨by rw [ag.o];rfl,by rw [ag.o];exact ⟨_,ah.o⟩,ay.o⟩
 ·
  obtain ⟨m1,dd⟩:=nm (dp+1);have gk:IntKind.i64.wrap ((dp:Int)+1)=(m1:Int):=by rw [IntKind.wrap_i64];omega
  obtain ⟨g',gb,ep,eo,em,ej,ei,eh,db,c0,c1,cl⟩:=ao.o.pls.cells (i:=m1) (by omega);injection db with e1 e2 e3;injection e1 with e1;injection e1 with e1;subst e1 e3;clear e2;have dc:m1 < s.ps.length:=by omega
  obtain ⟨pm,ch⟩:=nm (s.ps[m1]);rw [<-ch] at cl;have di:s.ps.getD (dp+1) Ah=pm:=by rw [ch,<-dd];simp [List.getD_eq_getElem?_getD,dc]
  obtain ⟨I,J⟩:=nm (withX (Bc x K gs ls ms vs fs) s pm (Am d));have ag:Hx (R=(true,s.enter dp I)):=by
   rw [HR.o,J];unfold obW;rw [if_pos rfl,di];exact Aa rfl
  have fm:=Aa cl;have KW:Hx (∀ (W3:World),Ov V2 W3->Calls Tryz.prog 103 #[(zh #[zd U (x.c.n:Int),O x.c.ga x.c.gn x.c.gc,O x.c.sa x.c.sn x.c.sc,O x.c.ya x.c.yn x.c.yc,O x.c.oa x.c.on x.c.oc,O x.c.va x.c.vn x.c.vc,O x.c.fa x.c.fn x.c.fc,O x.c.ba x.c.bn x.c.bc,O x.c.la x.c.ln x.c.lc,O x.c.ka x.c.kn x.c.kc]),zh #[O ep eo em,O ej ei eh],zh #[zd U ek,zd U en,O xa xl xc]] W3 fun e w'=>(∃ T P M Q N L,e=zj (zh #[O T P M,O Q N L])/\Aw x.c.n (XW x) w' (zh #[O T P M,O Q N L]) I)/\Ov W3 w'):=fun W3 ab=>by
   have h3:=ao.o.over ab;have:=Df x.c A.o.n1 A.o.n6 gs s.vs (XW x) (A5 x) _ pm K _ (Am d) W3 (Af A.o.gr h3.below) A.o.chk h3.lev.levs (fm.o.over (A5 x) ab) (by rw [a9.o];exact A.o.v16) (fun k hk=>(h3.xlt k hk).2) (HX.o.over h3.below) (by rw [a9.o];exact Bd bl.o);rw [J];exact this
  have KE:Hx (∀ (W3:World) {y:Value},Ov V2 W3->Aw x.c.n (XW x) W3 y I->Calls Tryz.prog 120 #[zi (some ⟨x.bw,0,none⟩),zd U (dp:Int),y] W3 fun e W'=>e=zj (zk #[])/\(∃ pv',WtI x w0 (s.enter dp I) pv' W')/\FrW (XV x) W3 W'):=fun W3 y ab hy=>PE x w0 A.o.n1 s _ W3 (ao.o.over ab) y I hy dp du.o hd9;have F:Hx (∀ W8,Ov V2 W8->Ol x W dp bs ek en xa xl xc W8):=fun W8 B=>by
   have l:=ao.o.over B;exact ⟨l.cw (j:=0) rfl,l.cw (j:=1) rfl,l.cw (j:=2) rfl,l.cw (j:=3) rfl,l.cw (j:=4) rfl,l.cw (j:=5) rfl,l.cw (j:=6) rfl,l.cw (j:=7) rfl,l.cw (j:=8) rfl,l.cw (j:=9) rfl,(bb.o.over B) 2 _ rfl,(t.o.over B) 3 _ rfl,(t.o.over B) 4 _ rfl,(t.o.over B) 5 _ rfl⟩
  have bk:Hx (∀ W8 s8 pv8,WtI x w0 s8 pv8 W8->FrW (XV x) V2 W8->Ol x W dp bs ek en xa xl xc W8):=fun W8 s8 pv8 l V=>by
   exact ⟨l.cw (j:=0) rfl,l.cw (j:=1) rfl,l.cw (j:=2) rfl,l.cw (j:=3) rfl,l.cw (j:=4) rfl,l.cw (j:=5) rfl,l.cw (j:=6) rfl,l.cw (j:=7) rfl,l.cw (j:=8) rfl,l.cw (j:=9) rfl,V.row bb.o dr.o 2 _ rfl,V.row t.o bd.o 3 _ rfl,V.row t.o bd.o 4 _ rfl,V.row t.o bd.o 5 _ rfl⟩
  have Z:Hx (Ov V2 V2.drew):=(bD _);obtain ⟨u0,u1,u2,u3,u4,u5,u6,u7,u8,u9,u10,u11⟩:=P9 bb.o;obtain ⟨t0,t1,t2,t3,t4,t5,t6,t7,t8⟩:=rc9 t.o;obtain ⟨cc,cb⟩:=rc2 G.o;have fb:=ao.o.c11;have ca:=fj.o;rw [<-ca] at fb;have gp:(m1:Int) < (pl:Int):=by omega
  clear J a3 eu e4 dd dc ch di cl ca;go_wp2_with fail;refine gS (Ol x W dp bs ek en xa xl xc) (F.o _ Z.o) fun b=>?_;refine kT 0 ?_;refine kT 1 ?_;refine kT 2 ?_;refine kT 3 ?_;refine kT 4 ?_;refine kT 5 ?_;refine kT 6 ?_;refine kT 7 ?_;refine kT 8 ?_;refine kT 9 ?_;refine kT 11 ?_;refine kT 12 ?_;refine kT 13 ?_;refine kT 16 ?_;refine kT 17 ?_;refine rdA 10 rfl fun K u=>?_;go_simp;refine xK u (F.o _ Z.o) fun b=>?_;clear u K;refine kT 14 ?_;refine rdA 15 rfl fun K u=>?_;go_simp;refine xK u (F.o _ Z.o) fun b=>?_;clear u K;refine rdA 18 rfl fun K u=>?_;go_simp;refine (KW.o _ Z.o).mono ?_;rintro e W6 ⟨⟨o1,o2,o3,o4,o5,o6,rfl,au⟩,ar⟩;have C:=Aa (Ac Z.o ar);have bg:=Aa au;clear au ar;go_simp;refine xK u (F.o _ C.o) fun b=>?_;clear u K;refine rdA 19 rfl fun K u=>?_;go_simp;refine (KE.o _ C.o bg.o).mono ?_;rintro e W7 ⟨rfl,⟨bm,ad⟩,H⟩;have ah:=Aa ad;have ay:=Aa (bx.o.trans ((FrW.of_below (Bx x) C.o).trans H));have bf:=Aa (bk.o W7 _ _ ah.o ((FrW.of_below (Bx x) C.o).trans H));clear ad H;go_simp;refine xK u (bf.o) fun b=>?_;clear u K;refine gE ?_;go_wp2_with fail;go_ret;exact ⟨by rw [ag.o];rfl,by rw [ag.o];exact ⟨bm,ah.o⟩,ay.o⟩
 ·
  have eq:=bl.o.2.1 (by omega);obtain ⟨jv,cm⟩:∃ q:Nat,Ap d=(q:Int):=⟨(Ap d).toNat,by omega⟩;obtain rfl:vr=(jv:Int):=by rw [fg.o,cm]
  have b4:jv < vs.length:=by omega
  obtain ⟨⟨ex,ew⟩,-,-⟩:=bl.o.2.2.1 dg;have hfn:=dt.o;obtain ⟨j,hj⟩:∃ j:Nat,Ae d=(j:Int):=⟨(Ae d).toNat,by omega⟩;obtain rfl:ot=(j:Int):=by rw [fk.o,hj]
  have bj:j < fs.length:=by omega
  have dh:(Ae d).toNat=j:=by omega
  have bq:BV fs (Ae d)=fs[j]:=by unfold BV;rw [dh];simp [List.getD_eq_getElem?_getD,bj]
  obtain ⟨ey,gy,gx,ez,dk⟩:=A.o.funcs;injection ez with y1 y2 y3;obtain ⟨b8,z8,dj,b6⟩:=dk (by intro h;rw [h] at bj;simp at bj);obtain ⟨vP,vB,e0,e1,e2,e9,e8,bv,bu,bt,cn,-,cp,aq⟩:=b6 j bj;have b0:x.c.fa=some ⟨b8,z8,none⟩:=y1.trans dj;obtain ⟨ra,rc,c4⟩:=aq.form;simp only [List.cons.injEq,and_true] at c4;obtain ⟨rfl,rfl,rfl⟩:=c4;have b5:=A.o.body j bj;have co:=b5.2.2.2;obtain ⟨f,hf⟩:=nm (fs[j]);rw [<-hf] at bv bu bt aq co bq;obtain ⟨rk,da⟩:=nm (AQ f.res);obtain ⟨rn,c7⟩:=nm (Bk f.res);obtain ⟨rl,c8⟩:=nm ((A4 f.res).length);rw [<-da] at bv aq;rw [<-c7] at bu aq;rw [<-c8] at bt aq;obtain ⟨I,J⟩:=nm (withX (Bc x K gs ls ms vs fs) s p f.res);have ag:Hx (R=CC (Bc x K gs ls ms vs fs) s p (jv:Int) I):=by
   rw [HR.o,J];unfold obW;have e:(Bc x K gs ls ms vs fs).fs=fs:=rfl;rw [if_neg (by omega),if_pos rfl,cq.o,e,bq,cm];exact Aa rfl
  have dm:x.c.v=(zh #[zd U (x.c.n:Int),O x.c.ga x.c.gn x.c.gc,O x.c.sa x.c.sn x.c.sc,O x.c.ya x.c.yn x.c.yc,O x.c.oa x.c.on x.c.oc,O x.c.va x.c.vn x.c.vc,O (some ⟨b8,z8,none⟩) x.c.fn x.c.fc,O x.c.ba x.c.bn x.c.bc,O x.c.la x.c.ln x.c.lc,O x.c.ka x.c.kn x.c.kc]):=by show Value.agg #[zd U (x.c.n:Int),O x.c.ga x.c.gn x.c.gc,O x.c.sa x.c.sn x.c.sc,O x.c.ya x.c.yn x.c.yc,O x.c.oa x.c.on x.c.oc,O x.c.va x.c.vn x.c.vc,O x.c.fa x.c.fn x.c.fc,O x.c.ba x.c.bn x.c.bc,O x.c.la x.c.ln x.c.lc,O x.c.ka x.c.kn x.c.kc]=_;rw [b0]
  have KW:Hx (∀ (W3:World),Ov V2 W3->Calls Tryz.prog 103 #[(zh #[zd U (x.c.n:Int),O x.c.ga x.c.gn x.c.gc,O x.c.sa x.c.sn x.c.sc,O x.c.ya x.c.yn x.c.yc,O x.c.oa x.c.on x.c.oc,O x.c.va x.c.vn x.c.vc,O (some ⟨b8,z8,none⟩) x.c.fn x.c.fc,O x.c.ba x.c.bn x.c.bc,O x.c.la x.c.ln x.c.lc,O x.c.ka x.c.kn x.c.kc]),zh #[O T P M,O Q N L],zh #[zd U rk,zd U rn,O ra rl rc]] W3 fun e w'=>(∃ T P M Q N L,e=zj (zh #[O T P M,O Q N L])/\Aw x.c.n (XW x) w' (zh #[O T P M,O Q N L]) I)/\Ov W3 w'):=fun W3 ab=>by
   have h3:=ao.o.over ab;have:=Df x.c A.o.n1 A.o.n6 gs s.vs (XW x) (A5 x) _ p K _ f.res W3 (Af A.o.gr h3.below) A.o.chk h3.lev.levs (bi.o.over (A5 x) ab) (by rw [a9.o];exact A.o.v16) (fun k hk=>(h3.xlt k hk).2) (aq.over h3.below) (by rw [a9.o];exact Ce co);rw [dm] at this;rw [J];exact this
  have KE:Hx (∀ (W3:World) {y:Value},Ov V2 W3->Aw x.c.n (XW x) W3 y I->Calls Tryz.prog 121 #[zi (some ⟨x.bw,0,none⟩),zh #[O T P M,O Q N L],zd U (jv:Int),y] W3 fun e W'=>e=zj (zg (CC (Bc x K gs ls ms vs fs) s p (jv:Int) I).1)/\WtI x w0 (CC (Bc x K gs ls ms vs fs) s p (jv:Int) I).2 _ W'/\FrW (XV x) W3 W'):=fun W3 y ab hy=>FK x w0 K kf gs ls ms vs fs A.o s _ W3 (ao.o.over ab) a9.o _ _ p I (bi.o.over (A5 x) ab) hy jv b4;have F:Hx (∀ W8,Ov V2 W8->Ok x b8 z8 bp T P M Q N L bs jv j rk rn ra rl rc W8):=fun W8 B=>by
   have l:=ao.o.over B;exact ⟨l.cw (j:=0) rfl,l.cw (j:=1) rfl,l.cw (j:=2) rfl,l.cw (j:=3) rfl,l.cw (j:=4) rfl,l.cw (j:=5) rfl,by rw [<-b0];exact l.cw (j:=6) rfl,l.cw (j:=7) rfl,l.cw (j:=8) rfl,l.cw (j:=9) rfl,(G.o.over B) 0 _ rfl,(G.o.over B) 1 _ rfl,(t.o.over B) 1 _ rfl,(t.o.over B) 2 _ rfl,Ab l.below _ _ bv,Ab l.below _ _ bu,Ab l.below _ _ bt⟩
  have bk:Hx (∀ W8 s8 pv8,WtI x w0 s8 pv8 W8->FrW (XV x) V2 W8->Ok x b8 z8 bp T P M Q N L bs jv j rk rn ra rl rc W8):=fun W8 s8 pv8 l V=>by
   exact ⟨l.cw (j:=0) rfl,l.cw (j:=1) rfl,l.cw (j:=2) rfl,l.cw (j:=3) rfl,l.cw (j:=4) rfl,l.cw (j:=5) rfl,by rw [<-b0];exact l.cw (j:=6) rfl,l.cw (j:=7) rfl,l.cw (j:=8) rfl,l.cw (j:=9) rfl,V.row G.o b1.o 0 _ rfl,V.row G.o b1.o 1 _ rfl,V.row t.o bd.o 1 _ rfl,V.row t.o bd.o 2 _ rfl,Ab l.below _ _ bv,Ab l.below _ _ bu,Ab l.below _ _ bt⟩
  have Z:Hx (Ov V2 V2.drew):=(bD _);obtain ⟨u0,u1,u2,u3,u4,u5,u6,u7,u8,u9,u10,u11⟩:=P9 bb.o;obtain ⟨t0,t1,t2,t3,t4,t5,t6,t7,t8⟩:=rc9 t.o;obtain ⟨cc,cb⟩:=rc2 G.o;have gq:(j:Int) < (x.c.fn:Int):=by omega
  have f4:x.c.fn<=5:=by have:=A.o.f5;omega
  clear J a3 dg dm eq cm b4 ex ew hfn hj bj dh bq ey dk y1 y2 y3 dj b6 e9 e8 bv bu bt cn cp aq b0 b5 co hf da c7 c8;go_wp2_with fail;refine gS (Ok x b8 z8 bp T P M Q N L bs jv j rk rn ra rl rc) (F.o _ Z.o) fun b=>?_;refine kT 0 ?_;refine kT 1 ?_;refine kT 2 ?_;refine kT 3 ?_;refine kT 4 ?_;refine kT 5 ?_;refine kT 6 ?_;refine kT 7 ?_;refine kT 8 ?_;refine kT 9 ?_;refine kT 10 ?_;refine kT 11 ?_;refine kT 12 ?_;refine kT 13 ?_;refine kT 14 ?_;refine kT 15 ?_;refine kT 16 ?_;refine kT 17 ?_;refine kT 18 ?_;refine kT 19 ?_;refine rdA 20 rfl fun K u=>?_;go_simp;refine (KW.o _ Z.o).mono ?_;rintro e W6 ⟨⟨o1,o2,o3,o4,o5,o6,rfl,au⟩,ar⟩;have C:=Aa (Ac Z.o ar);have bg:=Aa au;clear au ar;go_simp;refine xK u (F.o _ C.o) fun b=>?_;clear u K;refine rdA 21 rfl fun K u=>?_;go_simp;refine (KE.o _ C.o bg.o).mono ?_;rintro e W7 ⟨rfl,ad,H⟩;have ah:=Aa ad;have ay:=Aa (bx.o.trans ((FrW.of_below (Bx x) C.o).trans H));have bf:=Aa (bk.o W7 _ _ ah.o ((FrW.of_below (Bx x) C.o).trans H));clear ad H;go_simp;refine xK u (bf.o) fun b=>?_;clear u K;refine kT 22 ?_;refine gE ?_;go_wp2_with fail;go_ret;exact ⟨by rw [ag.o];rfl,by rw [ag.o];exact ⟨_,ah.o⟩,ay.o⟩
abbrev WX.wy (x:WX) (Y:Nat->Prop):WX:={ x with Y:=Y }
section
variable {x:WX} {w0 W W':World} {s:WSt} {pv:Value} {Y':Nat->Prop}
theorem WtS.wy {K kf:Nat} {gs:List (Int × Int)} {ls ms:List Lab} {vs:List (Bool × Lab)} {fs:List FnD} (S:WtS x w0 K kf gs ls ms vs fs) (Y:Nat->Prop):WtS (x.wy Y) w0 K kf gs ls ms vs fs:=
 ⟨S.n1,S.n6,S.gr,S.chk,S.vars,S.ins,S.outs,S.funcs,S.vchk,S.ichk,S.ochk,S.v16,S.i5,S.o5,S.f5,S.fl,S.body⟩
theorem S1 (hbw:W'.heap[x.bw]? = W.heap[x.bw]?) (hs:W.heap.size<=W'.heap.size) {k:Nat} (h:XV (x.wy Y') W' k):XV x W k:=by
 rcases h with e | e | e | ⟨v,b,e⟩
 ·exact Or.inl (Nat.le_trans hs e)
 ·exact Or.inr (Or.inl e)
 ·exact Or.inr (Or.inr (Or.inl e))
 ·exact Or.inr (Or.inr (Or.inr ⟨v,(World.cell?_of_block (a:=⟨x.bw,11,none⟩) hbw).symm.trans b,e⟩))
theorem Aw.wy {n:Nat} {v:Value} {l:Lev} (n1:1<=n) (h:Aw n (XW x) W v l) (hs:W.heap.size<=W'.heap.size) (hk:∀ k,k < W.heap.size->¬ x.Y k->W'.heap[k]? = W.heap[k]?) (hy:∀ k,Y' k->x.Y k\/W.heap.size<=k) (hbw:W'.heap[x.bw]? = W.heap[x.bw]?):Aw n (XW (x.wy Y')) W' v l:=by
 obtain ⟨u,w,p,I,hw⟩:=h.off;obtain ⟨Q,P,g,M,bw⟩:=h.at_;rw [p] at g;simp at g;obtain ⟨rfl,rfl⟩:=g;have y:∀ (v:Value) (l:List Bool),AJ W v l->l.length=n->(∀ a m c,v=O (some a) m c->¬ XW x W a.block)->AJ W' v l/\∀ a m c,v=O (some a) m c->¬ XW (x.wy Y') W' a.block:=by
  intro v l L hl H;obtain ⟨N,cap,p,f⟩:=L;obtain ⟨b,off,t,f⟩:=f (by rintro rfl;simp at hl;omega);have A:b < W.heap.size:=bL (f 0 (by omega));have s:=H ⟨b,off,none⟩ l.length cap (by rw [p,t]);have J:W'.heap[b]? = W.heap[b]?:=hk b A (fun e=>s (Or.inl e));refine ⟨⟨N,cap,p,fun _=>⟨b,off,t,fun i hi=>(World.cell?_of_block (a:=⟨b,off+i,none⟩) J).trans (f i hi)⟩⟩,fun a m c e q=>?_⟩;rw [p,t] at e;injection e with B;injection B with B;subst B;rcases q with q | q
  ·rcases hy _ q with q | q
   ·exact s (Or.inl q)
   ·exact absurd A (by show ¬ b < _;have:W.heap.size<=b:=q;omega)
  ·exact s (Or.inr (S1 hbw hs q))
 obtain ⟨G,F⟩:=y _ _ M h.len.1 I;obtain ⟨E,C⟩:=y _ _ bw h.len.2 hw;exact ⟨⟨u,w,p,G,E⟩,h.len,u,w,p,F,C⟩
theorem BE.wy {n B:Nat} {v:Value} {Ls:List Lev} (n1:1<=n) (h:BE n (XW x) B W v Ls) (hs:W.heap.size<=W'.heap.size) (hk:∀ k,k < W.heap.size->¬ x.Y k->W'.heap[k]? = W.heap[k]?) (hy:∀ k,Y' k->x.Y k\/W.heap.size<=k) (hbw:W'.heap[x.bw]? = W.heap[x.bw]?) (hv:∀ g,v.ownBlock=some g->¬ x.Y g):BE n (XW (x.wy Y')) B W' v Ls:=by
 have f:=h.lt;obtain ⟨p,q,l⟩:=h;refine ⟨p,AD q (fun g e=>hk g (f g e).2 (hv g e)),fun i hi=>?_⟩;obtain ⟨a,b,t,s,hl⟩:=l i hi;exact ⟨a,b,t,s,hl.wy n1 hs hk hy hbw⟩
theorem WtI.wy (n1:1<=x.c.n) (h:WtI x w0 s pv W) (ho:W'.os=W.os) (ht:W'.tape=W.tape) (hp:W'.output=W.output) (hs:W.heap.size<=W'.heap.size) (hk:∀ k,k < W.heap.size->¬ x.Y k->W'.heap[k]? = W.heap[k]?) (hy:∀ k,Y' k->x.Y k\/W.heap.size<=k) (hyl:∀ k,Y' k->k < W'.heap.size):WtI (x.wy Y') w0 s pv W':=by
 have f:W'.heap[x.bw]? = W.heap[x.bw]?:=hk x.bw h.lo.2 h.yb;have b:∀ g,g < W.heap.size->¬ x.Y g->¬ Y' g:=fun g y t p=>by
  rcases hy g p with e | e
  ·exact t e
  ·omega
 refine ⟨h.below.trans ⟨ho,ht,hp,hs,fun k i=>hk k (Nat.lt_of_lt_of_le i h.below.size) (fun e=>by have:=(h.yk k e).1;omega)⟩,fun j u l=>(World.cell?_of_block (a:=⟨x.bw,j,none⟩) f).trans (h.row j u l),fun j=>(World.frozen?_of_block (a:=⟨x.bw,j,none⟩) f).trans (h.fz j),⟨h.lo.1,Nat.lt_of_lt_of_le h.lo.2 hs⟩,fun k e=>⟨?_,hyl k e⟩,b _ h.lo.2 h.yb,h.lev.wy n1 hs hk hy f h.yL,h.pls.wy n1 hs hk hy f h.yP,AD h.flt (fun g e=>hk g (h.flt.lt g e).2 (h.apF g e).2.2.2),h.apL,h.apP,h.apLP,fun g e=>⟨(h.apF g e).1,(h.apF g e).2.1,(h.apF g e).2.2.1,b g (h.flt.lt g e).2 (h.apF g e).2.2.2⟩,fun g e=>b g (h.lev.lt g e).2 (h.yL g e),fun g e=>b g (h.pls.lt g e).2 (h.yP g e)⟩;rcases hy k e with q | q
 ·exact (h.yk k q).1
 ·exact Nat.le_trans h.below.size q
end
def DS (x:WX) (w0:World) (n1:1<=x.c.n) (nv:Nat) (wk:WK):Ca where
 fn:=64
 fre:=[zi (some ⟨x.bw,0,none⟩)]
 cap:=[]
 ent:=fun args w=>by simp [go_sem]
 ob:=obW wk
 In:=fun Y s X w=>(∃ pv,WtI (x.wy Y) w0 s pv w/\∀ k,X k ↔ (k=x.bw\/x.lv.ownBlock=some k\/pv.ownBlock=some k))/\s.vs.length=nv/\s.ps.length<=20000
 ok:=fun dp s=>dp < s.ps.length
 lt:=by
  rintro Y s X w ⟨⟨pv,h,hX⟩,-⟩ k hk;have hv:XV (x.wy Y) w k:=h.xv.2 ((hX k).1 hk);refine ⟨(h.vlt k hv).2,fun hy=>?_⟩;rcases (hX k).1 hk with e | e | e
  ·rw [e] at hy;exact h.yb hy
  ·exact h.yL k e hy
  ·exact h.yP k e hy
 kept:=by
  rintro Y Y' s X w w' ⟨⟨pv,h,hX⟩,hl⟩ ho ht hp hs hk hy hyl;exact ⟨⟨pv,WtI.wy (x:=x.wy Y) n1 h ho ht hp hs hk hy hyl,hX⟩,hl⟩
 less:=fun h=>Nat.lt_of_succ_lt h
theorem I5 (s:WSt) {dp:Nat} (p) (h:dp < s.ps.length):(s.enter dp p).ps.length=dp+2:=by
 unfold WSt.enter;simp;omega
theorem FL (c:WK) (s:WSt) (p) (v:Int) (l):(CC c s p v l).2.ps=s.ps:=by
 unfold CC;split <;> rfl
theorem PF (c:WK) (s:WSt) (a:Int) (d p):(doX c s a d p).2.ps=s.ps/\(doX c s a d p).2.vs.length=s.vs.length:=by
 unfold doX;split
 ·unfold Es
  split
  ·exact ⟨rfl,DL _ _⟩
  ·exact ⟨rfl,rfl⟩
 ·split
  ·split
   ·exact ⟨FL _ _ _ _ _,Eu _ _ _ _⟩
   ·exact ⟨rfl,rfl⟩
  ·split
   ·exact ⟨rfl,rfl⟩
   ·split
    ·split
     ·exact ⟨FL _ _ _ _ _,Eu _ _ _ _⟩
     ·exact ⟨rfl,rfl⟩
    ·split
     ·split
      ·exact ⟨FL _ _ _ _ _,Eu _ _ _ _⟩
      ·exact ⟨rfl,rfl⟩
     ·exact ⟨FL _ _ _ _ _,Eu _ _ _ _⟩
theorem Qe (c:WK) (kind:Nat) (a:Int) (dp:Nat) (d) (s:WSt) (hd:dp < s.ps.length):(obW c kind a dp d s).2.vs.length=s.vs.length/\((obW c kind a dp d s).2.ps.length=s.ps.length/\¬ ((kind=1/\(Ag d=7\/Ag d=8))\/kind=2)\/(obW c kind a dp d s).2.ps.length=dp+2):=by
 unfold obW;split
 ·exact ⟨rfl,Or.inr (I5 s _ hd)⟩
 ·rename_i g
  split
  ·rename_i f
   exact ⟨Eu _ _ _ _,Or.inl ⟨by rw [FL],by omega⟩⟩
  ·split
   ·exact ⟨rfl,Or.inr (I5 s _ hd)⟩
   ·rename_i f b
    exact ⟨(PF _ _ _ _ _).2,Or.inl ⟨by rw [(PF _ _ _ _ _).1],fun e=>by
     rcases e with ⟨-,e⟩ | e
     ·exact b e
     ·exact g e⟩⟩
theorem LJ (x) (w0:World) (K kf:Nat) (gs ls ms vs fs) (S:WtS x w0 K kf gs ls ms vs fs):PR (DS x w0 S.n1 vs.length (Bc x K gs ls ms vs fs)) w0 K vs.length ls.length ms.length fs:=by
 intro Y s X W kind a f k cs d funcs T V t N L R Q E B hk;obtain ⟨⟨H,h,G⟩,p,u⟩:=T;obtain ⟨A,rfl⟩:∃ A,k=A + 1:=by
  cases k with
  | zero=>exact t.elim
  | succ k=>exact ⟨k,rfl⟩
 have F:f < s.ps.length:=B;have P:=TC (x.wy Y) w0 K kf gs ls ms vs fs (S.wy Y) s H W h p kind a f A cs d funcs t N L.1 F E u hk;have b:=Qe (Bc x K gs ls ms vs fs) kind a f d s F;refine P.mono fun e U M=>?_;obtain ⟨O,⟨l,y⟩,i⟩:=M;refine ⟨O,fun q=>q=x.bw\/x.lv.ownBlock=some q\/l.ownBlock=some q,⟨⟨l,y,fun q=>Iff.rfl⟩,?_,?_⟩,fun q J=>?_,⟨i.os,i.tape,i.output,i.size,fun q g I=>i.block q g (fun e=>I ((G q).2 (h.xv.1 e)))⟩,?_,fun _ C=>?_⟩
 ·exact b.1.trans p
 ·show (obW (Bc x K gs ls ms vs fs) kind a f d s).2.ps.length<=20000
  rcases b.2 with e | e
  ·rw [e.1];exact u
  ·rw [e];omega
 ·by_cases g:q < W.heap.size
  ·have e:XV (x.wy Y) U q:=y.xv.2 J
   exact Or.inl ((G q).2 (h.xv.1 (i.mov q g e)))
  ·exact Or.inr (by omega)
 ·show f < (obW (Bc x K gs ls ms vs fs) kind a f d s).2.ps.length
  rcases b.2 with e | e
  ·rw [e.1];exact F
  ·rw [e];omega
 ·show f+1 < (obW (Bc x K gs ls ms vs fs) kind a f d s).2.ps.length
  rcases b.2 with e | e
  ·exact absurd C e.2
  ·rw [e];omega
end Go.Proofs.YtfffpjkcfnekaaaGreat.Ex
