/- Infer of any program. -/
import Derived.Test.YtfffpjkcfnekaaaGreatI13
import Derived.Test.YtfffpjkcfnekaaaGreatI07
set_option linter.unusedVariables false
set_option maxHeartbeats 8000000
set_option maxRecDepth 100000
namespace Go.Proofs.YtfffpjkcfnekaaaGreat.Ex
open Go.RowKit
open Go.Value renaming slice -> O, int -> zd, bool -> zg, agg -> zh, pointer -> zj, tuple -> zm
open Go.IntKind renaming i64 -> U
open Go.Obj renaming cells -> ze
open Go.Ending renaming returned -> zk
theorem JJ {n B:Nat} {W:World} {a:Option Addr} {ln lc:Nat} {Ls:List Lev} (h:AZ n B W (O a ln lc) Ls):a=none->lc=0:=by
 obtain ⟨l,c,-⟩:=h;intro e;rcases c.2 with ⟨h,-⟩ | ⟨g,k,i,h,-⟩
 ·injection h with b f d
 ·injection h with b f d
  rw [e] at b;cases b
theorem O4 (c:WC) {w1 w2:World} {Ls Fs:List Lev} {nv nf:Nat} (n1:1<=c.n) (hv:AZ c.n w1.heap.size w2 (O c.la c.ln c.lc) Ls) (hk:AZ c.n w1.heap.size w2 (O c.ka c.kn c.kc) Fs) (hap:Value.ownBlock (O c.la c.ln c.lc)=none\/Value.ownBlock (O c.la c.ln c.lc)≠Value.ownBlock (O c.ka c.kn c.kc)) (hb2:Ov w1 w2) (hlv:Ls.length=nv) (hlf:Fs.length=nf) :
  FN c w1 w2.heap.size (w2.heap.size+1)/\Di c w1 nv nf w2.heap.size (w2.heap.size+1) ⟨Ls,Fs,true⟩ ((w2.alloc (.cells c.cs.toArray 110)).alloc (ze #[zg true] 4)):=by
 have A:∀ a,c.la=some a->a.off=0/\a.spot=none/\w1.heap.size<=a.block/\a.block < w2.heap.size/\(∀ j,w2.frozen? ⟨a.block,j,none⟩=false)/\ET w2 a.block:=fun a e=>by
  rw [e] at hv;obtain ⟨i,g,f,d,p⟩:=GP hv;obtain ⟨-,B,fr,t⟩:=B9 hv a.block (by simp [Value.ownBlock]);exact ⟨i,g,f,d,p,fun s y l=>by rw [t] at l;injection l with l;injection l with E u;exact absurd u (by decide)⟩
 have z:∀ a,c.ka=some a->a.off=0/\a.spot=none/\w1.heap.size<=a.block/\a.block < w2.heap.size/\(∀ j,w2.frozen? ⟨a.block,j,none⟩=false)/\ET w2 a.block:=fun a e=>by
  rw [e] at hk;obtain ⟨i,g,f,d,p⟩:=GP hk;obtain ⟨-,B,fr,t⟩:=B9 hk a.block (by simp [Value.ownBlock]);exact ⟨i,g,f,d,p,fun s y l=>by rw [t] at l;injection l with l;injection l with E u;exact absurd u (by decide)⟩
 have C:∀ k,XI c (w2.heap.size+1) w2 k->ET w2 k\/w2.heap.size<=k:=fun k h=>by
  rcases h with ⟨a,e,rfl⟩ | ⟨a,e,rfl⟩ | rfl
  ·exact Or.inl (A a e).2.2.2.2.2
  ·exact Or.inl (z a e).2.2.2.2.2
  ·exact Or.inr (by omega)
 have q:Ov w2 ((w2.alloc (.cells c.cs.toArray 110)).alloc (ze #[zg true] 4)):=(bA w2 _).alloc (by simp) _;refine ⟨⟨fun a e=>?_,fun a e=>?_,fun a b G F=>?_,?_,by omega⟩,⟨Ac hb2 q,(EV n1 hv C).over (FP c _) q,(EV n1 hk C).over (FP c _) q,hlv,hlf,?_,?_,?_,fun a e=>?_,fun a e=>?_⟩⟩
 ·obtain ⟨i,g,f,d,-⟩:=A a e;exact ⟨i,g,f,by omega,by omega⟩
 ·obtain ⟨i,g,f,d,-⟩:=z a e;exact ⟨i,g,f,by omega,by omega⟩
 ·rw [G,F] at hap
  rcases hap with h | h
  ·simp [Value.ownBlock] at h
  ·intro e;apply h;simp [Value.ownBlock,e]
 ·have:=hb2.size;omega
 ·simp [go_sem]
 ·simp [go_sem]
 ·exact (Ad.new c.cs 110 w2).over (bA _ _)
 ·obtain ⟨i,g,f,d,p,-⟩:=A a e
  exact ⟨Nat.lt_of_lt_of_le d q.size,fun j=>((Am q).2 _ _ d).trans (p j)⟩
 ·obtain ⟨i,g,f,d,p,-⟩:=z a e
  exact ⟨Nat.lt_of_lt_of_le d q.size,fun j=>((Am q).2 _ _ d).trans (p j)⟩
def Sf (c:WC) (K kf:Nat) (gs:List (Int × Int)) (vs:List (Bool × Lab)) (ls:List Lab) (fs:List FnD) (l:List D) (w0:World) (bw:Nat) (x:Value × World) (N:Nat):Prop:=
 ∃ bm k,x.1=zj (some ⟨bm,0,none⟩)/\FN c w0 bw bm/\Di c w0 vs.length fs.length bw bm (Ch c.n K kf (vs.map Prod.fst) (ls.map (AH (AE gs) c.n)) fs l (Cy gs c.n vs fs.length) k) x.2/\bw < x.2.heap.size /\
  N=2*DS c.n (Ch c.n K kf (vs.map Prod.fst) (ls.map (AH (AE gs) c.n)) fs l (Cy gs c.n vs fs.length) k)+(if (Ch c.n K kf (vs.map Prod.fst) (ls.map (AH (AE gs) c.n)) fs l (Cy gs c.n vs fs.length) k).more=true then 1 else 0) /\
  ∀ j,j < k->(Ch c.n K kf (vs.map Prod.fst) (ls.map (AH (AE gs) c.n)) fs l (Cy gs c.n vs fs.length) j).more=true
def Js (K kf:Nat) (m:Int) (vn yn on:Nat) (gs:List (Int × Int)) (sp:List Int) (ls ms:List Lab) (vs:List (Bool × Lab)) (fs:List FnD) (l:List D) (P:Int->Prop) (w:World) (e:Ending) (w':World):Prop:=
 ∃ why:Int,P why/\Ov w w'/\((why≠0/\e=zk (zm #[zh #[O none 0 0,O none 0 0],zd U why])) \/
  (why=0/\okP K kf m vn yn on gs sp ls ms vs fs l/\∃ (n:Nat) (st:ISt) (la:Option Addr) (ln lc:Nat) (ka:Option Addr) (kn kc:Nat),m=n/\e=zk (zm #[zh #[O la ln lc,O ka kn kc],zd U 0])/\Cp w' (O la ln lc) st.vs/\Cp w' (O ka kn kc) st.fs/\(∀ x∈st.vs,x.len n)/\(∀ x∈st.fs,x.len n)/\st.vs.length=vn/\st.fs.length=fs.length/\Br n K kf gs vs ls fs l st/\(la=none->lc=0)/\(ka=none->kc=0)))
theorem P5 (K kf n:Nat) (h1:1<=n) (h6:n<=6) (ga gn gc sa sn sc ya yn yc oa on oc va vn vc fa fn fc ba bn bc gs sp ls ms vs fs l) (w:World) (h:Bg K kf (n:Int) ga gn gc sa sn sc ya yn yc oa on oc va vn vc fa fn fc ba bn bc gs sp ls ms vs fs l w)
  (P:Int->Prop) (KS:∀ W,Ov w W->Calls Tryz.prog 53 #[zh #[zd U (n:Int),O ga gn gc,O sa sn sc,O ya yn yc,O oa on oc,O va vn vc,O fa fn fc,O ba bn bc]] W fun e w'=>∃ why:Int,e=zk (zd U why)/\P why/\Ov W w') (hP:P 0->okP K kf (n:Int) vn yn on gs sp ls ms vs fs l) :
  Calls Tryz.prog 15 #[zh #[zd U (n:Int),O ga gn gc,O sa sn sc,O ya yn yc,O oa on oc,O va vn vc,O fa fn fc,O ba bn bc]] w (Js K kf (n:Int) vn yn on gs sp ls ms vs fs l P w):=by
 obtain rfl:vn=vs.length:=by obtain ⟨-,a,c,he,-⟩:=h.vars;injection he
 obtain rfl:yn=ls.length:=by obtain ⟨-,a,c,he,-⟩:=h.ins;injection he
 obtain rfl:fn=fs.length:=by obtain ⟨-,a,c,he,-⟩:=h.funcs;injection he
 have R:Ov w ((w.alloc (ze #[zd U (n:Int),O ga gn gc,O sa sn sc,O ya ls.length yc,O oa on oc,O va vs.length vc,O fa fs.length fc,O ba bn bc] 31)).alloc (ze #[O none 0 0,O none 0 0] 44)):=(bA w _).alloc (by simp) _;have K1:=Aa (KS _ R);have KL:=Aa fun W (hW:Ov w W) (d:okP K kf (n:Int) vs.length ls.length on gs sp ls ms vs fs l)=>RF n h1 h6 ga gn gc sa sn sc ya ls.length yc oa on oc va vs.length vc fa fs.length fc ba bn bc gs vs W (Aj h.grants hW) d.chk (h.vars.over hW) d.labs.2.1 d.vars d.funcs;have g:Ad [zd U (n:Int),O ga gn gc,O sa sn sc,O ya ls.length yc,O oa on oc,O va vs.length vc,O fa fs.length fc,O ba bn bc] ((w.alloc (ze #[zd U (n:Int),O ga gn gc,O sa sn sc,O ya ls.length yc,O oa on oc,O va vs.length vc,O fa fs.length fc,O ba bn bc] 31)).alloc (ze #[O none 0 0,O none 0 0] 44)) w.heap.size:=(Ad.new [zd U (n:Int),O ga gn gc,O sa sn sc,O ya ls.length yc,O oa on oc,O va vs.length vc,O fa fs.length fc,O ba bn bc] 31 w).over (bA _ _);have X:((w.alloc (ze #[zd U (n:Int),O ga gn gc,O sa sn sc,O ya ls.length yc,O oa on oc,O va vs.length vc,O fa fs.length fc,O ba bn bc] 31)).alloc (ze #[O none 0 0,O none 0 0] 44)).heap[w.heap.size+1]? = some (ze #[O none 0 0,O none 0 0] 44):=by
  have:=C6 (w.alloc (ze #[zd U (n:Int),O ga gn gc,O sa sn sc,O ya ls.length yc,O oa on oc,O va vs.length vc,O fa fs.length fc,O ba bn bc] 31)) (ze #[O none 0 0,O none 0 0] 44);simpa using this
 have HP:=Aa hP;have H:=Aa h;obtain ⟨V0,C⟩:=nm (((w.alloc (ze #[zd U (n:Int),O ga gn gc,O sa sn sc,O ya ls.length yc,O oa on oc,O va vs.length vc,O fa fs.length fc,O ba bn bc] 31)).alloc (ze #[O none 0 0,O none 0 0] 44)));have ae:V0.heap.size=w.heap.size+1+1:=by rw [C];simp
 rw [<-C] at R g X;have bz:=Aa R;have bp:=Aa g;have bv:=Aa X;have aw:=Aa ae;rw [C] at g;obtain ⟨c0,c1,c2,c3,c4,c5,c6,c7⟩:=rc8 g;clear R g X h hP ae KS;go_enter Tryz.func15,Tryz.ntmps15;go_wp2_with fail;refine (K1.o).mono ?_;rintro e A ⟨why,rfl,J,s⟩;rw [<-C] at s;clear c0 c1 c2 c3 c4 c5 c6 c7 K1;have I:=bp.o.over s;have f:A.heap[w.heap.size+1]? = some (ze #[O none 0 0,O none 0 0] 44):=(s.block _ (by rw [aw.o];omega)).trans bv.o;have T:=Aa (Ac bz.o (by simpa using s));have G:w.heap.size+1+1<=A.heap.size:=by have:=s.size;rw [aw.o] at this;exact this
 have r0:A.cell? ⟨w.heap.size+1,0,none⟩=some (O none 0 0):=by rw [Lib.cell_of_heap f];rfl
 have r1:A.cell? ⟨w.heap.size+1,1,none⟩=some (O none 0 0):=by rw [Lib.cell_of_heap f];rfl
 have rz:∀ j,A.frozen? ⟨w.heap.size+1,j,none⟩=false:=fun j=>by simp [World.frozen?,f]
 have br:=Aa f;have z:=Aa G;by_cases hz:why=0
 ·subst hz
  have d:=HP.o J;have ax:=Aa d;have ab:=Aa J;have ar:=Aa (KL.o A T.o d);obtain ⟨c0,c1,c2,c3,c4,c5,c6,c7⟩:=rc8 I;clear d J s I f C G KL HP;go_wp2_with fail;refine (ar.o).mono ?_;rintro e F ⟨la,ln,lc,ka,kn,kc,rfl,hv,hk,ah,Y⟩;have hS:=O4 (⟨n,ga,gn,gc,sa,sn,sc,ya,ls.length,yc,oa,on,oc,va,vs.length,vc,fa,fs.length,fc,ba,bn,bc,la,ln,lc,ka,kn,kc⟩:WC) h1 hv hk ah Y (nv:=vs.length) (nf:=fs.length) (by simp [Cx]) (by simp);have av:=Aa hS;have ay:=Aa (And.intro (JJ hv) (JJ hk));have ck:=Aa Y;have t:=H.o.over T.o;have d:=ax.o;have KA:Hx (∀ (bm:Nat) (st:ISt) (W:World),FN (⟨n,ga,gn,gc,sa,sn,sc,ya,ls.length,yc,oa,on,oc,va,vs.length,vc,fa,fs.length,fc,ba,bn,bc,la,ln,lc,ka,kn,kc⟩:WC) A F.heap.size bm->Di (⟨n,ga,gn,gc,sa,sn,sc,ya,ls.length,yc,oa,on,oc,va,vs.length,vc,fa,fs.length,fc,ba,bn,bc,la,ln,lc,ka,kn,kc⟩:WC) A vs.length fs.length F.heap.size bm st W->Calls Tryz.prog 55 #[zh #[zd U (n:Int),O ga gn gc,O sa sn sc,O ya ls.length yc,O oa on oc,O va vs.length vc,O fa fs.length fc,O ba bn bc,O la ln lc,O ka kn kc],.func (.func 56) #[] #[zj (some ⟨F.heap.size,0,none⟩),zj (some ⟨bm,0,none⟩)]] W fun e W'=>e=zk (zm #[])/\Di (⟨n,ga,gn,gc,sa,sn,sc,ya,ls.length,yc,oa,on,oc,va,vs.length,vc,fa,fs.length,fc,ba,bn,bc,la,ln,lc,ka,kn,kc⟩:WC) A vs.length fs.length F.heap.size bm (Eh n K kf (vs.map Prod.fst) (ls.map (AH (AE gs) n)) fs l st) W'/\FrW (XI (⟨n,ga,gn,gc,sa,sn,sc,ya,ls.length,yc,oa,on,oc,va,vs.length,vc,fa,fs.length,fc,ba,bn,bc,la,ln,lc,ka,kn,kc⟩:WC) bm) W W'):=fun bm st W S E=>
   R2 (Si (c:=(⟨n,ga,gn,gc,sa,sn,sc,ya,ls.length,yc,oa,on,oc,va,vs.length,vc,fa,fs.length,fc,ba,bn,bc,la,ln,lc,ka,kn,kc⟩:WC)) h1 h6 t.grants d.chk d.vars S) (B7 n) Qv (Aa (Qo (⟨n,ga,gn,gc,sa,sn,sc,ya,ls.length,yc,oa,on,oc,va,vs.length,vc,fa,fs.length,fc,ba,bn,bc,la,ln,lc,ka,kn,kc⟩:WC) A vs.length F.heap.size bm fs gs h1 t.grants d.chk S)) vs t.vars rfl ls t.ins (fun b hb=>d.labs.1 b (List.mem_append_left _ hb)) rfl d.ins kf t.funcs d.funcs d.body l t.main d.main d.many st W E
  have ad:Hx (∀ st,C0 n vs.length fs.length st (Eh n K kf (vs.map Prod.fst) (ls.map (AH (AE gs) n)) fs l st)):=fun st=>MY n K kf vs.length ls.length on _ _ fs l st d.body d.main;obtain ⟨μ,hμ⟩:=Ir (Sf (⟨n,ga,gn,gc,sa,sn,sc,ya,ls.length,yc,oa,on,oc,va,vs.length,vc,fa,fs.length,fc,ba,bn,bc,la,ln,lc,ka,kn,kc⟩:WC) K kf gs vs ls fs l A F.heap.size);have HM:=Aa hμ;clear hv hk ah hS t d hμ Y c0 c1 c2 c3 c4 c5 c6 c7 ar r0 r1 rz;go_wp2_with fail;go_loopw [6] (fun x wr=>∃ N,Sf (⟨n,ga,gn,gc,sa,sn,sc,ya,ls.length,yc,oa,on,oc,va,vs.length,vc,fa,fs.length,fc,ba,bn,bc,la,ln,lc,ka,kn,kc⟩:WC) K kf gs vs ls fs l A F.heap.size (x,wr) N) (fun x wr=>μ (x,wr))
  case atStart=>exact ⟨_,F.heap.size+1,0,rfl,av.o.1,av.o.2,by simp <;> omega,rfl,fun j hj=>absurd hj (by omega)⟩
  case round=>
   obtain ⟨N,hN⟩:=hrel;obtain ⟨⟨bm,k,hx,S,E,Q,Z,q⟩,-⟩:=HM.o _ _ hN;clear hN;dsimp only at hx E Q;subst hx;have bt:=Aa Z;have az:=Aa q;have ai:=E;by_cases hm:((Ch n K kf (vs.map Prod.fst) (ls.map (AH (AE gs) n)) fs l (Cy gs n vs fs.length) k)).more=true
   ·have m0:wr.cell? ⟨bm,0,none⟩=some (zg true):=by have:=E.more;rw [<-hm];exact this
    have mz:wr.frozen? ⟨bm,0,none⟩=false:=E.mz;have L:=Di.setM (b:=false) h1 S E;have au:=Aa (KA.o bm _ _ S L);have HC:=Aa S;have HL:=Aa Q;have a0:=Aa hm;have B:Ad [zd U (n:Int),O ga gn gc,O sa sn sc,O ya ls.length yc,O oa on oc,O va vs.length vc,O fa fs.length fc,O ba bn bc,O la ln lc,O ka kn kc] (wr.setCell ⟨bm,0,none⟩ (zg false)) F.heap.size:=L.row;obtain ⟨c0,c1,c2,c3,c4,c5,c6,c7,c8,c9⟩:=CA B;have a2:=Aa (And.intro L.lv L.lf);clear B E L ai Z q Q S hm;go_wp2_with fail;refine (au.o).mono ?_;rintro e w3 ⟨rfl,aa,aj⟩;clear c0 c1 c2 c3 c4 c5 c6 c7 c8 c9 m0 mz au;have m0:=aa.more;have a3:=Aa aa;have bu:=Aa aj;clear aa aj;go_wp2_with fail;have bb:F.heap.size < w3.heap.size:=by have h1:=bu.o.size;have h2:=HL.o;simp [World.setCell] at h1;omega
    obtain ⟨-,b1,b2⟩:=ad.o ⟨(Ch n K kf (vs.map Prod.fst) (ls.map (AH (AE gs) n)) fs l (Cy gs n vs fs.length) k).vs,(Ch n K kf (vs.map Prod.fst) (ls.map (AH (AE gs) n)) fs l (Cy gs n vs fs.length) k).fs,false⟩ a2.o;have hP:Sf (⟨n,ga,gn,gc,sa,sn,sc,ya,ls.length,yc,oa,on,oc,va,vs.length,vc,fa,fs.length,fc,ba,bn,bc,la,ln,lc,ka,kn,kc⟩:WC) K kf gs vs ls fs l A F.heap.size (zj (some ⟨w3.heap.size,0,none⟩),_) _:=⟨w3.heap.size,k+1,rfl,HC.o.newM a3.o bb,Di.newM h1 HC.o a3.o,by simp <;> omega,rfl,fun j hj=>by
     by_cases hjk:j=k
     ·subst hjk;exact a0.o
     ·exact az.o j (by omega)⟩
    refine ⟨⟨_,hP⟩,Nat.lt_of_le_of_lt ((HM.o _ _ hP).2 _ hP) ?_⟩;rw [bt.o,if_pos a0.o];have bh:DS n ⟨(Ch n K kf (vs.map Prod.fst) (ls.map (AH (AE gs) n)) fs l (Cy gs n vs fs.length) k).vs,(Ch n K kf (vs.map Prod.fst) (ls.map (AH (AE gs) n)) fs l (Cy gs n vs fs.length) k).fs,false⟩=DS n (Ch n K kf (vs.map Prod.fst) (ls.map (AH (AE gs) n)) fs l (Cy gs n vs fs.length) k):=rfl;rw [bh] at b1 b2;show 2*DS n (Eh n K kf (vs.map Prod.fst) (ls.map (AH (AE gs) n)) fs l ⟨(Ch n K kf (vs.map Prod.fst) (ls.map (AH (AE gs) n)) fs l (Cy gs n vs fs.length) k).vs,(Ch n K kf (vs.map Prod.fst) (ls.map (AH (AE gs) n)) fs l (Cy gs n vs fs.length) k).fs,false⟩)+(if (Eh n K kf (vs.map Prod.fst) (ls.map (AH (AE gs) n)) fs l ⟨(Ch n K kf (vs.map Prod.fst) (ls.map (AH (AE gs) n)) fs l (Cy gs n vs fs.length) k).vs,(Ch n K kf (vs.map Prod.fst) (ls.map (AH (AE gs) n)) fs l (Cy gs n vs fs.length) k).fs,false⟩).more=true then 1 else 0) < 2*DS n (Ch n K kf (vs.map Prod.fst) (ls.map (AH (AE gs) n)) fs l (Cy gs n vs fs.length) k)+1;split
    ·rename_i bd
     rcases b2 bd with h | h
     ·cases h
     ·omega
    ·omega
   ·have V:((Ch n K kf (vs.map Prod.fst) (ls.map (AH (AE gs) n)) fs l (Cy gs n vs fs.length) k)).more=false:=by simpa using hm
    have m0:wr.cell? ⟨bm,0,none⟩=some (zg false):=by have:=E.more;rw [<-V];exact this
    have i:wr.heap[w.heap.size+1]? = some (ze #[O none 0 0,O none 0 0] 44):=(E.below.block _ (by have:=z.o;omega)).trans br.o;have r0:wr.cell? ⟨w.heap.size+1,0,none⟩=some (O none 0 0):=by rw [Lib.cell_of_heap i];rfl
    have r1:wr.cell? ⟨w.heap.size+1,1,none⟩=some (O none 0 0):=by rw [Lib.cell_of_heap i];rfl
    have rz:∀ j,wr.frozen? ⟨w.heap.size+1,j,none⟩=false:=fun j=>by simp [World.frozen?,i]
    have bw:=Aa i;have B:Ad [zd U (n:Int),O ga gn gc,O sa sn sc,O ya ls.length yc,O oa on oc,O va vs.length vc,O fa fs.length fc,O ba bn bc,O la ln lc,O ka kn kc] wr F.heap.size:=E.row;have c8:=B 8 _ rfl;have c9:=B 9 _ rfl;have HI:=Aa E;have HC:=Aa S;have a1:=Aa V;clear B E ai Z q Q S hm V i;go_wp2_with fail;have bk:Ov w ((wr.setCell ⟨w.heap.size+1,0,none⟩ (O la ln lc)).setCell ⟨w.heap.size+1,1,none⟩ (O ka kn kc)):=((T.o.trans (HI.o.below.mono (by have:=z.o;omega))).setCell (p:=⟨w.heap.size+1,0,none⟩) (by simp) _).setCell (p:=⟨w.heap.size+1,1,none⟩) (by simp) _;have ag:∀ j u,wr.cell? ⟨w.heap.size+1,j,none⟩=some u->∃ a m c,u=O a m c:=fun j u M=>by
     rw [Lib.cell_of_heap bw.o] at M
     match j,M with
     | 0,M=>simp at M;exact ⟨_,_,_,M.symm⟩
     | 1,M=>simp at M;exact ⟨_,_,_,M.symm⟩
     | j+2,M=>simp at M
    have bj:=J1 (x:=O la ln lc) (y:=O ka kn kc) HI.o.vs ag (fun a m c e=>by injection e with e1;have:=(HC.o.la a e1).2.2.1;have:=z.o;omega);have bi:=J1 (x:=O la ln lc) (y:=O ka kn kc) HI.o.fs ag (fun a m c e=>by injection e with e1;have:=(HC.o.ka a e1).2.2.1;have:=z.o;omega);have be:k≠0:=fun e=>by have:=a1.o;rw [e] at this;cases this
    obtain ⟨k',bf⟩:=Nat.exists_eq_succ_of_ne_zero be;refine bodyPost_ret (v:=zm #[zh #[O la ln lc,O ka kn kc],zd U 0]) (by simp [results,Tryz.results15,go_sem,r0,r1]) rfl ⟨0,ab.o,bk,Or.inr ⟨rfl,ax.o,n,_,la,ln,lc,ka,kn,kc,rfl,rfl,bj,bi,HI.o.vs.len,HI.o.fs.len,HI.o.lv,HI.o.lf,⟨k',?_,a1.o,fun j hj=>az.o (j+1) (by omega)⟩,ay.o.1,ay.o.2⟩⟩;rw [bf]
 ·have HZ:=Aa hz
  have ab:=Aa J;clear J s I f C G KL HP;go_wp2_with fail;refine bodyPost_ret (v:=zm #[zh #[O none 0 0,O none 0 0],zd U why]) ?_ rfl ⟨why,ab.o,?_,Or.inl ⟨HZ.o,rfl⟩⟩
  ·simp [results,Tryz.results15,go_sem,r0,r1]
  ·exact (T.o.setCell (p:=⟨w.heap.size+1,0,none⟩) (by simp) _).setCell (p:=⟨w.heap.size+1,1,none⟩) (by simp) _
theorem P6 (K kf:Nat) (m:Int) (ga gn gc sa sn sc ya yn yc oa on oc va vn vc fa fn fc ba bn bc gs sp ls ms vs fs l) (w:World)
  (P:Int->Prop) (KS:∀ W,Ov w W->Calls Tryz.prog 53 #[zh #[zd U m,O ga gn gc,O sa sn sc,O ya yn yc,O oa on oc,O va vn vc,O fa fn fc,O ba bn bc]] W fun e w'=>∃ why:Int,e=zk (zd U why)/\P why/\Ov W w') (hP:¬ P 0) :
  Calls Tryz.prog 15 #[zh #[zd U m,O ga gn gc,O sa sn sc,O ya yn yc,O oa on oc,O va vn vc,O fa fn fc,O ba bn bc]] w (Js K kf m vn yn on gs sp ls ms vs fs l P w):=by
 have f:Ov w ((w.alloc (ze #[zd U m,O ga gn gc,O sa sn sc,O ya yn yc,O oa on oc,O va vn vc,O fa fn fc,O ba bn bc] 31)).alloc (ze #[O none 0 0,O none 0 0] 44)):=(bA w _).alloc (by simp) _;have y:=Aa (KS _ f);have d:Ad [zd U m,O ga gn gc,O sa sn sc,O ya yn yc,O oa on oc,O va vn vc,O fa fn fc,O ba bn bc] ((w.alloc (ze #[zd U m,O ga gn gc,O sa sn sc,O ya yn yc,O oa on oc,O va vn vc,O fa fn fc,O ba bn bc] 31)).alloc (ze #[O none 0 0,O none 0 0] 44)) w.heap.size:=(Ad.new [zd U m,O ga gn gc,O sa sn sc,O ya yn yc,O oa on oc,O va vn vc,O fa fn fc,O ba bn bc] 31 w).over (bA _ _);have c:Ad [O none 0 0,O none 0 0] ((w.alloc (ze #[zd U m,O ga gn gc,O sa sn sc,O ya yn yc,O oa on oc,O va vn vc,O fa fn fc,O ba bn bc] 31)).alloc (ze #[O none 0 0,O none 0 0] 44)) (w.heap.size+1):=by
  have:=Ad.new [O none 0 0,O none 0 0] 44 (w.alloc (ze #[zd U m,O ga gn gc,O sa sn sc,O ya yn yc,O oa on oc,O va vn vc,O fa fn fc,O ba bn bc] 31));simpa using this
 have rf:∀ j,((w.alloc (ze #[zd U m,O ga gn gc,O sa sn sc,O ya yn yc,O oa on oc,O va vn vc,O fa fn fc,O ba bn bc] 31)).alloc (ze #[O none 0 0,O none 0 0] 44)).frozen? ⟨w.heap.size+1,j,none⟩=false:=fun j=>by simp [go_sem]
 have u:=Aa f;have k:=Aa c;have q:=Aa rf;have M:=Aa hP;obtain ⟨c0,c1,J,I,H,G,F,E⟩:=rc8 d;clear f d c rf hP KS;go_enter Tryz.func15,Tryz.ntmps15;go_wp2_with fail;refine (y.o).mono ?_;rintro e z ⟨why,rfl,g,b⟩;have i:=k.o.over b;obtain ⟨B,A⟩:=rc2 i;have N:∀ j,z.frozen? ⟨w.heap.size+1,j,none⟩=false:=fun j=>((Am b).2 _ _ (by simp)).trans (q.o j);have t:=Aa (Ac u.o b);have C:why≠0:=fun e=>M.o (e ▸ g);have L:=Aa C;have s:=Aa g;clear g b i c0 c1 J I H G F E y;go_wp2_with fail;refine bodyPost_ret (v:=zm #[zh #[O none 0 0,O none 0 0],zd U why]) ?_ rfl ⟨why,s.o,?_,Or.inl ⟨L.o,rfl⟩⟩
 ·simp [results,Tryz.results15,go_sem,B,A]
 ·exact (t.o.setCell (p:=⟨w.heap.size+1,0,none⟩) (by simp) _).setCell (p:=⟨w.heap.size+1,1,none⟩) (by simp) _
theorem RH (K kf:Nat) (m:Int) (ga gn gc sa sn sc ya yn yc oa on oc va vn vc fa fn fc ba bn bc gs sp ls ms vs fs l) (w:World) (h:Bg K kf m ga gn gc sa sn sc ya yn yc oa on oc va vn vc fa fn fc ba bn bc gs sp ls ms vs fs l w)
  (P:Int->Prop) (KS:∀ W,Ov w W->Calls Tryz.prog 53 #[zh #[zd U m,O ga gn gc,O sa sn sc,O ya yn yc,O oa on oc,O va vn vc,O fa fn fc,O ba bn bc]] W fun e w'=>∃ why:Int,e=zk (zd U why)/\P why/\Ov W w') (hP:P 0->okP K kf m vn yn on gs sp ls ms vs fs l) :
  Calls Tryz.prog 15 #[zh #[zd U m,O ga gn gc,O sa sn sc,O ya yn yc,O oa on oc,O va vn vc,O fa fn fc,O ba bn bc]] w (Js K kf m vn yn on gs sp ls ms vs fs l P w):=by
 by_cases h0:P 0
 ·obtain ⟨n,rfl,n1,n6,-⟩:=Fh (hP h0).chk
  exact P5 K kf n n1 n6 ga gn gc sa sn sc ya yn yc oa on oc va vn vc fa fn fc ba bn bc gs sp ls ms vs fs l w h P KS hP
 ·exact P6 K kf m ga gn gc sa sn sc ya yn yc oa on oc va vn vc fa fn fc ba bn bc gs sp ls ms vs fs l w P KS h0
def sm1:D:=sD 3 0 0 (xD 0 0 []) [] [] []
def sm2:D:=sD 4 0 0 (xD 2 0 []) [] [] []
theorem Ay (n:Int) (h:0<=n) (h2:n<=100):Cq n:=⟨by omega,by omega⟩
theorem BA {s:Nat} {R:List Value->D->Prop} {w:World}:XS s R w (O none 0 0) []:=⟨Nat.zero_le _,none,0,rfl,fun h=>absurd rfl h⟩
theorem BN {w:World}:Au w (O none 0 0) []:=⟨none,0,rfl,fun h=>absurd rfl h⟩
theorem Ie {bi bo bv bm:Nat} {w:World} (h:IQ bi bo bv bm w):Bg 1 1 1 none 0 0 none 0 0 (some ⟨bi,0,none⟩) 1 1 (some ⟨bo,0,none⟩) 1 1 (some ⟨bv,0,none⟩) 1 1 none 0 0 (some ⟨bm,0,none⟩) 2 2 [] [] [⟨[],[]⟩] [⟨[],[]⟩] [(false,⟨[],[]⟩)] [] [sm1,sm2] w:=by
 have f:∀ b,Ad [O none 0 0,O none 0 0] w b->AX w (O (some ⟨b,0,none⟩) 1 1) [⟨[],[]⟩]:=fun b l=>by
  refine ⟨by simp [maxLen],some ⟨b,0,none⟩,1,rfl,fun _=>⟨b,0,rfl,fun i k=>?_⟩⟩;have:i=0:=by simp at k;omega
  subst this;exact ⟨_,_,l 0 _ rfl,l 1 _ rfl,BN,BN⟩
 refine ⟨Ay 1 (by omega) (by omega),⟨none,0,rfl,fun h=>absurd rfl h⟩,⟨none,0,rfl,fun h=>absurd rfl h⟩,by simp,f _ h.ins,f _ h.outs,?_,?_,?_,fun h=>absurd h (by simp),fun h=>absurd h (by simp)⟩
 ·refine ⟨by simp [maxLen],some ⟨bv,0,none⟩,1,rfl,fun _=>⟨bv,0,rfl,fun i k=>?_⟩⟩
  have:i=0:=by simp at k;omega
  subst this;exact ⟨_,_,h.vars 0 _ rfl,h.vars 1 _ rfl,h.vars 2 _ rfl,BN,BN⟩
 ·exact ⟨by simp,none,0,rfl,fun h=>absurd rfl h⟩
 ·refine ⟨by simp [maxLen],some ⟨bm,0,none⟩,2,rfl,fun _=>⟨bm,0,rfl,fun i d c=>?_⟩⟩
  match i,c with
  | 0,c=>
   simp at c;subst c;refine ⟨B0.take 9,rfl,fun j u g=>?_,3,0,0,_,_,_,xD 0 0 [],_,[],_,[],_,[],rfl,rfl,Ay _ (by omega) (by omega),Ay _ (by omega) (by omega),Ay _ (by omega) (by omega),⟨0,0,_,[],rfl,rfl,Ay _ (by omega) (by omega),Ay _ (by omega) (by omega),BA⟩,BA,BA,BA⟩;rw [List.getElem?_take] at g;split at g
   ·have:=h.main j u g
    simpa using this
   ·cases g
  | 1,c=>
   simp at c;subst c;refine ⟨B0.drop 9,rfl,fun j u g=>?_,4,0,0,_,_,_,xD 2 0 [],_,[],_,[],_,[],rfl,rfl,Ay _ (by omega) (by omega),Ay _ (by omega) (by omega),Ay _ (by omega) (by omega),⟨2,0,_,[],rfl,rfl,Ay _ (by omega) (by omega),Ay _ (by omega) (by omega),BA⟩,BA,BA,BA⟩;rw [List.getElem?_drop] at g;have:=h.main (9+j) u g;simpa [Nat.add_assoc] using this
  | i+2,c=>simp at c
theorem Rr:AF ((1:Nat):Int) 1 (Ao sm2)=0:=by
 simp [AF,sm2,BC,AO,Bm,Ba,Bf,xD,AD,A5,AC]
theorem Od:Cs 1 1 1 1 (([]:List FnD).length:Int) [] sm1:=by
 unfold Cs;simp [sm1,xD,AD,AC]
theorem Oc:Cs 1 1 1 1 (([]:List FnD).length:Int) [] sm2:=by
 have h:=Rr;unfold Cs;have e:Af sm2=4:=rfl;have b:Ae sm2=0:=rfl;rw [e,b];exact ⟨by decide,fun h=>absurd h (by decide),fun h=>absurd h (by decide),fun h=>absurd h (by decide),fun _=>h,fun h=>absurd h (by decide),fun _=>by decide⟩
theorem Gu:okP 1 1 1 1 1 1 [] [] [⟨[],[]⟩] [⟨[],[]⟩] [(false,⟨[],[]⟩)] [] [sm1,sm2]:=by
 refine ⟨rfl,by simp,⟨?_,?_,?_⟩,by omega,by omega,by omega,by simp,by decide,fun i h=>absurd h (by simp),?_⟩
 ·intro b f
  simp at f;subst f;rfl
 ·intro v d
  simp at d;subst d;rfl
 ·intro v d _
  simp at d;subst d;exact ⟨rfl,rfl⟩
 ·intro s c
  simp at c;rcases c with rfl | rfl
  ·exact ⟨Od,fun s c=>absurd c (by simp [sm1]),fun s c=>absurd c (by simp [sm1])⟩
  ·exact ⟨Oc,fun s c=>absurd c (by simp [sm2]),fun s c=>absurd c (by simp [sm2])⟩
theorem DD:Ey.xP 1 1 1 1 1 1 0 [] [] [⟨[],[]⟩] [⟨[],[]⟩] [(false,⟨[],[]⟩)] [] [sm1,sm2]:=by
 refine ⟨Gu.chk,by simp,Gu.speak,Gu.labs,⟨by have:=Gu.many;omega,fun f c=>absurd c (by simp),?_⟩,fun i h=>absurd h (by simp),?_⟩
 ·intro s b
  simp at b;rcases b with rfl | rfl
  ·exact ⟨by omega,fun s b=>absurd b (by simp [sm1]),fun s b=>absurd b (by simp [sm1])⟩
  ·exact ⟨by omega,fun s b=>absurd b (by simp [sm2]),fun s b=>absurd b (by simp [sm2])⟩
 ·intro s b
  simp at b;rcases b with rfl | rfl
  ·exact ⟨⟨Od,fun _=>rfl,fun _=>rfl,fun _=>rfl,fun _=>rfl,fun _=>rfl,fun _=>rfl⟩,fun s b=>absurd b (by simp [sm1]),fun s b=>absurd b (by simp [sm1])⟩
  ·exact ⟨⟨Oc,fun _=>rfl,fun _=>rfl,fun h=>absurd h (by decide),fun _=>rfl,fun _=>rfl,fun _=>rfl⟩,fun s b=>absurd b (by simp [sm2]),fun s b=>absurd b (by simp [sm2])⟩
theorem EX {n K kf:Nat} {gs:List (Int × Int)} {vs:List (Bool × Lab)} {ls:List Lab} {fs:List FnD} {main:List D} {st:ISt} (h:Br n K kf gs vs ls fs main st):Fu n K kf (vs.map Prod.fst) (ls.map (AH (AE gs) n)) fs main st true=true:=by
 obtain ⟨k,hk,c,-⟩:=h;have b:st=Eh n K kf (vs.map Prod.fst) (ls.map (AH (AE gs) n)) fs main ⟨(Ch n K kf (vs.map Prod.fst) (ls.map (AH (AE gs) n)) fs main (Cy gs n vs fs.length) k).vs,(Ch n K kf (vs.map Prod.fst) (ls.map (AH (AE gs) n)) fs main (Cy gs n vs fs.length) k).fs,false⟩:=hk;rw [b] at c;obtain ⟨f,d⟩:=MX n K kf _ _ fs main _ c;rw [b,f];exact d
theorem Iy {gs:List (Int × Int)} {n:Nat} {vs:List (Bool × Lab)} {i:Nat} (h:i < vs.length):(Cx gs n vs).getD i AL=if vs[i].1=true then AH (AE gs) n vs[i].2 else BS n:=by
 simp [Cx,List.getD_eq_getElem?_getD,h]
theorem Lu {vs:List (Bool × Lab)} {i:Nat} (h:(vs.map Prod.fst).getD i false=true):∃ hi:i < vs.length,vs[i].1=true:=by
 by_cases hi:i < vs.length
 ·exact ⟨hi,by simpa [List.getD_eq_getElem?_getD,hi] using h⟩
 ·simp [List.getD_eq_getElem?_getD,List.getElem?_eq_none (Nat.le_of_not_lt hi)] at h
theorem Lz (gs) (n:Nat) (vs:List (Bool × Lab)) (nf:Nat) (b:Bool):Fj n vs.length nf (vs.map Prod.fst) (Cx gs n vs) ⟨Cx gs n vs,List.replicate nf (BS n),b⟩:=by
 refine ⟨by simp [Cx],by simp,fun l hl=>?_,fun l hl=>?_,fun i _=>rfl⟩
 ·simp only [Cx,List.mem_map] at hl
  obtain ⟨v,-,rfl⟩:=hl;split
  ·exact GW _ _ _
  ·exact DR n
 ·rw [List.eq_of_mem_replicate hl]
  exact DR n
theorem Fj.more {n nv nf:Nat} {known:List Bool} {L:List Lev} {st:ISt} (h:Fj n nv nf known L st) (b:Bool):Fj n nv nf known L ⟨st.vs,st.fs,b⟩:=⟨h.lv,h.lf,h.rv,h.rf,h.kn⟩
theorem G6 (n K kf:Nat) (gs) (vs:List (Bool × Lab)) (ls:List Lab) (fs:List FnD) (main):∀ k,Fj n vs.length fs.length (vs.map Prod.fst) (Cx gs n vs) (Ch n K kf (vs.map Prod.fst) (ls.map (AH (AE gs) n)) fs main (Cy gs n vs fs.length) k)
 | 0=>Lz gs n vs fs.length true
 | k+1=>(MW n vs.length fs.length K kf _ (Cx gs n vs) _ fs main _).1 ((G6 n K kf gs vs ls fs main k).more false)
theorem Dr {n K kf:Nat} {gs:List (Int × Int)} {vs:List (Bool × Lab)} {ls:List Lab} {fs:List FnD} {main:List D} {st:ISt} (h:Br n K kf gs vs ls fs main st):∀ i (hi:i < vs.length),vs[i].1=true->st.vs.getD i AL=AH (AE gs) n vs[i].2:=by
 obtain ⟨k,hk,-,-⟩:=h;intro i hi b;have c:=G6 n K kf gs vs ls fs main (k+1);rw [<-hk] at c;rw [c.kn i (by simp [List.getD_eq_getElem?_getD,hi,b]),Iy hi,if_pos b]
theorem G7 (n K kf:Nat) (gs) (vs:List (Bool × Lab)) (ls:List Lab) (fs:List FnD) (main) (L:ISt) (hv:L.vs.length=vs.length) (hf:L.fs.length=fs.length) (hkn:∀ i (hi:i < vs.length),vs[i].1=true->L.vs.getD i AL=AH (AE gs) n vs[i].2) (hb:Fu n K kf (vs.map Prod.fst) (ls.map (AH (AE gs) n)) fs main L true=true):∀ k,LeI n (Ch n K kf (vs.map Prod.fst) (ls.map (AH (AE gs) n)) fs main (Cy gs n vs fs.length) k) L
 | 0=>by
  refine ⟨fun i=>?_,fun i=>?_⟩
  ·show Aw ((Cx gs n vs).getD i AL) _ n=true
   by_cases hi:i < vs.length
   ·rw [Iy hi]
    split
    ·rename_i hk
     rw [hkn i hi hk];exact BJ _ _
    ·exact LE _ _
   ·rw [FD (by simp [Cx];omega),FD (by omega)]
    exact BJ _ _
  ·show Aw ((List.replicate fs.length (BS n)).getD i AL) _ n=true
   by_cases hi:i < fs.length
   ·have:(List.replicate fs.length (BS n)).getD i AL=BS n:=by simp [List.getD_eq_getElem?_getD,hi]
    rw [this];exact LE _ _
   ·rw [FD (by simp;omega),FD (by omega)]
    exact BJ _ _
 | k+1=>Lg n K kf _ _ fs main L _ (G7 n K kf gs vs ls fs main L hv hf hkn hb k) hb
theorem Hb {n K kf:Nat} {gs:List (Int × Int)} {vs:List (Bool × Lab)} {ls:List Lab} {fs:List FnD} {main:List D} {st L:ISt} (h:Br n K kf gs vs ls fs main st) (hv:L.vs.length=vs.length) (hf:L.fs.length=fs.length) (hkn:∀ i (hi:i < vs.length),vs[i].1=true->L.vs.getD i AL=AH (AE gs) n vs[i].2) (hb:Fu n K kf (vs.map Prod.fst) (ls.map (AH (AE gs) n)) fs main L true=true):LeI n st L:=by
 obtain ⟨k,hk,-,-⟩:=h;rw [hk];exact G7 n K kf gs vs ls fs main L hv hf hkn hb (k+1)
end Go.Proofs.YtfffpjkcfnekaaaGreat.Ex
