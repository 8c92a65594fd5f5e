/- Checks of a function, whatever it is. -/
import Derived.Test.YtfffpjkcfnekaaaGreatE06
import Derived.Deep.CutRange
import Derived.Deep.SlicePairs
import Derived.Maps.AppendAt
set_option linter.unusedVariables false
set_option maxHeartbeats 8000000
set_option maxRecDepth 100000
namespace Go.Proofs.YtfffpjkcfnekaaaGreat.Ex.Ey
open Go.RowKit
open Go.Value renaming slice -> O, int -> zd, bool -> zg, agg -> zh, pointer -> zi, tuple -> zk
open Go.IntKind renaming i64 -> U
open Go.Obj renaming cells -> ze
open Go.Ending renaming returned -> zj
theorem NM (vs) (x:Int) (v:Value) (w:World) (hv:AN w v vs) (hl:vs.length<=9223372036854775807) :
  Calls Tryz.prog 242 #[v,zd U x] w fun e w'=>∃ r:Int,e=zj (zd U r)/\(-1<=r/\(0<=r ↔ x∈vs))/\∃ n,w'=w.drewN n:=by
 obtain ⟨C,cap,rfl,l⟩:=hv;have q:=Aa l;clear l;go_enter Tryz.func242,Tryz.ntmps242;go_wp2_with fail;go_loopw [8] (fun i wr=>∃ k:Nat,k<=vs.length/\i=zd U k/\Hx (x ∉ vs.take k)/\∃ n,wr=w.drewN n) (fun i _=>vs.length - (intOf i).toNat)
 case atStart=>exact ⟨0,Nat.zero_le _,rfl,Aa (by simp),0,rfl⟩
 case round=>
  obtain ⟨k,hk,rfl,s,n,rfl⟩:=hrel;by_cases hkl:k < vs.length
  ·obtain ⟨b,off,rfl,g⟩:=q.o (by rintro rfl;simp at hkl)
   have t:=g k hkl;obtain ⟨y,p⟩:=nm (vs[k]);rw [<-p] at t;have A:Hx (y∈vs):=Aa (by rw [p];exact List.getElem_mem hkl);have u:Hx (vs.take (k+1)=vs.take k++[y]):=Aa (by rw [p];exact List.take_succ_eq_append_getElem hkl);clear g p;by_cases hxy:x=y
   ·subst hxy
    go_wp2_with fail;go_ret;exact ⟨(k:Int),rfl,⟨by omega,fun _=>A.o,fun _=>by omega⟩,n,rfl⟩
   ·have B:(x == y)=false:=by simpa using hxy
    have f:Hx (x ∉ vs.take (k+1)):=Aa (by rw [u.o];simp [hxy];exact s.o);go_wp2_with fail;exact ⟨⟨k+1,by omega,by go_num,f,n,rfl⟩,by simp [intOf];omega⟩
  ·have f:Hx (x ∉ vs):=Aa (by have:=s.o;rw [List.take_of_length_le (by omega)] at this;exact this)
   go_wp2_with fail;go_ret;exact ⟨-1,rfl,⟨by omega,fun h=>absurd h (by omega),fun h=>absurd h f.o⟩,n,rfl⟩
theorem FI (vs) (x:Int) (v:Value) (w:World) (hv:AN w v vs) (hl:vs.length<=9223372036854775807) :
  Calls Tryz.prog 218 #[v,zd U x] w fun e w'=>e=zj (zg (decide (x∈vs)))/\∃ n,w'=w.drewN n:=by
 have g:=Aa (NM vs x v w hv hl);obtain ⟨p,cap,rfl,-⟩:=hv;go_enter Tryz.func218,Tryz.ntmps218;go_wp2_with fail;refine (g.o).mono ?_;rintro e l ⟨r,rfl,f,n,rfl⟩;clear g;have k:=Aa f;clear f;go_wp2_with fail;go_ret;refine ⟨?_,n,rfl⟩;have:=k.o;by_cases h:x∈vs
 ·have b:0<=r:=this.2.2 h
  simp [h,b]
 ·have b:¬ 0<=r:=fun i=>h (this.2.1 i)
  simp [h,b]
def xF (K:Nat) (nv ni no:Nat) (ahead:Int) (fs:List FnD) (k:Nat) (f:FnD):Prop:=
 f.ps.length<=4/\(∀ p∈f.ps,0<=p/\p < nv)/\(∀ i (h:i < f.ps.length),f.ps[i] ∉ f.ps.take i)/\(∀ s∈f.body,xS K nv ni no ahead fs k s)/\AU nv K f.res=0
theorem xF.ok {K nv ni no:Nat} {ahead:Int} {fs:List FnD} {k:Nat} {f:FnD} (h:xF K nv ni no ahead fs k f):okF K nv ni no ahead fs k f:=⟨h.1,h.2.1,fun s hs=>(h.2.2.2.1 s hs).ok,h.2.2.2.2⟩
abbrev Q3 (w:World) (m:Int) (ga:Option Addr) (gn gc:Nat) (sa:Option Addr) (sn sc:Nat) (ya:Option Addr) (yn yc:Nat) (oa:Option Addr) (on oc:Nat) (va:Option Addr) (vn vc:Nat) (fa:Option Addr) (fn fc:Nat) (ba:Option Addr) (bn bc:Nat) (pa:Option Addr) (pn pc:Nat) (za:Option Addr) (zn zc:Nat) (ek en:Int) (xa:Option Addr) (xl xc:Nat) (Wz:World):Prop:=Wz.cell? ⟨w.heap.size,0,none⟩=some (zd U m)/\CE Wz w.heap.size 1 (O ga gn gc)/\CE Wz w.heap.size 2 (O sa sn sc)/\CE Wz w.heap.size 3 (O ya yn yc)/\CE Wz w.heap.size 4 (O oa on oc)/\CE Wz w.heap.size 5 (O va vn vc)/\CE Wz w.heap.size 6 (O fa fn fc)/\CE Wz w.heap.size 7 (O ba bn bc)/\CE Wz (w.heap.size+1) 0 (O pa pn pc)/\CE Wz (w.heap.size+1) 1 (O za zn zc)/\CE Wz (w.heap.size+1) 2 (zd U ek)/\CE Wz (w.heap.size+1) 3 (zd U en)/\CE Wz (w.heap.size+1) 4 (O xa xl xc)
theorem Iu (K kf k:Nat) (fs:List FnD) (f:FnD) (funcs:Int) (m:Int) (ga gn gc sa sn sc) (ya:Option Addr) (yn yc:Nat) (oa:Option Addr) (on oc:Nat) (va:Option Addr) (vn vc:Nat) (fa fn fc ba bn bc pa pn pc za zn zc) (ek en:Int) (xa xl xc) (w:World)
  (hv:vn<=9223372036854775807) (h0f:0<=funcs) (h1f:funcs<=9223372036854775807) (hyl:yn<=9223372036854775807) (hol:on<=9223372036854775807) (hff:funcs<=fs.length)
  (hp:AN w (O pa pn pc) f.ps) (hpl:f.ps.length<=maxLen) (hpc:pn<=pc/\pc<=maxLen) (hs:Bj w K k (O za zn zc) f.body) (hx:RX w K [zd U ek,zd U en,O xa xl xc] f.res) (hfs:Bv w K kf (O fa fn fc) fs) :
  Calls Tryz.prog 176 #[zh #[zd U m,O ga gn gc,O sa sn sc,O ya yn yc,O oa on oc,O va vn vc,O fa fn fc,O ba bn bc],zh #[O pa pn pc,O za zn zc,zd U ek,zd U en,O xa xl xc],zd U funcs] w (Du (xF K vn yn on funcs fs k f) w):=by
 have K1:=Aa BZ;have K2:=Aa Bf;have KS:=Aa fun W (l:Ov w W)=>G6 K kf fs funcs m ga gn gc sa sn sc ya yn yc oa on oc va vn vc fa fn fc ba bn bc hv h0f h1f hyl hol hff k (O za zn zc) f.body W (hs.over l) (hfs.over l);have KX:=Aa fun W (l:Ov w W)=>B9 K m ga gn gc sa sn sc ya yn yc oa on oc va vn vc fa fn fc ba bn bc _ f.res W (hx.over l) hv;have KC:=Aa fun W (l:Ov w W) (x:Int) (i:Nat) (hi:i<=pn) (c:Nat)=>FI (f.ps.take i) x (O pa i c) W;have ag:pn=f.ps.length:=by obtain ⟨a2,y,t,-⟩:=hp;injection t
 have HP:=Aa hp;have u:=Aa ag;have bo:pn<=9223372036854775807:=by rw [ag];exact hpl
 obtain ⟨bq,ab⟩:=hpc;have bp:pc<=9223372036854775807:=ab;clear hp hpl hs hx hfs ag ab;have H:Ov w ((w.alloc (ze #[zd U m,O ga gn gc,O sa sn sc,O ya yn yc,O oa on oc,O va vn vc,O fa fn fc,O ba bn bc] 184)).alloc (ze #[O pa pn pc,O za zn zc,zd U ek,zd U en,O xa xl xc] 105)):=(bA w _).alloc (by simp) _;obtain ⟨c0,c1,y,R,Q,P,N,M⟩:=rc8 (GM w [zd U m,O ga gn gc,O sa sn sc,O ya yn yc,O oa on oc,O va vn vc,O fa fn fc,O ba bn bc] 184 (ze #[O pa pn pc,O za zn zc,zd U ek,zd U en,O xa xl xc] 105));obtain ⟨f0,f1,L,J,I⟩:=rc5 (Ig w (ze #[zd U m,O ga gn gc,O sa sn sc,O ya yn yc,O oa on oc,O va vn vc,O fa fn fc,O ba bn bc] 184) [O pa pn pc,O za zn zc,zd U ek,zd U en,O xa xl xc] 105);go_enter Tryz.func176,Tryz.ntmps176;go_wp2_with fail;refine (K1.o _ _ _).mono ?_;rintro e wz ⟨t,rfl⟩;rcases t with ⟨s,rfl⟩ | ⟨s,rfl⟩;rotate_left
 ·have Z:Hx (¬ xF K vn yn on funcs fs k f):=Aa (fun S=>absurd S.1 (by rw [<-u.o];simp at s;omega))
  clear s;unfold Ay;go_wp2_with fail;exact ⟨rfl,Or.inr ⟨Z.o,2,by decide,rfl⟩,H⟩
 have am:pn<=4:=by simp at s;omega
 have bg:Hx (f.ps.length<=4):=by rw [<-u.o];exact am
 clear s am;go_wp2_with fail;go_loopw [18] (fun i wr=>∃ n:Nat,n<=pn/\i=zd U n/\(∀ p∈f.ps.take n,0<=p/\p < (vn:Int))/\(Q3 w m ga gn gc sa sn sc ya yn yc oa on oc va vn vc fa fn fc ba bn bc pa pn pc za zn zc ek en xa xl xc wr)/\Ov w wr) (fun i _=>pn - (intOf i).toNat)
 case atStart=>exact ⟨0,Nat.zero_le _,rfl,by simp,⟨c0,c1,y,R,Q,P,N,M,f0,f1,L,J,I⟩,H⟩
 case round=>
  clear c0 c1 y R Q P N M f0 f1 L J I H;obtain ⟨n,hn,rfl,an,⟨c0,c1,y,R,Q,P,N,M,f0,f1,L,J,I⟩,l⟩:=hrel;have ai:=Aa an;clear an;by_cases hnl:n < pn
  ·have g:n < f.ps.length:=by rw [<-u.o];exact hnl
   obtain ⟨a2,a6,t,hpc⟩:=HP.o;injection t with e1 e2 e3;subst e1;obtain ⟨b,off,rfl,G⟩:=hpc (by intro h;rw [h] at g;simp at g);have q:=Ab l _ _ (G n g);have ae:f.ps.take (n+1)=f.ps.take n++[f.ps[n]]:=List.take_succ_eq_append_getElem g;obtain ⟨x,hx⟩:=nm (f.ps[n]);have ah:=List.getElem_mem g;rw [<-hx] at q ae ah;have bf:=Aa ae;have bk:=Aa ah;clear ah;clear hpc G hx ae e2 e3;go_wp2_with fail;refine (K2.o _ _ _).mono ?_;rintro e wz ⟨rfl,rfl⟩;go_wp2_with fail;refine (K1.o _ _ _).mono ?_;rintro e wz ⟨t,rfl⟩;rcases t with ⟨aa,rfl⟩ | ⟨s,rfl⟩;rotate_left
   ·have Z:Hx (¬ xF K vn yn on funcs fs k f):=Aa (fun S=>absurd (S.2.1 x bk.o) (by simp at s;omega))
    clear s;unfold Ay;go_wp2_with fail;exact ⟨rfl,Or.inr ⟨Z.o,5,by decide,rfl⟩,l⟩
   have ak:0<=x/\x < vn:=by simpa using aa
   have ao:∀ p∈f.ps.take (n+1),0<=p/\p < (vn:Int):=fun p hp=>by
    rw [bf.o,List.mem_append,List.mem_singleton] at hp;rcases hp with hp | rfl
    ·exact ai.o p hp
    ·exact ak
   have bi:=Aa ao;clear ao ak aa;go_wp2_with fail;exact ⟨⟨n+1,by omega,by go_num,bi.o,⟨c0,c1,y,R,Q,P,N,M,f0,f1,L,J,I⟩,l⟩,by simp [intOf];omega⟩
  ·have ac:f.ps.take n=f.ps:=List.take_of_length_le (by rw [<-u.o];omega)
   have E:=ai.o;rw [ac] at E;have a0:=Aa E;clear E ac ai;obtain ⟨w1,aj⟩:=nm wr;rw [<-aj] at c0 c1 y R Q P N M f0 f1 L J I l ⊢;clear aj;go_wp2_with fail;go_loopw [33] (fun i wr=>∃ n:Nat,n<=pn/\i=zd U n/\Hx (∀ i (h:i < f.ps.length),i < n->f.ps[i] ∉ f.ps.take i)/\(Q3 w m ga gn gc sa sn sc ya yn yc oa on oc va vn vc fa fn fc ba bn bc pa pn pc za zn zc ek en xa xl xc wr)/\Ov w wr) (fun i _=>pn - (intOf i).toNat)
   case atStart=>exact ⟨0,Nat.zero_le _,rfl,Aa (fun i h hi=>absurd hi (by omega)),⟨c0,c1,y,R,Q,P,N,M,f0,f1,L,J,I⟩,l⟩
   case round=>
    clear c0 c1 y R Q P N M f0 f1 L J I l;obtain ⟨n,hn,rfl,a4,⟨c0,c1,y,R,Q,P,N,M,f0,f1,L,J,I⟩,l⟩:=hrel;by_cases hnl:n < pn
    ·have g:n < f.ps.length:=by rw [<-u.o];exact hnl
     obtain ⟨a2,a6,t,hpc⟩:=HP.o;injection t with e1 e2 e3;subst e1;have C:=(HP.o.over l);rw [u.o] at C;have B:=C.prefix (i:=n) (by omega) pc;obtain ⟨b,off,rfl,G⟩:=hpc (by intro h;rw [h] at g;simp at g);have q:=Ab l _ _ (G n g);obtain ⟨x,hx⟩:=nm (f.ps[n]);rw [<-hx] at q;have ay:=Aa hx;have bj:=Aa g;have bd:=Aa (FI _ x _ _ B (by simp;omega));clear hpc G hx e2 e3 C B;go_wp2_with fail;refine (bd.o).mono ?_;rintro e w5 ⟨rfl,nd,rfl⟩;obtain ⟨rb,af⟩:=nm (decide (x∈f.ps.take n));rw [<-af];have az:=Aa af;clear af;have au:=below_drewN l nd;go_wp2_with fail;refine (K1.o _ _ _).mono ?_;rintro e wz ⟨t,rfl⟩;rcases t with ⟨s,rfl⟩ | ⟨s,rfl⟩;rotate_left
     ·have Z:Hx (¬ xF K vn yn on funcs fs k f):=Aa (fun S=>absurd (S.2.2.1 n bj.o) (by rw [<-ay.o];have hq:=az.o;simp at s;rw [s] at hq;simpa using hq))
      clear s;unfold Ay;go_wp2_with fail;exact ⟨rfl,Or.inr ⟨Z.o,6,by decide,rfl⟩,au⟩
     have a3:Hx (∀ i (h:i < f.ps.length),i < n+1->f.ps[i] ∉ f.ps.take i):=Aa (fun i h hi=>by
      by_cases hin:i=n
      ·subst hin
       rw [<-ay.o];have hq:=az.o;simp at s;rw [s] at hq;simpa using hq
      ·exact a4.o i h (by omega))
     clear s;go_wp2_with fail;exact ⟨⟨n+1,by omega,by go_num,a3,⟨c0,c1,y,R,Q,P,N,M,f0,f1,L,J,I⟩,au⟩,by simp [intOf];omega⟩
    ·have a1:Hx (∀ i (h:i < f.ps.length),f.ps[i] ∉ f.ps.take i):=Aa (fun i h=>a4.o i h (by have:=u.o;omega))
     have ax:=Aa (KS.o _ l);go_wp2_with fail;refine (ax.o).mono ?_;rintro e w6 ⟨t,T⟩;have V:=l.trans (T.mono l.size);rcases t with ⟨ar,rfl⟩ | ⟨F,ad,A,rfl⟩;rotate_left
     ·have Z:Hx (¬ xF K vn yn on funcs fs k f):=Aa (fun S=>F S.2.2.2.1)
      clear F;unfold Ay;go_wp2_with fail;exact ⟨rfl,Or.inr ⟨Z.o,ad,A,rfl⟩,V⟩
     have bm:=Aa ar;obtain ⟨r0,r1,r2,r3,r4,r5,r6,r7,g0,g1⟩:=CU T c0 c1 y R Q P N M f0 f1;obtain ⟨g2,g3,g4⟩:=co3 T L J I;have aw:=Aa (KX.o _ V);clear ar T l c0 c1 y R Q P N M f0 f1 L J I ax;go_wp2_with fail;refine (aw.o).mono ?_;rintro e w7 ⟨t,a7⟩;have av:=V.trans (a7.mono V.size);rcases t with ⟨aq,rfl⟩ | ⟨F,ad,A,rfl⟩;rotate_left
     ·have Z:Hx (¬ xF K vn yn on funcs fs k f):=Aa (fun S=>F S.2.2.2.2)
      clear F;unfold Ay;go_wp2_with fail;exact ⟨rfl,Or.inr ⟨Z.o,ad,A,rfl⟩,av⟩
     have bl:=Aa aq;clear aq aw;go_wp2_with fail;go_end0;exact ⟨Or.inl ⟨⟨bg.o,a0.o,a1.o,bm.o,bl.o⟩,rfl⟩,av⟩
abbrev Oc (w:World) (m:Int) (ga:Option Addr) (gn gc:Nat) (va:Option Addr) (vn vc:Nat) (Wz:World):Prop:=Wz.cell? ⟨w.heap.size,0,none⟩=some (zd U m)/\CE Wz w.heap.size 1 (O ga gn gc)/\CE Wz w.heap.size 5 (O va vn vc)
theorem Kq (m:Int) (ga gn gc) (sa sn sc) (ya yn yc oa on oc va vn vc) (fa fn fc ba bn bc gs ls ms vs) (w:World) (hg:AA w (O ga gn gc) gs) (h1:AW w (O ya yn yc) ls) (h2:AW w (O oa on oc) ms) (h3:Bs w (O va vn vc) vs)
  (hy:yn<=5) (ho:on<=5) (hyc:ya=none->yc=0) (hoc:oa=none->oc=0) :
  Calls Tryz.prog 174 #[zh #[zd U m,O ga gn gc,O sa sn sc,O ya yn yc,O oa on oc,O va vn vc,O fa fn fc,O ba bn bc]] w (Du (Fi m gs (ls++ms) vs) w):=by
 have y:Ov w ((w.alloc (ze #[zd U m,O ga gn gc,O sa sn sc,O ya yn yc,O oa on oc,O va vn vc,O fa fn fc,O ba bn bc] 184)).alloc (ze #[O ya yn yc,O oa on oc] 26)):=(bA w _).alloc (by simp) _;have ag:Ad [O ya yn yc,O oa on oc] ((w.alloc (ze #[zd U m,O ga gn gc,O sa sn sc,O ya yn yc,O oa on oc,O va vn vc,O fa fn fc,O ba bn bc] 184)).alloc (ze #[O ya yn yc,O oa on oc] 26)) (w.heap.size+1):=by
  have r:=Ad.new [O ya yn yc,O oa on oc] 26 (w.alloc (ze #[zd U m,O ga gn gc,O sa sn sc,O ya yn yc,O oa on oc,O va vn vc,O fa fn fc,O ba bn bc] 184));have hs:(w.alloc (ze #[zd U m,O ga gn gc,O sa sn sc,O ya yn yc,O oa on oc,O va vn vc,O fa fn fc,O ba bn bc] 184)).heap.size=w.heap.size+1:=by simp
  rw [hs] at r;exact r
 have K1:=Aa (Mi (w.heap.size+1) ya yn yc oa on oc ls ms ((w.alloc (ze #[zd U m,O ga gn gc,O sa sn sc,O ya yn yc,O oa on oc,O va vn vc,O fa fn fc,O ba bn bc] 184)).alloc (ze #[O ya yn yc,O oa on oc] 26)) ag (h1.over y) (h2.over y) hy ho hyc hoc);have KL:=Aa fun (bl:Lab) (pr pw:Value) (W:World) (hW:Ov w W) (J:AL W pr bl.r) (hw:AL W pw bl.w)=>M2 m (O ga gn gc) gs pr pw bl W (Af hg hW) J hw;have KP:=Aa Hb;have KM:=Aa BZ;have cm:vn<=9223372036854775807:=by obtain ⟨hm,a,c,F,-⟩:=h3;injection F with e1 e2 e3;rw [e2];exact hm
 have be:(ls++ms).length<=10:=by
  obtain ⟨-,a,c,F,-⟩:=h1;injection F with e1 e2 e3;obtain ⟨-,a',c',b0,-⟩:=h2;injection b0 with af cy cx;simp;omega
 have HV:=Aa h3;have bd:vn=vs.length:=by obtain ⟨hm,a,c,F,-⟩:=h3;injection F
 have bi:=Aa bd;clear bd;have zr:=GM w [zd U m,O ga gn gc,O sa sn sc,O ya yn yc,O oa on oc,O va vn vc,O fa fn fc,O ba bn bc] 184 (ze #[O ya yn yc,O oa on oc] 26);have c0:=zr 0 _ rfl;have c1:=zr 1 _ rfl;have c3:=zr 3 _ rfl;have c4:=zr 4 _ rfl;have c5:=zr 5 _ rfl;clear zr;clear h1 h2 h3 hg ag;go_enter Tryz.func174,Tryz.ntmps174;go_wp2_with fail;refine (K1.o).mono ?_;rintro e w1 ⟨v,xs,rfl,L,bf,aq⟩;have ae:=y.trans (aq.mono y.size);obtain ⟨C,B,A⟩:=co3 aq c0 c1 c5;obtain ⟨cj,N,ci,ai⟩:∃ a n c,v=O a n c:=by
  rcases L.2 with ⟨h,_⟩ | ⟨g,cap,b1,h,_⟩
  ·exact ⟨_,_,_,h⟩
  ·exact ⟨_,_,_,h⟩
 have aj:N=(ls++ms).length:=by
  rcases L.2 with ⟨h,h'⟩ | ⟨g,cap,b1,h,_⟩
  ·rw [ai] at h;injection h with e1 e2 e3;omega
  ·rw [ai] at h;injection h
 subst ai;have HO:=Aa L;have bo:=Aa bf;have bj:=Aa aj;have b9:N<=10:=by rw [aj];exact be
 clear L bf aj aq c0 c1 c3 c4 c5 y K1;go_wp2_with fail;go_loopw [17] (fun i wr=>∃ n:Nat,n<=N/\i=zd U n/\(∀ b∈(ls++ms).take n,Bb m gs b=0)/\(Oc w m ga gn gc va vn vc wr)/\Ov w1 wr) (fun i _=>N - (intOf i).toNat)
 case atStart=>exact ⟨0,Nat.zero_le _,rfl,by simp,⟨C,B,A⟩,Below.refl _ _⟩
 case round=>
  clear C B A;obtain ⟨n,hn,rfl,p,⟨C,B,A⟩,I⟩:=hrel;have k:=Aa p;clear p;have l:=ae.trans (I.mono ae.size);by_cases hnl:n < N
  ·have al:n < (ls++ms).length:=by rw [<-bj.o];exact hnl
   obtain ⟨pr,pw,e0,e1,J,hw⟩:=bo.o.at n al;obtain ⟨g,cap,bz,cq,cp,an⟩:=LF HO.o (by omega);have a0:=Ab I _ _ (an _ _ e0);have a1:=Ab I _ _ (an _ _ e1);rw [Addr.add_lit,Nat.zero_add] at a0 a1;injection bz with f1 f2 f3;subst f1;obtain ⟨ra,rn,rc,R⟩:=Az J;obtain ⟨wa,wn,wc,Q⟩:=Az hw;subst R Q;have f:=bA wr (ze #[O ra rn rc,O wa wn wc] 39);have Z:=l.trans (f.mono l.size);have s:=Ac I f;have K2:=Aa (KL.o (ls++ms)[n] _ _ _ Z (Ak J s) (Ak hw s));obtain ⟨f0,f1,f5⟩:=co3 f C B A;obtain ⟨cr,G⟩:=nm (Bb m gs (ls++ms)[n]);rw [<-G] at K2;have ad:=Aa G;clear an J hw e0 e1 G f2 f3;go_wp2_with fail;refine (K2.o).mono ?_;rintro e w2 ⟨rfl,H⟩;have aa:=Ac s H;have V:=ae.trans (aa.mono ae.size);obtain ⟨r0,r1,r5⟩:=co3 H f0 f1 f5;clear K2 H Z s f I l a0 a1 C B A f0 f1 f5;go_wp2_with fail;refine (KP.o _ _).mono ?_;rintro e wz ⟨F,rfl⟩;rcases F with ⟨t,rfl⟩ | ⟨t,rfl⟩;rotate_left
   ·have P:cr≠0:=by simpa using t
    have HN:Hx (¬ Fi m gs (ls++ms) vs):=Aa (fun h=>P (ad.o.trans (h.1 _ (List.getElem_mem al))));unfold Ay;go_wp2_with fail;exact ⟨rfl,Or.inr ⟨HN.o,cr,P,rfl⟩,V⟩
   have HZ:=Aa (show cr=0 by simpa using t);clear t;go_wp2_with fail;exact ⟨⟨n+1,by omega,by go_num,EE al k.o (ad.o.symm.trans HZ.o),⟨r0,r1,r5⟩,aa⟩,by simp [intOf];omega⟩
  ·obtain ⟨w2,bb⟩:=nm wr
   rw [<-bb] at C B A l ⊢;have a3:=Aa (EF (by rw [<-bj.o];omega) k.o);clear bb I HO bo k;go_wp2_with fail;go_loopw [32] (fun i wr=>∃ n:Nat,n<=vn/\i=zd U n/\(∀ v∈vs.take n,Bb m gs v.2=0)/\(Oc w m ga gn gc va vn vc wr)/\Ov w2 wr) (fun i _=>vn - (intOf i).toNat)
   case atStart=>exact ⟨0,Nat.zero_le _,rfl,by simp,⟨C,B,A⟩,Below.refl _ _⟩
   case round=>
    clear C B A hnl hn;obtain ⟨n,hn,rfl,p,⟨C,B,A⟩,I⟩:=hrel;have k:=Aa p;clear p;have q:=l.trans (I.mono l.size);by_cases hnl:n < vn
    ·obtain ⟨-,ao,cap,F,S⟩:=HV.o.over q
     injection F with e1 e2 e3;have ak:vs≠[]:=by intro h;rw [h] at e2;simp at e2;omega
     obtain ⟨b,off,T,u⟩:=S ak;have E:n < vs.length:=by omega
     obtain ⟨pr,pw,a0,a1,a2,J,hw⟩:=u n E;have af:=e1.trans T;subst af;obtain ⟨kn,M⟩:=nm (vs[n].1);obtain ⟨lb,am⟩:=nm (vs[n].2);rw [<-M] at a0;rw [<-am] at J hw;obtain ⟨ra,rn,rc,R⟩:=Az J;obtain ⟨wa,wn,wc,Q⟩:=Az hw;subst R Q;have bm:=Aa am;clear M am S u e1 e2 e3 T;have f:=bA wr (ze #[zg kn,O ra rn rc,O wa wn wc] 41);have Z:=q.trans (f.mono q.size);have s:=Ac I f;have K2:=Aa (KL.o lb _ _ _ Z (Ak J f) (Ak hw f));obtain ⟨f0,f1,f5⟩:=co3 f C B A;obtain ⟨cr,G⟩:=nm (Bb m gs lb);rw [<-G] at K2;have ad:=Aa G;clear J hw G;go_wp2_with fail;refine (K2.o).mono ?_;rintro e w3 ⟨rfl,H⟩;have aa:=Ac s H;have V:=l.trans (aa.mono l.size);obtain ⟨r0,r1,r5⟩:=co3 H f0 f1 f5;clear K2 H Z s f I q a0 a1 a2 C B A f0 f1 f5;go_wp2_with fail;refine (KP.o _ _).mono ?_;rintro e wz ⟨F,rfl⟩;rcases F with ⟨t,rfl⟩ | ⟨t,rfl⟩;rotate_left
     ·have P:cr≠0:=by simpa using t
      have HN:Hx (¬ Fi m gs (ls++ms) vs):=Aa (fun h=>P (ad.o.trans (by rw [bm.o];exact h.2.1 _ (List.getElem_mem E))));unfold Ay;go_wp2_with fail;exact ⟨rfl,Or.inr ⟨HN.o,cr,P,rfl⟩,V⟩
     have HZ:=Aa (show cr=0 by simpa using t);clear t;go_wp2_with fail;exact ⟨⟨n+1,by omega,by go_num,EE E k.o (by rw [<-bm.o];exact ad.o.symm.trans HZ.o),⟨r0,r1,r5⟩,aa⟩,by simp [intOf];omega⟩
    ·obtain ⟨w3,a9⟩:=nm wr
     rw [<-a9] at C B A q ⊢;have az:=Aa (EF (by rw [<-bi.o];omega) k.o);clear a9 I l k;go_wp2_with fail;go_loopw [48] (fun i wr=>∃ n:Nat,n<=vn/\i=zd U n/\(∀ v∈vs.take n,v.1=false->v.2.r=[]/\v.2.w=[])/\(Oc w m ga gn gc va vn vc wr)/\Ov w3 wr) (fun i _=>vn - (intOf i).toNat)
     case atStart=>exact ⟨0,Nat.zero_le _,rfl,by simp,⟨C,B,A⟩,Below.refl _ _⟩
     case round=>
      clear C B A hnl hn;obtain ⟨n,hn,rfl,p,⟨C,B,A⟩,I⟩:=hrel;have k:=Aa p;clear p;have l:=q.trans (I.mono q.size);by_cases hnl:n < vn
      ·obtain ⟨-,ao,cap,F,S⟩:=HV.o.over l
       injection F with e1 e2 e3;have ak:vs≠[]:=by intro h;rw [h] at e2;simp at e2;omega
       obtain ⟨b,off,T,u⟩:=S ak;have E:n < vs.length:=by omega
       obtain ⟨pr,pw,a0,a1,a2,J,hw⟩:=u n E;have af:=e1.trans T;subst af;obtain ⟨kn,M⟩:=nm (vs[n].1);rw [<-M] at a0;obtain ⟨ra,rn,rc,R⟩:=Az J;obtain ⟨wa,wn,wc,Q⟩:=Az hw;subst R Q;have ay:Hx (kn=vs[n].1/\rn=vs[n].2.r.length/\wn=vs[n].2.w.length):=⟨M,J8 J,J8 hw⟩;clear M S u e1 e2 e3 T J hw;have HA:Hx (∀ ob:Obj,(CE (wr.alloc ob) w.heap.size 0 (zd U m)/\CE (wr.alloc ob) w.heap.size 1 (O ga gn gc)/\CE (wr.alloc ob) w.heap.size 5 (O (some ⟨b,off,none⟩) vn vc))/\Ov w3 (wr.alloc ob)/\Ov w (wr.alloc ob)):=fun ob=>by
        have f:=bA wr ob;exact ⟨⟨Ab f _ _ C,Ab f _ _ B,Ab f _ _ A⟩,Ac I f,l.trans (f.mono l.size)⟩
       clear KL KP C B A I;have aw:Hx ((kn=false->rn=0/\wn=0)->∀ v∈vs.take (n+1),v.1=false->v.2.r=[]/\v.2.w=[]):=fun h=>EE E k.o fun h0=>by
        obtain ⟨h1,h2,h3⟩:=ay.o;have:=h (h1.trans h0);exact ⟨List.eq_nil_of_length_eq_zero (by omega),List.eq_nil_of_length_eq_zero (by omega)⟩
       have ax:Hx (¬ (kn=false->rn=0/\wn=0)->¬ Fi m gs (ls++ms) vs):=Aa (fun hn h=>hn fun hk=>by
        obtain ⟨h1,h2,h3⟩:=ay.o;obtain ⟨q1,q2⟩:=h.2.2 _ (List.getElem_mem E) (h1.symm.trans hk);rw [q1] at h2;rw [q2] at h3;exact ⟨h2,h3⟩)
       clear ay k;cases kn;all_goals go_wp2_with fail
       all_goals
        refine (KM.o _ _ _).mono ?_;rintro e wz ⟨F,rfl⟩;rcases F with ⟨t,rfl⟩ | ⟨t,rfl⟩
        ·have HZ:Hx (∀ v∈vs.take (n+1),v.1=false->v.2.r=[]/\v.2.w=[]):=aw.o (by first | (intro h;cases h;done) | (intro _;simp at t;done) | (intro _;simp at t;omega) | (intro _;simp at *;omega))
         clear t aw ax;go_wp2_with fail;exact ⟨⟨n+1,by omega,by go_num,HZ.o,(HA.o _).1,(HA.o _).2.1⟩,by simp [intOf];omega⟩
        ·have HN:Hx (¬ Fi m gs (ls++ms) vs):=Aa (ax.o (by first | (simp at t;done) | (intro hh;have hq:=hh (by simp);simp at t;omega)))
         clear t aw ax;unfold Ay;go_wp2_with fail;exact ⟨rfl,Or.inr ⟨HN.o,1,by decide,rfl⟩,(HA.o _).2.2⟩
      ·go_wp2_with fail
       go_end0;exact ⟨Or.inl ⟨⟨a3.o,az.o,EF (by rw [<-bi.o];omega) k.o⟩,rfl⟩,l⟩
def dpS:Nat->Int->D->Prop
 | 0,_,_=>False
 | k+1,deep,d=>deep<=6/\(∀ s∈Aj d,dpS k (deep+1) s)/\∀ s∈Ao d,dpS k (deep+1) s
def dps (k:Nat) (deep:Int) (l:List D):Prop:=∀ s∈l,dpS k deep s
theorem JE {k:Nat} {l:List D} (j:Nat):AI k (l.take j)<=AI k l:=by
 have h:AI k l=AI k (l.take j)+AI k (l.drop j):=by
  unfold AI;rw [<-List.sum_append,<-List.map_append,List.take_append_drop]
 omega
def QY (dp:Prop) (many n:Int) (w:World) (e:Ending) (w':World):Prop:=((e=zj (zd U (many+n))/\many+n<=50/\dp)\/(¬ (many+n<=50/\dp)/\e=Ay 2))/\Ov w w'
theorem NR (K:Nat):∀ (k:Nat) (v:Value) (l:List D) (deep many:Int) (w:World),Bj w K k v l->0<=deep->deep<=7->0<=many->many<=50 ->
  Calls Tryz.prog 217 #[v,zd U deep,zd U many] w (QY (dps k deep l) many (AI k l) w):=by
 intro k
 induction k with
 | zero=>
  intro v l deep many w h d0 d1 m0 m1;obtain rfl:=h.zero;obtain ⟨-,ao,cap,rfl,-⟩:=h;have hz:many+((AI 0 []:Nat):Int)=many:=by simp [AI]
  show Calls Tryz.prog 217 #[O ao 0 cap,zd U deep,zd U many] w _;go_enter Tryz.func217,Tryz.ntmps217;go_wp2_with fail;go_loopw [2,11] (fun c i wr=>c=zd U many/\i=zd U 0/\wr=w) (fun _ _ _=>0)
  case atStart=>exact ⟨rfl,rfl,rfl⟩
  case round=>
   obtain ⟨rfl,rfl,hw⟩:=hrel;have bg:=hw.symm;subst bg;clear hw;go_wp2_with fail;go_ret;exact ⟨Or.inl ⟨by rw [hz];rfl,by rw [hz];exact m1,fun s G=>absurd G (by simp)⟩,Below.refl _ _⟩
 | succ k ih=>
  intro v l deep many w h d0 d1 m0 m1;have HS:=Aa h;have bz:l.length<=9223372036854775807:=h.1;obtain ⟨ao,cap,rfl,hc⟩:=h.2;have HC:=Aa hc;have IH:=Aa ih;clear hc ih h;have KM:=Aa BZ;go_enter Tryz.func217,Tryz.ntmps217;go_wp2_with fail;go_loopw [2,11] (fun c i wr=>∃ j:Nat,j<=l.length/\i=zd U j/\c=zd U (many+(AI (k+1) (l.take j):Nat))/\many+(AI (k+1) (l.take j):Nat)<=50/\Hx (dps (k+1) deep (l.take j))/\Ov w wr) (fun _ i _=>l.length - (intOf i).toNat)
  case atStart=>exact ⟨0,Nat.zero_le _,rfl,by simp [AI],by simp [AI];omega,Aa (fun s G=>absurd G (by simp)),Below.refl _ w⟩
  case round=>
   obtain ⟨j,hj,rfl,rfl,Q,ab,q⟩:=hrel;by_cases hjl:j < l.length
   ·obtain ⟨b,off,rfl,an⟩:=HC.o (by rintro rfl;simp at hjl)
    obtain ⟨cs,bi,f,hr⟩:=an j l[j] (List.getElem?_eq_getElem hjl);have u:=Gd (k:=k+1) hjl;have am:CY (k+1) l[j]=1+AI k (Aj l[j])+AI k (Ao l[j]):=rfl;rw [am] at u;obtain ⟨d,hd⟩:=nm (l[j]);have P:=List.getElem_mem hjl;have t:l.take (j+1)=l.take j++[l[j]]:=List.take_succ_eq_append_getElem hjl;have ai:=JE (k:=k+1) (l:=l) (j+1);rw [<-hd] at hr u P t;have Z:=Aa P;have bm:=Aa t;clear P t;obtain ⟨ek,en,xa,xl,xc,aa,ac,ta,tc,ea,ec,ak,-,-,-,-,-,hT,hE,-,-,-⟩:=hr.form;subst ak;obtain ⟨M,hM⟩:∃ M:Int,M=many+(AI (k+1) (l.take j):Nat):=⟨_,rfl⟩;rw [<-hM] at Q ⊢;have cm:0<=M:=by omega
    obtain ⟨n1,N⟩:∃ n:Nat,n=AI k (Aj d):=⟨_,rfl⟩;obtain ⟨n2,L⟩:∃ n:Nat,n=AI k (Ao d):=⟨_,rfl⟩;rw [<-N,<-L] at u;have E:Hx (M+1+(n1:Int)+n2<=many+(AI (k+1) l:Nat)):=Aa (by rw [hM];omega);have a0:=Aa u;have a1:=Aa hM;clear u hM am ai;obtain ⟨kd,aj⟩:=nm (Ag d);obtain ⟨va,af⟩:=nm (Ap d);obtain ⟨ot,ag⟩:=nm (Ae d);obtain ⟨al,au⟩:=nm ((Ai d).length);obtain ⟨tl,J⟩:=nm ((Aj d).length);obtain ⟨el,R⟩:=nm ((Ao d).length);rw [<-J] at hT;rw [<-R] at hE;rw [<-aj,<-af,<-ag,<-au,<-J,<-R] at f;have q0:wr.cell? ⟨b,off+j*9,none⟩=_:=Ab q _ _ (f 0 _ rfl);have q1:=Ab q _ _ (f 1 _ rfl);have q2:=Ab q _ _ (f 2 _ rfl);have q3:=Ab q _ _ (f 3 _ rfl);have q4:=Ab q _ _ (f 4 _ rfl);have q5:=Ab q _ _ (f 5 _ rfl);have q6:=Ab q _ _ (f 6 _ rfl);have q7:=Ab q _ _ (f 7 _ rfl);have q8:=Ab q _ _ (f 8 _ rfl);have aq:Ov wr (wr.alloc (ze #[zd U kd,zd U va,zd U ot,zd U ek,zd U en,O xa xl xc,O aa al ac,O ta tl tc,O ea el ec] 130)):=bA wr _;have p:=q.trans (aq.mono q.size);have av:=hT.over p;have K1:=Aa fun (h1:M+1<=50) (h2:deep<=6)=>IH.o (O ta tl tc) (Aj d) (deep+1) (M+1) _ av (by omega) (by omega) (by omega) h1;have K2:=Aa fun W (hW:Ov w W) (mm:Int) (h0:0<=mm) (h1:mm<=50) (h2:deep<=6)=>IH.o (O ea el ec) (Ao d) (deep+1) mm W (hE.over hW) (by omega) (by omega) h0 h1;rw [<-N] at K1;rw [<-L] at K2;have s8:(wr.alloc (ze #[zd U kd,zd U va,zd U ot,zd U ek,zd U en,O xa xl xc,O aa al ac,O ta tl tc,O ea el ec] 130)).cell? ⟨wr.heap.size,8,none⟩=some (O ea el ec):=by simp [go_sem]
    clear hT hE av f an hr bi N L aj af ag au J R hd;by_cases c1:M+1<=50/\deep<=6
    ·obtain ⟨c1,c2⟩:=c1
     have az:=Aa (K1.o c1 c2);go_wp2_with fail;refine (KM.o true 2 _).mono ?_;rintro e wz ⟨g,rfl⟩;have A:=orT g;subst A;clear g;go_wp2_with fail;refine (az.o).mono ?_;rintro e w1 ⟨g,S⟩;have C:=p.trans (S.mono p.size);rcases g with ⟨rfl,ah,I⟩ | ⟨y,rfl⟩
     ·have a2:=Aa I
      clear I;have t8:=Ab S _ _ s8;have aw:0<=M+1+(n1:Int):=by omega
      obtain ⟨M1,B⟩:=nm (M+1+(n1:Int));rw [<-B] at ah aw ⊢;have V:=Aa B;clear B;have ay:=Aa (K2.o w1 C M1 aw ah c2);clear K1 K2 az s8 S p q0 q1 q2 q3 q4 q5 q6 q7 q8 q aq;go_wp2_with fail;refine (ay.o).mono ?_;rintro e w2 ⟨g,ar⟩;have ax:=C.trans (ar.mono C.size);rcases g with ⟨rfl,cl,H⟩ | ⟨y,rfl⟩
      ·have bo:Hx (dps (k+1) deep (l.take (j+1))):=Aa (fun s G=>by
        rw [bm.o,List.mem_append,List.mem_singleton] at G;rcases G with G | rfl
        ·exact ab.o s G
        ·exact ⟨c2,a2.o,H⟩)
       clear ay t8 ar C H;go_wp2_with fail;refine ⟨⟨j+1,by omega,by go_num,?_,?_,bo,ax⟩,by simp [intOf];omega⟩
       ·rw [a0.o]
        have:=a1.o;refine congrArg (Value.int IntKind.i64) ?_;have h2:=V.o
        push_cast
        omega
       ·rw [a0.o]
        have:=a1.o;have h2:=V.o
        push_cast
        omega
      ·have T:Hx (¬ (many+(AI (k+1) l:Nat)<=50/\dps (k+1) deep l)):=Aa (fun F=>y ⟨by have h1:=E.o;have h2:=V.o;have h3:=F.1;omega,(F.2 d Z.o).2.2⟩)
       clear y;unfold Ay;go_wp2_with fail;exact ⟨rfl,Or.inr ⟨T.o,rfl⟩,ax⟩
     ·have T:Hx (¬ (many+(AI (k+1) l:Nat)<=50/\dps (k+1) deep l)):=Aa (fun F=>y ⟨by have h1:=E.o;have h3:=F.1;omega,(F.2 d Z.o).2.1⟩)
      clear y;unfold Ay;go_wp2_with fail;exact ⟨rfl,Or.inr ⟨T.o,rfl⟩,C⟩
    ·clear K1 K2 s8
     by_cases c2:M+1<=50
     ·have c3:¬ deep<=6:=fun h=>c1 ⟨c2,h⟩
      clear c1;have T:Hx (¬ (many+(AI (k+1) l:Nat)<=50/\dps (k+1) deep l)):=Aa (fun F=>c3 (F.2 d Z.o).1);go_wp2_with fail;refine (KM.o false 2 _).mono ?_;rintro e wz ⟨g,rfl⟩;have A:e=Ay 2:=by
       rcases g with ⟨g,_⟩ | ⟨_,g⟩
       ·cases g
       ·exact g
      subst A;clear g;unfold Ay;go_wp2_with fail;exact ⟨rfl,Or.inr ⟨T.o,rfl⟩,p⟩
     ·clear c1
      have T:Hx (¬ (many+(AI (k+1) l:Nat)<=50/\dps (k+1) deep l)):=Aa (fun F=>c2 (by have h1:=E.o;have h3:=F.1;omega));go_wp2_with fail;refine (KM.o false 2 _).mono ?_;rintro e wz ⟨g,rfl⟩;have A:e=Ay 2:=by
       rcases g with ⟨g,_⟩ | ⟨_,g⟩
       ·cases g
       ·exact g
      subst A;clear g;unfold Ay;go_wp2_with fail;exact ⟨rfl,Or.inr ⟨T.o,rfl⟩,p⟩
   ·have hd:l.take j=l:=List.take_of_length_le (by omega)
    rw [hd] at Q ab ⊢;go_wp2_with fail;go_ret;exact ⟨Or.inl ⟨rfl,Q,ab.o⟩,q⟩
theorem JF {k:Nat} {l:List FnD} (j:Nat):A2 k (l.take j)<=A2 k l:=by
 have h:A2 k l=A2 k (l.take j)+A2 k (l.drop j):=by
  unfold A2;rw [<-List.sum_append,<-List.map_append,List.take_append_drop]
 omega
def dpF (k:Nat) (fs:List FnD):Prop:=∀ f∈fs,dps k 1 f.body
def QT (dp:Prop) (n:Int) (w:World) (e:Ending) (w':World):Prop:=((e=zj (zk #[])/\n<=50/\dp)\/(¬ (n<=50/\dp)/\e=Ay 2))/\Ov w w'
theorem LM (K k:Nat) (m:Int) (ga gn gc sa sn sc ya yn yc oa on oc va vn vc) (fa fn fc ba bn bc) (fs l) (w:World) (hf:Bv w K k (O fa fn fc) fs) (hl:Bj w K k (O ba bn bc) l) :
  Calls Tryz.prog 175 #[zh #[zd U m,O ga gn gc,O sa sn sc,O ya yn yc,O oa on oc,O va vn vc,O fa fn fc,O ba bn bc]] w (QT (dpF k fs/\dps k 1 l) ((A2 k fs:Nat)+(AI k l:Nat)) w):=by
 have zr:=B3 w [zd U m,O ga gn gc,O sa sn sc,O ya yn yc,O oa on oc,O va vn vc,O fa fn fc,O ba bn bc] 184;have c6:=zr 6 _ rfl;have c7:=zr 7 _ rfl;clear zr;have E:Ov w (w.alloc (ze #[zd U m,O ga gn gc,O sa sn sc,O ya yn yc,O oa on oc,O va vn vc,O fa fn fc,O ba bn bc] 184)):=bA w _;obtain ⟨ab,bt,bs,aw,ad⟩:=hf;injection aw with e1 e2 e3;subst e1 e2 e3;have a9:fs.length<=9223372036854775807:=ab;have HF:=Aa ad;have HM:=Aa hl;clear ad hl ab;have K1:=Aa (NR K);go_enter Tryz.func175,Tryz.ntmps175;go_wp2_with fail;go_loopw [2,9] (fun c i wr=>∃ j:Nat,j<=fs.length/\i=zd U j/\c=zd U (A2 k (fs.take j):Nat)/\((A2 k (fs.take j):Nat):Int)<=50/\Hx (dpF k (fs.take j))/\wr.cell? ⟨w.heap.size,7,none⟩=some (O ba bn bc)/\Ov w wr) (fun _ i _=>fs.length - (intOf i).toNat)
 case atStart=>exact ⟨0,Nat.zero_le _,rfl,by simp [A2],by simp [A2],Aa (fun s H=>absurd H (by simp)),c7,E⟩
 case round=>
  clear c6 c7 E;obtain ⟨j,hj,rfl,rfl,u,N,c7,F⟩:=hrel;by_cases hjl:j < fs.length
  ·obtain ⟨b,off,rfl,ag⟩:=HF.o (by rintro rfl;simp at hjl)
   obtain ⟨vP,vB,x0,x1,x2,q0,q1,q2,q3,q4,hp,av,H,hx⟩:=ag j hjl;obtain ⟨pa,pc,rfl,-⟩:=hp;obtain ⟨za,zc,rfl,-⟩:=H.2;obtain ⟨xa,xc,S⟩:=hx.form;simp only [List.cons.injEq,and_true] at S;obtain ⟨rfl,rfl,rfl⟩:=S;have q:=DF (k:=k) hjl;obtain ⟨fd,ac⟩:=nm (fs[j]);have I:=List.getElem_mem hjl;have p:fs.take (j+1)=fs.take j++[fs[j]]:=List.take_succ_eq_append_getElem hjl;have C:=JF (k:=k) (l:=fs) (j+1);rw [<-ac] at q0 q1 q2 q3 q4 H q I p;have al:=Aa I;have ay:=Aa p;clear I p;obtain ⟨M,P⟩:∃ M:Nat,M=A2 k (fs.take j):=⟨_,rfl⟩;rw [<-P] at u q ⊢;have L:=Aa q;have G:Hx (M+AI k fd.body<=A2 k fs):=Aa (by rw [<-q];exact C);have b2:Hx (fd∈fs):=al;clear q P C;have r0:wr.cell? ⟨b,off+j*5,none⟩=_:=Ab F _ _ q0;obtain ⟨r1,r2,r3,r4⟩:=co4 F q1 q2 q3 q4;obtain ⟨pn,T⟩:=nm fd.ps.length;obtain ⟨zn,Q⟩:=nm fd.body.length;obtain ⟨ek,af⟩:=nm (AQ fd.res);obtain ⟨en,ae⟩:=nm (Bk fd.res);obtain ⟨xl,R⟩:=nm ((A4 fd.res).length);rw [<-T] at r0;rw [<-Q] at r1 H;rw [<-af] at r2;rw [<-ae] at r3;rw [<-R] at r4;have J:=bA wr (ze #[O pa pn pc,O za zn zc,zd U ek,zd U en,O xa xl xc] 105);have B:=F.trans (J.mono F.size);have ai:=Ab J _ _ c7;have h:=Aa (K1.o k _ _ 1 (M:Int) _ (H.over B) (by omega) (by omega) (by omega) u);obtain ⟨n1,V⟩:=nm (AI k fd.body);rw [<-V] at h L G;clear q0 q1 q2 q3 q4 H hx ag ac T Q af ae R V av;go_wp2_with fail;refine (h.o).mono ?_;rintro e w1 ⟨he,y⟩;have A:=B.trans (y.mono B.size);rcases he with ⟨rfl,Z,g⟩ | ⟨t,rfl⟩
   ·have a1:Hx (dpF k (fs.take (j+1))):=Aa (fun f hf=>by
     rw [ay.o,List.mem_append,List.mem_singleton] at hf;rcases hf with hf | rfl
     ·exact N.o f hf
     ·exact g)
    clear g;have ah:=Ab y _ _ ai;clear h y B J F r0 r1 r2 r3 r4 c7 ai;go_wp2_with fail;refine ⟨⟨j+1,by omega,by go_num,?_,?_,a1,ah,A⟩,by simp [intOf];omega⟩
    ·rw [L.o]
     refine congrArg (Value.int IntKind.i64) ?_
     push_cast
     omega
    ·rw [L.o]
     push_cast
     omega
   ·have HN:Hx (¬ ((A2 k fs:Nat)+((AI k l:Nat):Int)<=50/\dpF k fs/\dps k 1 l)):=Aa (fun hh=>t ⟨by have h1:=G.o;have h3:=hh.1;omega,hh.2.1 fd al.o⟩)
    clear t;unfold Ay;go_wp2_with fail;exact ⟨rfl,Or.inr ⟨HN.o,rfl⟩,A⟩
  ·have hd:fs.take j=fs:=List.take_of_length_le (by omega)
   rw [hd] at u N ⊢;have h:=Aa (K1.o k _ _ 1 ((A2 k fs:Nat):Int) _ (HM.o.over F) (by omega) (by omega) (by omega) u);obtain ⟨M,P⟩:∃ M:Nat,M=A2 k fs:=⟨_,rfl⟩;rw [<-P] at h u ⊢;have ak:=Aa P;clear P hd;go_wp2_with fail;refine (h.o).mono ?_;rintro e w1 ⟨he,y⟩;have A:=F.trans (y.mono F.size);rcases he with ⟨rfl,Z,g⟩ | ⟨t,rfl⟩
   ·have W:((A2 k fs:Nat):Int)+(AI k l:Nat)<=50:=by rw [<-ak.o];exact Z
    have a0:=Aa W;have a2:=Aa g;clear h W g;go_wp2_with fail;go_end0;exact ⟨Or.inl ⟨rfl,a0.o,N.o,a2.o⟩,A⟩
   ·have HN:Hx (¬ ((A2 k fs:Nat)+((AI k l:Nat):Int)<=50/\dpF k fs/\dps k 1 l)):=Aa (fun hh=>t ⟨by have h1:=ak.o;have h3:=hh.1;omega,hh.2.2⟩)
    clear t;unfold Ay;go_wp2_with fail;exact ⟨rfl,Or.inr ⟨HN.o,rfl⟩,A⟩
structure xP (K kf:Nat) (m:Int) (vn yn on sn:Nat) (gs:List (Int × Int)) (sp:List Int) (ls ms:List Lab) (vs:List (Bool × Lab)) (fs:List FnD) (l:List D):Prop where
 chk:AR m gs=0
 lim:(vn:Int)<=16/\(yn:Int)<=5/\(on:Int)<=5/\(fs.length:Int)<=5/\(sn:Int)<=m
 speak:∀ x∈sp,0<=x/\x < m
 labs:Fi m gs (ls++ms) vs
 many:((A2 kf fs:Nat):Int)+(AI kf l:Nat)<=50/\dpF kf fs/\dps kf 1 l
 body:∀ i (h:i < fs.length),xF K vn yn on (i:Int) fs kf fs[i]
 main:∀ s∈l,xS K vn yn on (fs.length:Int) fs kf s
theorem xP.ok {K kf:Nat} {m:Int} {vn yn on sn:Nat} {gs:List (Int × Int)} {sp:List Int} {ls ms:List Lab} {vs:List (Bool × Lab)} {fs:List FnD} {l:List D} (h:xP K kf m vn yn on sn gs sp ls ms vs fs l):okP K kf m vn yn on gs sp ls ms vs fs l:=
 ⟨h.chk,h.speak,h.labs,by have:=h.lim;omega,by have:=h.lim;omega,by have:=h.lim;omega,by have:=h.lim;omega,by have:=h.many.1;omega,fun i hi=>(h.body i hi).ok,fun s hs=>(h.main s hs).ok⟩
theorem Mk (K kf:Nat) (m:Int) (ga gn gc sa sn sc ya yn yc oa on oc va vn vc fa fn fc ba bn bc gs sp ls ms vs fs l) (w:World) (h:BD K kf m ga gn gc sa sn sc ya yn yc oa on oc va vn vc fa fn fc ba bn bc gs sp ls ms vs fs l w) :
  Calls Tryz.prog 113 #[zh #[zd U m,O ga gn gc,O sa sn sc,O ya yn yc,O oa on oc,O va vn vc,O fa fn fc,O ba bn bc]] w (Du (xP K kf m vn yn on sn gs sp ls ms vs fs l) w):=by
 have bf:fn=fs.length:=by obtain ⟨-,a,c,f,-⟩:=h.funcs;injection f
 have bk:=Aa bf;clear bf;have E:Ov w (w.alloc (ze #[zd U m,O ga gn gc,O sa sn sc,O ya yn yc,O oa on oc,O va vn vc,O fa fn fc,O ba bn bc] 184)):=bA w _;have HP:=Aa (h.over E);have KP:=Aa Hb;have KM:=Aa BZ;have KO:=Aa Bf;have KA:=Aa (Go.Proofs.YtfffpjkcfnekaaaGreat.check_any m (O ga gn gc) gs);have bb:vn<=9223372036854775807:=by obtain ⟨hm,a,c,f,-⟩:=h.vars;injection f with e1 e2 e3;rw [e2];exact hm
 obtain ⟨c0,c1,c2,c3,c4,c5,c6,c7⟩:=rc8 (B3 w [zd U m,O ga gn gc,O sa sn sc,O ya yn yc,O oa on oc,O va vn vc,O fa fn fc,O ba bn bc] 184);clear h;go_enter Tryz.func113,Tryz.ntmps113;go_wp2_with fail;refine (KA.o _ (HP.o.grants)).mono ?_;rintro e w1 ⟨rfl,au⟩;obtain ⟨R,Q,P,N,M,L,J,I⟩:=co8 au c0 c1 c2 c3 c4 c5 c6 c7;have ai:=E.trans (au.mono E.size);have ak:=Aa (HP.o.over au);obtain ⟨ce,a1⟩:=nm (AR m gs);rw [<-a1];have a5:=Aa a1;clear KA c0 c1 c2 c3 c4 c5 c6 c7 au E a1 HP;go_wp2_with fail;refine (KP.o _ _).mono ?_;rintro e wz ⟨f,rfl⟩;rcases f with ⟨t,rfl⟩ | ⟨t,rfl⟩;rotate_left
 ·have a7:ce≠0:=by simpa using t
  have V:Hx (¬ xP K kf m vn yn on sn gs sp ls ms vs fs l):=Aa (fun s=>a7 (a5.o.trans s.chk));unfold Ay;go_wp2_with fail;exact ⟨rfl,Or.inr ⟨V.o,ce,a7,rfl⟩,ai⟩
 have bl:=Aa (show AR m gs=0 by rw [<-a5.o];simpa using t);clear t a5;by_cases hlim:((vn:Int)<=16/\(yn:Int)<=5/\(on:Int)<=5/\(fn:Int)<=5/\(sn:Int)<=m);rotate_left
 ·have HL:=Aa hlim
  have V:Hx (¬ xP K kf m vn yn on sn gs sp ls ms vs fs l):=Aa (fun s=>hlim (by rw [bk.o];exact s.lim));clear hlim;go_wp2_with fail;all_goals
   refine (KM.o _ _ _).mono ?_;rintro e wz ⟨f,rfl⟩;rcases f with ⟨t,rfl⟩ | ⟨t,rfl⟩
   ·exfalso
    have:=HL.o;first | (simp at t;done) | (simp at t;omega)
   ·clear t
    unfold Ay;go_wp2_with fail;exact ⟨rfl,Or.inr ⟨V.o,2,by decide,rfl⟩,ai⟩
 have bi:Hx ((vn:Int)<=16/\(yn:Int)<=5/\(on:Int)<=5/\(fs.length:Int)<=5/\(sn:Int)<=m):=Aa (by rw [<-bk.o];exact hlim);obtain ⟨l1,l2,l3,l4,l5⟩:=hlim;go_wp2_with fail;refine (KM.o _ _ _).mono ?_;rintro e wz ⟨f,rfl⟩;rcases f with ⟨t,rfl⟩ | ⟨t,rfl⟩;rotate_left
 ·cases t
 clear t;have az:sn=sp.length:=by obtain ⟨a,c,f,-⟩:=ak.o.speak;injection f
 have dk:sn<=9223372036854775807:=by rw [az];exact ak.o.speakL
 have b8:=Aa az;clear az;go_wp2_with fail;go_loopw [53] (fun i wr=>∃ n:Nat,n<=sn/\i=zd U n/\(∀ x∈sp.take n,0<=x/\x < m)/\(wr.cell? ⟨w.heap.size,0,none⟩=some (zd U m)/\wr.cell? ⟨w.heap.size,1,none⟩=some (O ga gn gc)/\wr.cell? ⟨w.heap.size,2,none⟩=some (O sa sn sc)/\wr.cell? ⟨w.heap.size,3,none⟩=some (O ya yn yc)/\wr.cell? ⟨w.heap.size,4,none⟩=some (O oa on oc)/\wr.cell? ⟨w.heap.size,5,none⟩=some (O va vn vc)/\wr.cell? ⟨w.heap.size,6,none⟩=some (O fa fn fc)/\wr.cell? ⟨w.heap.size,7,none⟩=some (O ba bn bc))/\Ov wz wr) (fun i _=>sn - (intOf i).toNat)
 case atStart=>exact ⟨0,Nat.zero_le _,rfl,by simp,⟨R,Q,P,N,M,L,J,I⟩,Below.refl _ _⟩
 case round=>
  clear R Q P N M L J I;obtain ⟨n,hn,rfl,ax,⟨R,Q,P,N,M,L,J,I⟩,S⟩:=hrel;have am:=Aa ax;clear ax;have k:=ai.trans (S.mono ai.size);by_cases hnl:n < sn
  ·obtain ⟨a2,c2,f,ae⟩:=ak.o.speak.over S
   injection f with e1 e2 e3;have u:n < sp.length:=by omega
   obtain ⟨b,off,ag,A⟩:=ae (by intro h;rw [h] at u;simp at u);have q:=A n u;have a3:=e1.trans ag;subst a3;obtain ⟨x,s⟩:=nm (sp[n]);rw [<-s] at q;have HX:=Aa s;clear ae A s e1 e2 e3 ag;go_wp2_with fail;refine (KO.o _ _ _).mono ?_;rintro e wy ⟨rfl,rfl⟩;obtain ⟨ok,g⟩:=nm (decide (0<=x/\x < m));rw [<-g];have T:=Aa g;clear g;go_wp2_with fail;refine (KM.o _ _ _).mono ?_;rintro e wx ⟨f,rfl⟩;rcases f with ⟨t,rfl⟩ | ⟨t,rfl⟩;rotate_left
   ·have V:Hx (¬ xP K kf m vn yn on sn gs sp ls ms vs fs l):=Aa (fun s=>by have h1:=T.o;rw [t] at h1;have h2:=s.speak x (by rw [HX.o];exact List.getElem_mem _);simp at h1;omega)
    clear t;unfold Ay;go_wp2_with fail;exact ⟨rfl,Or.inr ⟨V.o,5,by decide,rfl⟩,k⟩
   have HZ:=Aa (show 0<=x/\x < m by have h:=T.o;rw [t] at h;simpa using h.symm);clear t T;go_wp2_with fail;exact ⟨⟨n+1,by omega,by go_num,EE u am.o (by rw [<-HX.o];exact HZ.o),⟨R,Q,P,N,M,L,J,I⟩,S⟩,by simp [intOf];omega⟩
  ·have y:=Aa (ak.o.over S)
   obtain ⟨w2,a9⟩:=nm wr;rw [<-a9] at R Q P N M L J I k y ⊢;have b7:=Aa (EF (by rw [<-b8.o];omega) am.o);clear a9 S ak ai am;have KL:=Aa (Kq m ga gn gc sa sn sc ya yn yc oa on oc va vn vc fa fn fc ba bn bc gs ls ms vs w2 y.o.grants y.o.ins y.o.outs y.o.vars (by omega) (by omega) y.o.insN y.o.outsN);go_wp2_with fail;refine (KL.o).mono ?_;rintro e w3 ⟨f,ar⟩;have G:=k.trans (ar.mono k.size);have aw:=Aa (y.o.over ar);obtain ⟨r0,r1,r2,r3,r4,r5,r6,r7⟩:=co8 ar R Q P N M L J I;clear KL R Q P N M L J I;rcases f with ⟨ay,rfl⟩ | ⟨p,W,ac,rfl⟩;rotate_left
   ·have V:Hx (¬ xP K kf m vn yn on sn gs sp ls ms vs fs l):=Aa (fun s=>p s.labs)
    clear p;unfold Ay;go_wp2_with fail;exact ⟨rfl,Or.inr ⟨V.o,W,ac,rfl⟩,G⟩
   have bj:=Aa ay;clear ar y k ay;have KI:=Aa (LM K kf m ga gn gc sa sn sc ya yn yc oa on oc va vn vc fa fn fc ba bn bc fs l w3 aw.o.funcs aw.o.main);go_wp2_with fail;refine (KI.o).mono ?_;rintro e w4 ⟨f,aq⟩;have ah:=G.trans (aq.mono G.size);have aj:=Aa (aw.o.over aq);obtain ⟨R,Q,P,N,M,L,J,I⟩:=co8 aq r0 r1 r2 r3 r4 r5 r6 r7;clear KI r0 r1 r2 r3 r4 r5 r6 r7;rcases f with ⟨rfl,a0⟩ | ⟨p,rfl⟩;rotate_left
   ·have V:Hx (¬ xP K kf m vn yn on sn gs sp ls ms vs fs l):=Aa (fun s=>p s.many)
    clear p;unfold Ay;go_wp2_with fail;exact ⟨rfl,Or.inr ⟨V.o,2,by decide,rfl⟩,ah⟩
   have bh:=Aa a0;have an:fn=fs.length:=by obtain ⟨-,a,c,f,-⟩:=aj.o.funcs;injection f
   have a4:=Aa an;clear aq aw G a0 an;go_wp2_with fail;go_loopw [73] (fun i wr=>∃ n:Nat,n<=fn/\i=zd U n/\(∀ j (h:j < fs.length),j < n->xF K vn yn on (j:Int) fs kf fs[j])/\(wr.cell? ⟨w.heap.size,0,none⟩=some (zd U m)/\wr.cell? ⟨w.heap.size,1,none⟩=some (O ga gn gc)/\wr.cell? ⟨w.heap.size,2,none⟩=some (O sa sn sc)/\wr.cell? ⟨w.heap.size,3,none⟩=some (O ya yn yc)/\wr.cell? ⟨w.heap.size,4,none⟩=some (O oa on oc)/\wr.cell? ⟨w.heap.size,5,none⟩=some (O va vn vc)/\wr.cell? ⟨w.heap.size,6,none⟩=some (O fa fn fc)/\wr.cell? ⟨w.heap.size,7,none⟩=some (O ba bn bc))/\Ov w4 wr) (fun i _=>fn - (intOf i).toNat)
   case atStart=>exact ⟨0,Nat.zero_le _,rfl,fun j h h'=>absurd h' (by omega),⟨R,Q,P,N,M,L,J,I⟩,Below.refl _ _⟩
   case round=>
    clear R Q P N M L J I;obtain ⟨n,hn,rfl,g,⟨R,Q,P,N,M,L,J,I⟩,S⟩:=hrel;have T:=Aa g;clear g;have k:=ah.trans (S.mono ah.size);by_cases hnl:n < fn
    ·obtain ⟨-,ao,cap,f,ae⟩:=aj.o.funcs.over S
     injection f with e1 e2 e3;have u:n < fs.length:=by omega
     obtain ⟨b,off,ag,A⟩:=ae (by intro h;rw [h] at u;simp at u);obtain ⟨vP,vB,x0,x1,x2,q0,q1,q2,q3,q4,hp,⟨bd,pa,pc,bz,be⟩,hs,s⟩:=A n u;have a3:=e1.trans ag;subst a3;subst bz;have b1:=hs;obtain ⟨-,za,zc,b0,-⟩:=b1;subst b0;obtain ⟨xa,xc,a8⟩:=s.form;simp only [List.cons.injEq,and_true] at a8;obtain ⟨rfl,rfl,rfl⟩:=a8;have B:=bA wr (ze #[O pa fs[n].ps.length pc,O za fs[n].body.length zc,zd U (AQ fs[n].res),zd U (Bk fs[n].res),O xa (A4 fs[n].res).length xc] 105);have av:=k.trans (B.mono k.size);have H:=Ac S B;have KF:=Aa (Iu K kf kf fs fs[n] (n:Int) m ga gn gc sa sn sc ya yn yc oa on oc va vn vc (some ⟨b,off,none⟩) fn fc ba bn bc pa fs[n].ps.length pc za fs[n].body.length zc (AQ fs[n].res) (Bk fs[n].res) xa (A4 fs[n].res).length xc _ bb (by omega) (by omega) (by omega) (by omega) (by omega) (hp.over B) bd be (hs.over B) (s.over B) (aj.o.funcs.over H));obtain ⟨pl,ab⟩:=nm (fs[n].ps.length);obtain ⟨zl,Z⟩:=nm (fs[n].body.length);obtain ⟨ek,af⟩:=nm (AQ fs[n].res);obtain ⟨en,ad⟩:=nm (Bk fs[n].res);obtain ⟨xl,aa⟩:=nm ((A4 fs[n].res).length);rw [<-ab,<-Z,<-af,<-ad,<-aa] at KF B av H;rw [<-ab] at q0;rw [<-Z] at q1;rw [<-af] at q2;rw [<-ad] at q3;rw [<-aa] at q4;obtain ⟨f0,f1,f2,f3,f4,f5,f6,f7⟩:=co8 B R Q P N M L J I;clear ae A e1 e2 e3 ag hp bd be hs s ab Z af ad aa R Q P N M L J I;go_wp2_with fail;refine (KF.o).mono ?_;rintro e w5 ⟨f,C⟩;have b3:=Ac H C;have F:=av.trans (C.mono av.size);obtain ⟨r0,r1,r2,r3,r4,r5,r6,r7⟩:=co8 C f0 f1 f2 f3 f4 f5 f6 f7;clear KF f0 f1 f2 f3 f4 f5 f6 f7 C B av H S k q0 q1 q2 q3 q4;rcases f with ⟨g,rfl⟩ | ⟨p,W,ac,rfl⟩;rotate_left
     ·have V:Hx (¬ xP K kf m vn yn on sn gs sp ls ms vs fs l):=Aa (fun s=>p (s.body n u))
      clear p;unfold Ay;go_wp2_with fail;exact ⟨rfl,Or.inr ⟨V.o,W,ac,rfl⟩,F⟩
     have al:=Aa g;clear g;go_wp2_with fail;refine ⟨⟨n+1,by omega,by go_num,fun j h h'=>?_,⟨r0,r1,r2,r3,r4,r5,r6,r7⟩,b3⟩,by simp [intOf];omega⟩;by_cases hjn:j < n
     ·exact T.o j h hjn
     ·obtain rfl:j=n:=by omega
      exact al.o
    ·have KS:=Aa (G6 K kf fs (fn:Int) m ga gn gc sa sn sc ya yn yc oa on oc va vn vc fa fn fc ba bn bc bb (by omega) (by omega) (by omega) (by omega) (by have:=a4.o;omega) kf (O ba bn bc) l wr (aj.o.main.over S) (aj.o.funcs.over S))
     go_wp2_with fail;refine (KS.o).mono ?_;rintro e w5 ⟨f,C⟩;have F:=k.trans (C.mono k.size);clear KS R Q P N M L J I C S k;rcases f with ⟨g,rfl⟩ | ⟨p,W,ac,rfl⟩;rotate_left
     ·have V:Hx (¬ xP K kf m vn yn on sn gs sp ls ms vs fs l):=Aa (fun s=>p (by rw [a4.o];exact s.main))
      clear p;unfold Ay;go_wp2_with fail;exact ⟨rfl,Or.inr ⟨V.o,W,ac,rfl⟩,F⟩
     have al:=Aa g;clear g;go_wp2_with fail;go_end0;have an:=a4.o;have a0:=bh.o;refine ⟨Or.inl ⟨⟨bl.o,bi.o,b7.o,bj.o,bh.o,fun j h=>T.o j h (by omega),?_⟩,rfl⟩,F⟩;rw [<-an];exact al.o
def Said (ok:Prop) (w:World) (f:Int->Value) (e:Ending) (w':World):Prop:=∃ why:Int,e=zj (f why)/\(why=0 ↔ ok)/\Ov w w'
theorem Ml (K kf:Nat) (m:Int) (ga gn gc sa sn sc ya yn yc oa on oc va vn vc fa fn fc ba bn bc gs sp ls ms vs fs l) (w:World) (h:BD K kf m ga gn gc sa sn sc ya yn yc oa on oc va vn vc fa fn fc ba bn bc gs sp ls ms vs fs l w) :
  Calls Tryz.prog 112 #[.func (.func 113) #[zh #[zd U m,O ga gn gc,O sa sn sc,O ya yn yc,O oa on oc,O va vn vc,O fa fn fc,O ba bn bc]] #[]] w (Said (xP K kf m vn yn on sn gs sp ls ms vs fs l) w fun why=>zk #[zd U 0,zd U why]):=by
 have P:∀ (fn:Fn) (first cap:Array Value) (w:World),(Instr.makeFunc fn first cap).run Tryz.prog w=.ok (.func fn first cap) w:=fun _ _ _ _=>rfl;have V:∀ (args:Array Value) (w:World),(callFunc 113 args).run Tryz.prog w=.ok (.enter 113 args) w:=fun args w=>by simp [go_sem]
 have b:Ov w ((w.alloc (ze #[zd U 0] 3)).alloc (ze #[zd U 0] 32)):=(bA w _).alloc (by simp) _;have K:=Aa (Mk K kf m ga gn gc sa sn sc ya yn yc oa on oc va vn vc fa fn fc ba bn bc gs sp ls ms vs fs l _ (h.over b));have I:=GM w [zd U 0] 3 (ze #[zd U 0] 32) 0 _ rfl;have H:=Ig w (ze #[zd U 0] 3) [zd U 0] 32 0 _ rfl;have z0:((w.alloc (ze #[zd U 0] 3)).alloc (ze #[zd U 0] 32)).frozen? ⟨w.heap.size,0,none⟩=false:=by simp [go_sem]
 have z1:((w.alloc (ze #[zd U 0] 3)).alloc (ze #[zd U 0] 32)).frozen? ⟨w.heap.size+1,0,none⟩=false:=by simp [go_sem]
 clear h
 go_enter_defers Tryz.func112,Tryz.ntmps112
 go_wp2_with fail;refine (K.o).mono ?_;rintro e k ⟨Q,i⟩;obtain ⟨R,B⟩:=An i;have s:=b.trans (i.mono b.size);obtain ⟨J,y⟩:=co2 i I H;have M:=(B w.heap.size 0 (by simp;omega)).trans z0;have L:=(B (w.heap.size+1) 0 (by simp)).trans z1;have S:w.heap.size+1 < k.heap.size:=bL y;have T:w.heap.size < k.heap.size:=by omega
 clear R B I H z0 z1 i K b;rcases Q with ⟨p,rfl⟩ | ⟨q,why,A,rfl⟩
 ·have E:=Aa p
  clear p;go_wp2_with fail;refine leaves_cons (f:=170) (args:=#[zi (some ⟨w.heap.size,0,none⟩),zi (some ⟨w.heap.size+1,0,none⟩)]) (by simp) (by simp [go_sem]) ?_;refine (Mm _ _ _).mono ?_;rintro e N G ⟨rfl,rfl,rfl⟩;have u:((k.setCell ⟨w.heap.size,0,none⟩ (zd U 0)).setCell ⟨w.heap.size+1,0,none⟩ (zd U 0)).cell? ⟨w.heap.size,0,none⟩=some (zd U 0):=by simp [go_sem,J]
  have t:((k.setCell ⟨w.heap.size,0,none⟩ (zd U 0)).setCell ⟨w.heap.size+1,0,none⟩ (zd U 0)).cell? ⟨w.heap.size+1,0,none⟩=some (zd U 0):=by simp [go_sem,y]
  have g:Ov w ((k.setCell ⟨w.heap.size,0,none⟩ (zd U 0)).setCell ⟨w.heap.size+1,0,none⟩ (zd U 0)):=(s.setCell (by simp) _).setCell (by simp) _;generalize ((k.setCell ⟨w.heap.size,0,none⟩ (zd U 0)).setCell ⟨w.heap.size+1,0,none⟩ (zd U 0))=wF at u t g ⊢;simp [Leaves,settle,results,Tryz.results112,go_sem,u,t];exact ⟨0,rfl,⟨fun _=>E.o,fun _=>rfl⟩,g⟩
 ·have F:=Aa q
  clear q;unfold Ay;go_wp2_with fail;refine leaves_cons (f:=170) (args:=#[zi (some ⟨w.heap.size,0,none⟩),zi (some ⟨w.heap.size+1,0,none⟩)]) (by simp) (by simp [go_sem]) ?_;refine (Mn w.heap.size 0 0 _ _ [] _ (by omega) J y M L).mono ?_;rintro e N G ⟨rfl,rfl,u,t,C⟩;have g:Ov w G:=s.trans C;simp [Leaves,settle,results,Tryz.results112,go_sem,u,t];exact ⟨why,rfl,⟨fun h=>absurd h A,fun h=>absurd h F.o⟩,g⟩
theorem scopeCheck_any (K kf:Nat) (m:Int) (ga gn gc sa sn sc ya yn yc oa on oc va vn vc fa fn fc ba bn bc gs sp ls ms vs fs l) (w:World) (h:BD K kf m ga gn gc sa sn sc ya yn yc oa on oc va vn vc fa fn fc ba bn bc gs sp ls ms vs fs l w) :
  Calls Tryz.prog 53 #[zh #[zd U m,O ga gn gc,O sa sn sc,O ya yn yc,O oa on oc,O va vn vc,O fa fn fc,O ba bn bc]] w (Said (xP K kf m vn yn on sn gs sp ls ms vs fs l) w fun why=>zd U why):=by
 have b:Ov w ((w.alloc (ze #[zd U m,O ga gn gc,O sa sn sc,O ya yn yc,O oa on oc,O va vn vc,O fa fn fc,O ba bn bc] 31)).alloc (ze #[zd U m,O ga gn gc,O sa sn sc,O ya yn yc,O oa on oc,O va vn vc,O fa fn fc,O ba bn bc] 184)):=(bA w _).alloc (by simp) _;have K:=Aa (Ml K kf m ga gn gc sa sn sc ya yn yc oa on oc va vn vc fa fn fc ba bn bc gs sp ls ms vs fs l _ (h.over b));clear h;go_enter Tryz.func53,Tryz.ntmps53;go_wp2_with fail;refine (K.o).mono ?_;rintro e p ⟨why,rfl,f,g⟩;have i:=b.trans (g.mono b.size);have k:=Aa f;clear b g K f;go_wp2_with fail;go_ret;exact ⟨why,rfl,k.o,i⟩
end Go.Proofs.YtfffpjkcfnekaaaGreat.Ex.Ey
namespace Go.Proofs.YtfffpjkcfnekaaaGreat.Ex
open Go.RowKit
open Go.Value renaming slice -> O, int -> zd, bool -> zg, agg -> zh, pointer -> zi, tuple -> zk
open Go.IntKind renaming i64 -> U
open Go.Obj renaming cells -> ze
open Go.Ending renaming returned -> zj
def sm1:D:=sD 3 0 0 (xD 0 0 []) [] [] []
def sm2:D:=sD 4 0 0 (xD 2 0 []) [] [] []
theorem BS (n:Int) (h:0<=n) (h2:n<=100):Cu n:=⟨by omega,by omega⟩
theorem Ea {s:Nat} {R:List Value->D->Prop} {w:World}:XS s R w (O none 0 0) []:=⟨Nat.zero_le _,none,0,rfl,fun h=>absurd rfl h⟩
theorem Ee {w:World}:AL w (O none 0 0) []:=⟨none,0,rfl,fun h=>absurd rfl h⟩
theorem IJ {bi bo bv bm:Nat} {w:World} (h:Ii bi bo bv bm w):BD 1 1 1 none 0 0 none 0 0 (some ⟨bi,0,none⟩) 1 1 (some ⟨bo,0,none⟩) 1 1 (some ⟨bv,0,none⟩) 1 1 none 0 0 (some ⟨bm,0,none⟩) 2 2 [] [] [⟨[],[]⟩] [⟨[],[]⟩] [(false,⟨[],[]⟩)] [] [sm1,sm2] w:=by
 have f:∀ b,Ad [O none 0 0,O none 0 0] w b->AW w (O (some ⟨b,0,none⟩) 1 1) [⟨[],[]⟩]:=fun b k=>by
  refine ⟨by simp [maxLen],some ⟨b,0,none⟩,1,rfl,fun _=>⟨b,0,rfl,fun i hi=>?_⟩⟩;have:i=0:=by simp at hi;omega
  subst this;exact ⟨_,_,k 0 _ rfl,k 1 _ rfl,Ee,Ee⟩
 refine ⟨BS 1 (by omega) (by omega),⟨none,0,rfl,fun h=>absurd rfl h⟩,⟨none,0,rfl,fun h=>absurd rfl h⟩,by simp,f _ h.ins,f _ h.outs,?_,?_,?_,fun h=>absurd h (by simp),fun h=>absurd h (by simp)⟩
 ·refine ⟨by simp [maxLen],some ⟨bv,0,none⟩,1,rfl,fun _=>⟨bv,0,rfl,fun i hi=>?_⟩⟩
  have:i=0:=by simp at hi;omega
  subst this;exact ⟨_,_,h.vars 0 _ rfl,h.vars 1 _ rfl,h.vars 2 _ rfl,Ee,Ee⟩
 ·exact ⟨by simp,none,0,rfl,fun h=>absurd rfl h⟩
 ·refine ⟨by simp [maxLen],some ⟨bm,0,none⟩,2,rfl,fun _=>⟨bm,0,rfl,fun i d e=>?_⟩⟩
  match i,e with
  | 0,e=>
   simp at e;subst e;refine ⟨EM.take 9,rfl,fun j u g=>?_,3,0,0,_,_,_,xD 0 0 [],_,[],_,[],_,[],rfl,rfl,BS _ (by omega) (by omega),BS _ (by omega) (by omega),BS _ (by omega) (by omega),⟨0,0,_,[],rfl,rfl,BS _ (by omega) (by omega),BS _ (by omega) (by omega),Ea⟩,Ea,Ea,Ea⟩;rw [List.getElem?_take] at g;split at g
   ·have:=h.main j u g
    simpa using this
   ·cases g
  | 1,e=>
   simp at e;subst e;refine ⟨EM.drop 9,rfl,fun j u g=>?_,4,0,0,_,_,_,xD 2 0 [],_,[],_,[],_,[],rfl,rfl,BS _ (by omega) (by omega),BS _ (by omega) (by omega),BS _ (by omega) (by omega),⟨2,0,_,[],rfl,rfl,BS _ (by omega) (by omega),BS _ (by omega) (by omega),Ea⟩,Ea,Ea,Ea⟩;rw [List.getElem?_drop] at g;have:=h.main (9+j) u g;simpa [Nat.add_assoc] using this
  | i+2,e=>simp at e
theorem Si:AU ((1:Nat):Int) 1 (Am sm2)=0:=by
 simp [AU,sm2,CX,CF,Cp,BM,BQ,xD,AQ,Bk,A4]
theorem OS:Cx 1 1 1 1 (([]:List FnD).length:Int) [] sm1:=by
 unfold Cx;simp [sm1,xD,AQ,A4]
theorem OQ:Cx 1 1 1 1 (([]:List FnD).length:Int) [] sm2:=by
 have h:=Si;unfold Cx;have e:Ag sm2=4:=rfl;have b:Ae sm2=0:=rfl;rw [e,b];exact ⟨by decide,fun h=>absurd h (by decide),fun h=>absurd h (by decide),fun h=>absurd h (by decide),fun _=>h,fun h=>absurd h (by decide),fun _=>by decide⟩
theorem GQ:okP 1 1 1 1 1 1 [] [] [⟨[],[]⟩] [⟨[],[]⟩] [(false,⟨[],[]⟩)] [] [sm1,sm2]:=by
 refine ⟨rfl,by simp,⟨?_,?_,?_⟩,by omega,by omega,by omega,by simp,by decide,fun i h=>absurd h (by simp),?_⟩
 ·intro b g
  simp at g;subst g;rfl
 ·intro v f
  simp at f;subst f;rfl
 ·intro v f _
  simp at f;subst f;exact ⟨rfl,rfl⟩
 ·intro s e
  simp at e;rcases e with rfl | rfl
  ·exact ⟨OS,fun s e=>absurd e (by simp [sm1]),fun s e=>absurd e (by simp [sm1])⟩
  ·exact ⟨OQ,fun s e=>absurd e (by simp [sm2]),fun s e=>absurd e (by simp [sm2])⟩
theorem G7:Ey.xP 1 1 1 1 1 1 0 [] [] [⟨[],[]⟩] [⟨[],[]⟩] [(false,⟨[],[]⟩)] [] [sm1,sm2]:=by
 refine ⟨GQ.chk,by simp,GQ.speak,GQ.labs,⟨by have:=GQ.many;omega,fun f e=>absurd e (by simp),?_⟩,fun i h=>absurd h (by simp),?_⟩
 ·intro s b
  simp at b;rcases b with rfl | rfl
  ·exact ⟨by omega,fun s b=>absurd b (by simp [sm1]),fun s b=>absurd b (by simp [sm1])⟩
  ·exact ⟨by omega,fun s b=>absurd b (by simp [sm2]),fun s b=>absurd b (by simp [sm2])⟩
 ·intro s b
  simp at b;rcases b with rfl | rfl
  ·exact ⟨⟨OS,fun _=>rfl,fun _=>rfl,fun _=>rfl,fun _=>rfl,fun _=>rfl,fun _=>rfl⟩,fun s b=>absurd b (by simp [sm1]),fun s b=>absurd b (by simp [sm1])⟩
  ·exact ⟨⟨OQ,fun _=>rfl,fun _=>rfl,fun h=>absurd h (by decide),fun _=>rfl,fun _=>rfl,fun _=>rfl⟩,fun s b=>absurd b (by simp [sm2]),fun s b=>absurd b (by simp [sm2])⟩
theorem NL {gs:List (Int × Int)} {n:Nat} {vs:List (Bool × Lab)} {i:Nat} (h:i < vs.length):(CJ gs n vs).getD i Ah=if vs[i].1=true then Ar (Ax gs) n vs[i].2 else A7 n:=by
 simp [CJ,List.getD_eq_getElem?_getD,h]
theorem LR {vs:List (Bool × Lab)} {i:Nat} (h:(vs.map Prod.fst).getD i false=true):∃ hi:i < vs.length,vs[i].1=true:=by
 by_cases hi:i < vs.length
 ·exact ⟨hi,by simpa [List.getD_eq_getElem?_getD,hi] using h⟩
 ·simp [List.getD_eq_getElem?_getD,List.getElem?_eq_none (Nat.le_of_not_lt hi)] at h
theorem LY (gs) (n:Nat) (vs:List (Bool × Lab)) (nf:Nat) (b:Bool):Fo n vs.length nf (vs.map Prod.fst) (CJ gs n vs) ⟨CJ gs n vs,List.replicate nf (A7 n),b⟩:=by
 refine ⟨by simp [CJ],by simp,fun l hl=>?_,fun l hl=>?_,fun i _=>rfl⟩
 ·simp only [CJ,List.mem_map] at hl
  obtain ⟨v,-,rfl⟩:=hl;split
  ·exact Dl _ _ _
  ·exact DG n
 ·rw [List.eq_of_mem_replicate hl]
  exact DG n
theorem Fo.more {n nv nf:Nat} {known:List Bool} {L:List Lev} {st:ISt} (h:Fo n nv nf known L st) (b:Bool):Fo n nv nf known L ⟨st.vs,st.fs,b⟩:=⟨h.lv,h.lf,h.rv,h.rf,h.kn⟩
theorem Ho (n K kf:Nat) (gs) (vs:List (Bool × Lab)) (ls:List Lab) (fs:List FnD) (main):∀ k,Fo n vs.length fs.length (vs.map Prod.fst) (CJ gs n vs) (Cs n K kf (vs.map Prod.fst) (ls.map (Ar (Ax gs) n)) fs main (CO gs n vs fs.length) k)
 | 0=>LY gs n vs fs.length true
 | k+1=>(Nm n vs.length fs.length K kf _ (CJ gs n vs) _ fs main _).1 ((Ho n K kf gs vs ls fs main k).more false)
theorem Hs {n K kf:Nat} {gs:List (Int × Int)} {vs:List (Bool × Lab)} {ls:List Lab} {fs:List FnD} {main:List D} {st:ISt} (h:B2 n K kf gs vs ls fs main st):∀ i (hi:i < vs.length),vs[i].1=true->st.vs.getD i Ah=Ar (Ax gs) n vs[i].2:=by
 obtain ⟨k,hk,-,-⟩:=h;intro i hi b;have e:=Ho n K kf gs vs ls fs main (k+1);rw [<-hk] at e;rw [e.kn i (by simp [List.getD_eq_getElem?_getD,hi,b]),NL hi,if_pos b]
end Go.Proofs.YtfffpjkcfnekaaaGreat.Ex
namespace Go.Proofs.YtfffpjkcfnekaaaGreat
open Go.RowKit
open Go.Value renaming slice -> O, int -> zd, bool -> zg, agg -> zh, pointer -> zi, tuple -> zk
open Go.IntKind renaming i64 -> U
open Go.Obj renaming cells -> ze
open Go.Ending renaming returned -> zj
attribute [local go_sem ↓] Go.wp_at_zero Go.wp_at_succ
def lv:Lev:=⟨[false,true],[true,true]⟩
end Go.Proofs.YtfffpjkcfnekaaaGreat
namespace Go.Proofs.YtfffpjkcfnekaaaGreat.Ex
open Go.RowKit Go.ChangeShapes Go.WideShapes
open Go.Value renaming slice -> O, int -> zd, bool -> zg, agg -> zh, pointer -> zi, tuple -> zk
open Go.IntKind renaming i64 -> U
open Go.Obj renaming cells -> ze
open Go.Ending renaming returned -> zj
theorem Tryz.cells25:Tryz.prog.cellsOf 25=1:=by kernel_rfl
theorem Tryz.cells26:Tryz.prog.cellsOf 26=1:=by kernel_rfl
theorem Tryz.cells27:Tryz.prog.cellsOf 27=1:=by kernel_rfl
theorem Tryz.cells28:Tryz.prog.cellsOf 28=1:=by kernel_rfl
theorem Tryz.cells29:Tryz.prog.cellsOf 29=1:=by kernel_rfl
theorem Tryz.cells22:Tryz.prog.cellsOf 22=1:=by kernel_rfl
theorem Tryz.cells52:Tryz.prog.cellsOf 92=1:=by kernel_rfl
theorem Tryz.cells65:Tryz.prog.cellsOf 37=1:=by kernel_rfl
theorem Tryz.cells4:Tryz.prog.cellsOf 4=1:=by kernel_rfl
theorem Tryz.cells3':Tryz.prog.cellsOf 3=1:=by kernel_rfl
theorem Tryz.cells24:Tryz.prog.cellsOf 24=2:=by kernel_rfl
theorem Tryz.cells54:Tryz.prog.cellsOf 94=3:=by kernel_rfl
theorem Tryz.cells67:Tryz.prog.cellsOf 39=2:=by kernel_rfl
theorem Tryz.cells122:Tryz.prog.cellsOf 87=2:=by kernel_rfl
theorem Tryz.cells71:Tryz.prog.cellsOf 130=9:=by kernel_rfl
theorem Tryz.cells80:Tryz.prog.cellsOf 105=5:=by kernel_rfl
theorem Tryz.cells69:Tryz.prog.cellsOf 41=3:=by kernel_rfl
theorem Tryz.cells101:Tryz.prog.cellsOf 169=2:=by kernel_rfl
theorem Tryz.cells31:Tryz.prog.cellsOf 31=8:=by kernel_rfl
def LAt {α:Type} (s:Nat) (R:List Value->α->Prop) (W:World) (v:Value) (ds:List α):Prop:=
 ds.length<=maxLen/\∃ ao cap,v=O ao ds.length cap/\ds.length<=cap/\cap<=maxLen/\(ao=none->cap=0)/\(ds≠[]->∃ b off,ao=some ⟨b,off,none⟩ /\
  ∀ (i:Nat) (d:α),ds[i]? = some d->∃ cs:List Value,cs.length=s/\(∀ (j:Nat) (u:Value),cs[j]? = some u->W.cell? ⟨b,off+i*s+j,none⟩=some u)/\R cs d)
section
variable {H:Type} {enc:TypeId × Value->H} {W:World}
theorem BX {α:Type} {TS E s:Nat} (hU:Tryz.prog.underlying TS=some (.slice E)) (hc:Tryz.prog.cellsOf E=s) (hs:0 < s) {fuel:Nat} {v:Value} {x:DataW H × List MemPlace} (h:DataW.trod enc Tryz.prog W 0 (fun _=>true) true fuel TS [v]=some x)
  (d0:α) (R:List Value->α->Prop) (hel:∀ (m:Nat) (cs:List Value) (y:DataW H × List MemPlace),m < fuel->DataW.trod enc Tryz.prog W 0 (fun _=>true) true m E cs=some y->∃ d,R cs d):∃ ds:List α,LAt s R W v ds:=by
 haveI:Inhabited α:=⟨d0⟩
 rcases DataW.trod_slice hU h with ⟨e,-⟩ | ⟨F,len,cap,N,O,m,rfl,e,-,-,I,L,V,C,-,-⟩
 ·simp at e
  subst e;exact ⟨[],by simp,none,0,rfl,by simp,by unfold maxLen;omega,fun _=>rfl,fun h=>absurd rfl h⟩
 ·simp at e
  subst e;rw [hc] at C;have A:∀ i,i < len->∃ d:α,∃ cs:List Value,cs.length=s/\(∀ (j:Nat) (u:Value),cs[j]? = some u->W.cell? (F.add (i*s+j))=some u)/\R cs d:=fun i hi=>by
   have t:=C i hi;rw [List.getElem?_eq_getElem (by omega),Option.bind_eq_some_iff] at t;obtain ⟨cs,M,Q⟩:=t;obtain ⟨-,q,k⟩:=World.cells?_some M;obtain ⟨d,B⟩:=hel m cs _ (Nat.lt_succ_self _) Q;refine ⟨d,cs,q,fun j u l=>?_,B⟩;have U:j < s:=by have:=(List.getElem?_eq_some_iff.1 l).1;omega
   have hk:=k j U;rw [l] at hk;rw [Addr.add_add] at hk;exact hk
  obtain ⟨f,P⟩:=Deep.choose_lt A;refine ⟨(List.range len).map f,by simp;omega,some F,cap,by simp,by simpa using I,L,fun h=>absurd h (by simp),fun G=>?_⟩;have Z:0 < len:=by
   rcases Nat.eq_zero_or_pos len with h | h
   ·subst h;simp at G
   ·exact h
  have T:∃ b off,F=⟨b,off,none⟩:=by
   obtain ⟨cs,hl,g,-⟩:=P 0 Z;obtain ⟨u,l⟩:∃ u,cs[0]? = some u:=⟨cs[0]'(by omega),List.getElem?_eq_getElem (by omega)⟩;have hk:=g 0 u l;have p:F.spot=none:=by simpa [Addr.add] using World.cell?_spot hk
   obtain ⟨b,off,sp⟩:=F;simp only at p;subst p;exact ⟨b,off,rfl⟩
  obtain ⟨bb,off,rfl⟩:=T;refine ⟨bb,off,rfl,fun i d B=>?_⟩;have hi:i < len:=by
   have:=(List.getElem?_eq_some_iff.1 B).1;simpa using this
  have J:d=f i:=by
   rw [List.getElem?_map,List.getElem?_range hi] at B;simpa using B.symm
  subst J;obtain ⟨cs,hl,g,S⟩:=P i hi;exact ⟨cs,hl,fun j u l=>by have:=g j u l;rw [Addr.add_lit] at this;simpa [Nat.add_assoc] using this,S⟩
theorem Jy {v:Value} {l:List Int} (h:LAt 1 (fun cs x=>cs=[zd U x]) W v l):AN W v l:=by
 obtain ⟨-,s,cap,k,-,-,-,p⟩:=h;refine ⟨s,cap,k,fun e=>?_⟩;obtain ⟨b,off,q,f⟩:=p e;refine ⟨b,off,q,fun i hi=>?_⟩;obtain ⟨cs,-,g,rfl⟩:=f i l[i] (List.getElem?_eq_getElem hi);have:=g 0 _ rfl;simpa using this
theorem CD {m:Nat} {cs:List Value} {y:DataW H × List MemPlace} (h:DataW.trod enc Tryz.prog W 0 (fun _=>true) true m 3 cs=some y):∃ n:Int,cs=[zd U n]/\Cu n:=by
 obtain ⟨n,e,-,hw⟩:=DataW.trod_int Tryz.underlying3 h;exact ⟨n,e,RK hw⟩
theorem DQ {fuel:Nat} {v:Value} {x:DataW H × List MemPlace} (h:DataW.trod enc Tryz.prog W 0 (fun _=>true) true fuel 25 [v]=some x):∃ l:List Int,LAt 1 (fun cs x=>cs=[zd U x]) W v l:=
 BX Tryz.underlying25 Tryz.cells3' (by omega) h 0 _ fun m cs y _ hy=>by obtain ⟨n,e,-⟩:=CD hy;exact ⟨n,e⟩
theorem Jr {fuel:Nat} {v:Value} {x:DataW H × List MemPlace} (h:DataW.trod enc Tryz.prog W 0 (fun _=>true) true fuel 22 [v]=some x):∃ l:List (Int × Int),AA W v l:=by
 obtain ⟨l,hl⟩:=BX Tryz.underlying22 Tryz.cells101 (by omega) h (0,0) (fun cs (x:Int × Int)=>cs=[zd U x.1,zd U x.2]) fun m cs y _ A=>by
  obtain ⟨xs,n,rfl,-,hl,f,p⟩:=DataW.trod_struct Tryz.underlying169 A;rw [Tryz.cells101] at hl
  match cs,hl,xs,f with
  | [c0,c1],_,[y0,y1],_=>
   have s:=p 0 _ rfl;have q:=p 1 _ rfl;simp [Tryz.cells3'] at s q;obtain ⟨a,u,-⟩:=CD s;obtain ⟨b,t,-⟩:=CD q;simp at u t;subst u;subst t;exact ⟨(a,b),rfl⟩
 obtain ⟨-,F,cap,B,-,-,-,C⟩:=hl;refine ⟨l,F,cap,B,fun g=>?_⟩;obtain ⟨b,off,E,k⟩:=C g;refine ⟨b,off,E,fun i hi=>?_⟩;obtain ⟨cs,-,e,rfl⟩:=k i l[i] (List.getElem?_eq_getElem hi);exact ⟨e 0 _ rfl,e 1 _ rfl⟩
theorem He {fuel:Nat} {v:Value} {x:DataW H × List MemPlace} (h:DataW.trod enc Tryz.prog W 0 (fun _=>true) true fuel 37 [v]=some x):∃ l:List Pol,AL W v l:=by
 obtain ⟨l,hl⟩:=BX Tryz.underlying37 Tryz.cells122 (by omega) h ⟨0,[]⟩ (fun cs (x:Pol)=>∃ u,cs=[zd U x.owner,u]/\AN W u x.names) fun m cs y _ C=>by
  obtain ⟨xs,n,rfl,-,hl,f,q⟩:=DataW.trod_struct Tryz.underlying87 C;rw [Tryz.cells122] at hl
  match cs,hl,xs,f with
  | [c0,c1],_,[y0,y1],_=>
   have t:=q 0 _ rfl;have s:=q 1 _ rfl;simp [Tryz.cells3',Tryz.cells25] at t s;obtain ⟨a,A,-⟩:=CD t;simp at A;subst A;obtain ⟨B,g⟩:=DQ s;exact ⟨⟨a,B⟩,c1,rfl,Jy g⟩
 obtain ⟨-,J,cap,E,-,-,-,G⟩:=hl;refine ⟨l,J,cap,E,fun k=>?_⟩;obtain ⟨b,off,I,p⟩:=G k;refine ⟨b,off,I,fun i hi=>?_⟩;obtain ⟨cs,-,e,u,rfl,F⟩:=p i l[i] (List.getElem?_eq_getElem hi);exact ⟨e 0 _ rfl,u,e 1 _ rfl,F⟩
theorem Kc {m:Nat} {cs:List Value} {y:DataW H × List MemPlace} (h:DataW.trod enc Tryz.prog W 0 (fun _=>true) true m 39 cs=some y):∃ (l:Lab) (pr pw:Value),cs=[pr,pw]/\AL W pr l.r/\AL W pw l.w:=by
 obtain ⟨xs,n,rfl,-,hl,e,f⟩:=DataW.trod_struct Tryz.underlying39 h;rw [Tryz.cells67] at hl
 match cs,hl,xs,e with
 | [c0,c1],_,[y0,y1],_=>
  have i:=f 0 _ rfl;have g:=f 1 _ rfl;simp [Tryz.cells65] at i g;obtain ⟨a,p⟩:=He i;obtain ⟨b,k⟩:=He g;exact ⟨⟨a,b⟩,c0,c1,rfl,p,k⟩
theorem Hf {fuel:Nat} {ao:Option Addr} {n cap:Nat} {x:DataW H × List MemPlace} (h:DataW.trod enc Tryz.prog W 0 (fun _=>true) true fuel 26 [O ao n cap]=some x):∃ l:List Lab,AW W (O ao n cap) l/\(ao=none->cap=0):=by
 obtain ⟨l,hl⟩:=BX Tryz.underlying26 Tryz.cells67 (by omega) h ⟨[],[]⟩ (fun cs (l:Lab)=>∃ pr pw,cs=[pr,pw]/\AL W pr l.r/\AL W pw l.w) fun m cs y _ q=>Kc q;obtain ⟨t,I,k,s,-,-,p,u⟩:=hl;injection s with G F E;subst G F E;refine ⟨l,⟨t,ao,cap,rfl,fun f=>?_⟩,p⟩;obtain ⟨b,off,A,g⟩:=u f;refine ⟨b,off,A,fun i hi=>?_⟩;obtain ⟨cs,-,e,pr,pw,rfl,C,B⟩:=g i l[i] (List.getElem?_eq_getElem hi);exact ⟨pr,pw,e 0 _ rfl,e 1 _ rfl,C,B⟩
theorem LI {fuel:Nat} {v:Value} {x:DataW H × List MemPlace} (h:DataW.trod enc Tryz.prog W 0 (fun _=>true) true fuel 27 [v]=some x):∃ l:List (Bool × Lab),Bs W v l:=by
 obtain ⟨l,hl⟩:=BX Tryz.underlying27 Tryz.cells69 (by omega) h (false,⟨[],[]⟩) (fun cs (l:Bool × Lab)=>∃ pr pw,cs=[zg l.1,pr,pw]/\AL W pr l.2.r/\AL W pw l.2.w) fun m cs y _ C=>by
  obtain ⟨xs,n,rfl,-,hl,g,s⟩:=DataW.trod_struct Tryz.underlying41 C;rw [Tryz.cells69] at hl
  match cs,hl,xs,g with
  | [c0,c1,c2],_,[y0,y1],_=>
   have t:=s 0 _ rfl;have f:=s 1 _ rfl;simp [Tryz.cells4,Tryz.cells67] at t f;obtain ⟨b,A,-⟩:=DataW.trod_bool Tryz.underlying4 t;simp at A;subst A;obtain ⟨B,pr,pw,u,q,J⟩:=Kc f;simp at u;obtain ⟨rfl,rfl⟩:=u;exact ⟨(b,B),c1,c2,rfl,q,J⟩
 obtain ⟨F,L,cap,E,-,-,-,G⟩:=hl;refine ⟨l,F,L,cap,E,fun k=>?_⟩;obtain ⟨b,off,I,p⟩:=G k;refine ⟨b,off,I,fun i hi=>?_⟩;obtain ⟨cs,-,e,pr,pw,rfl,f,q⟩:=p i l[i] (List.getElem?_eq_getElem hi);exact ⟨pr,pw,e 0 _ rfl,e 1 _ rfl,e 2 _ rfl,f,q⟩
theorem PU {s:Nat} {R:List Value->D->Prop} {v:Value} {l:List D} (h:LAt s R W v l):XS s R W v l:=by
 obtain ⟨e,g,cap,b,-,-,-,f⟩:=h;exact ⟨e,g,cap,b,f⟩
theorem Nt (K:Nat):∀ (fuel:Nat) (cs:List Value) (x:DataW H × List MemPlace),fuel<=K->DataW.trod enc Tryz.prog W 0 (fun _=>true) true fuel 130 cs=some x->∃ d,RS W K fuel cs d:=by
 intro fuel
 induction fuel using Nat.strongRecOn with
 | ind fuel ih=>
  intro cs x T h;obtain ⟨xs,n,rfl,-,hl,k,b⟩:=DataW.trod_struct Tryz.underlying130 h;rw [Tryz.cells71] at hl
  match cs,hl,xs,k with
  | [c0,c1,c2,c3,c4,c5,c6,c7,c8],_,[y0,y1,y2,y3,y4,y5,y6],_=>
   have F:=b 0 _ rfl;have E:=b 1 _ rfl;have C:=b 2 _ rfl;have B:=b 3 _ rfl;have A:=b 4 _ rfl;have u:=b 5 _ rfl;have t:=b 6 _ rfl;simp [Tryz.cells3',Tryz.cells54,Tryz.cells52,Tryz.cells29] at F E C B A u t;obtain ⟨q,L,O⟩:=CD F;obtain ⟨va,J,N⟩:=CD E;obtain ⟨p,I,M⟩:=CD C;simp at L J I;subst L;subst J;subst I;obtain ⟨e,P⟩:=FX n _ _ B;obtain ⟨i,S⟩:=BX Tryz.underlying92 Tryz.cells54 (by omega) A (.agg []) (RX W K) fun m cs y s f=>by
    obtain ⟨d,g⟩:=FX m _ _ f;exact ⟨d,RX.mono (fun _ _ h=>h) m K _ _ (by omega) g⟩
   obtain ⟨l,Q⟩:=BX Tryz.underlying29 Tryz.cells71 (by omega) u (.agg []) (RS W K n) fun m cs y s f=>by
    obtain ⟨d,g⟩:=ih m (by omega) cs y (by omega) f;exact ⟨d,RS.mono (fun _ _ h=>h) m n _ _ (by omega) g⟩
   obtain ⟨G,R⟩:=BX Tryz.underlying29 Tryz.cells71 (by omega) t (.agg []) (RS W K n) fun m cs y s f=>by
    obtain ⟨d,g⟩:=ih m (by omega) cs y (by omega) f;exact ⟨d,RS.mono (fun _ _ h=>h) m n _ _ (by omega) g⟩
   exact ⟨sD q va p e i l G,q,va,p,c3,c4,c5,e,c6,i,c7,l,c8,G,rfl,rfl,O,N,M,RX.mono (fun _ _ h=>h) n K _ _ (by omega) P,PU S,PU Q,PU R⟩
theorem Gu (K:Nat) {fuel:Nat} {v:Value} {x:DataW H × List MemPlace} (hK:fuel<=K) (h:DataW.trod enc Tryz.prog W 0 (fun _=>true) true fuel 29 [v]=some x):∃ l,Bj W K K v l:=by
 obtain ⟨l,hl⟩:=BX Tryz.underlying29 Tryz.cells71 (by omega) h (.agg []) (RS W K K) fun m cs y f b=>by
  obtain ⟨d,e⟩:=Nt K m cs y (by omega) b;exact ⟨d,RS.mono (fun _ _ h=>h) m K _ _ (by omega) e⟩
 exact ⟨l,PU hl⟩
theorem Kd (K:Nat) {fuel:Nat} {v:Value} {x:DataW H × List MemPlace} (hK:fuel<=K) (h:DataW.trod enc Tryz.prog W 0 (fun _=>true) true fuel 28 [v]=some x):∃ l,Bv W K K v l:=by
 obtain ⟨l,hl⟩:=BX Tryz.underlying28 Tryz.cells80 (by omega) h ⟨[],[],.agg []⟩ (fun cs (f:FnD)=>∃ vP vB x0 x1 x2,cs=[vP,vB,x0,x1,x2]/\AN W vP f.ps/\Tm vP f.ps/\Bj W K K vB f.body/\RX W K [x0,x1,x2] f.res) fun m cs y G J=>by
  obtain ⟨xs,n,rfl,-,hl,s,B⟩:=DataW.trod_struct Tryz.underlying105 J;rw [Tryz.cells80] at hl
  match cs,hl,xs,s with
  | [c0,c1,c2,c3,c4],_,[y0,y1,y2],_=>
   have I:=B 0 _ rfl;have q:=B 1 _ rfl;have p:=B 2 _ rfl;simp [Tryz.cells25,Tryz.cells29,Tryz.cells54] at I q p;obtain ⟨ps,k⟩:=DQ I;obtain ⟨S,E⟩:=Gu K (by omega) q;obtain ⟨e,L⟩:=FX n _ _ p;refine ⟨⟨ps,S,e⟩,c0,c1,c2,c3,c4,rfl,Jy k,?_,E,RX.mono (fun _ _ h=>h) n K _ _ (by omega) L⟩;obtain ⟨A,F,cap,t,P,O,-⟩:=k;exact ⟨A,F,cap,t,P,O⟩
 obtain ⟨G,F,cap,t,-,-,-,M⟩:=hl;refine ⟨l,G,F,cap,t,fun u=>?_⟩;obtain ⟨b,off,N,C⟩:=M u;refine ⟨b,off,N,fun i hi=>?_⟩;obtain ⟨cs,-,g,vP,vB,x0,x1,x2,rfl,q,p,R,Q⟩:=C i l[i] (List.getElem?_eq_getElem hi);exact ⟨vP,vB,x0,x1,x2,g 0 _ rfl,g 1 _ rfl,g 2 _ rfl,g 3 _ rfl,g 4 _ rfl,q,p,R,Q⟩
end
section
variable {H:Type} {enc:TypeId × Value->H} {W:World}
theorem Cg {TS E:Nat} (hU:Tryz.prog.underlying TS=some (.slice E)) {fuel:Nat} {v:Value} {x:DataW H × List MemPlace} (h:DataW.trod enc Tryz.prog W 0 (fun _=>true) true fuel TS [v]=some x):∃ a n c,v=O a n c:=by
 rcases DataW.trod_slice hU h with ⟨b,-⟩ | ⟨g,len,cap,e,f,m,rfl,b,-⟩
 ·simp at b
  exact ⟨_,_,_,b⟩
 ·simp at b
  exact ⟨_,_,_,b⟩
theorem Nu {fuel:Nat} {cs:List Value} {x:DataW H × List MemPlace} (h:DataW.trod enc Tryz.prog W 0 (fun _=>true) true fuel 31 cs=some x) :
  ∃ (m:Int) (ga:Option Addr) (gn gc:Nat) (sa:Option Addr) (sn sc:Nat) (ya:Option Addr) (yn yc:Nat) (oa:Option Addr) (on oc:Nat) (va:Option Addr) (vn vc:Nat) (fa:Option Addr) (fn fc:Nat) (ba:Option Addr) (bn bc:Nat) (gs:List (Int × Int)) (sp:List Int) (ls ms:List Lab) (vs:List (Bool × Lab)) (fs:List FnD) (l:List D),cs=[zd U m,O ga gn gc,O sa sn sc,O ya yn yc,O oa on oc,O va vn vc,O fa fn fc,O ba bn bc]/\BD fuel fuel m ga gn gc sa sn sc ya yn yc oa on oc va vn vc fa fn fc ba bn bc gs sp ls ms vs fs l W:=by
 obtain ⟨xs,n,rfl,-,hl,i,b⟩:=DataW.trod_struct Tryz.underlying31 h;rw [Tryz.cells31] at hl
 match cs,hl,xs,i with
 | [c0,c1,c2,c3,c4,c5,c6,c7],_,[y0,y1,y2,y3,y4,y5,y6],_=>
  have L:=b 0 _ rfl;have G:=b 1 _ rfl;have F:=b 2 _ rfl;have E:=b 3 _ rfl;have C:=b 4 _ rfl;have B:=b 5 _ rfl;have A:=b 6 _ rfl;simp [Tryz.cells24,Tryz.cells25,Tryz.cells26,Tryz.cells27,Tryz.cells28,Tryz.cells29] at L G F E C B A;obtain ⟨P,J,rfl,-,R,g,f⟩:=DataW.trod_struct Tryz.underlying24 L
  match P,g with
  | [z0,z1],_=>
   have M:=f 0 _ rfl;have I:=f 1 _ rfl;simp [Tryz.cells3',Tryz.cells22] at M I;obtain ⟨m,N,Q⟩:=CD M;simp at N;subst N;obtain ⟨ga,gn,gc,rfl⟩:=Cg Tryz.underlying22 I;obtain ⟨sa,sn,sc,rfl⟩:=Cg Tryz.underlying25 G;obtain ⟨ya,yn,yc,rfl⟩:=Cg Tryz.underlying26 F;obtain ⟨oa,on,oc,rfl⟩:=Cg Tryz.underlying26 E;obtain ⟨va,vn,vc,rfl⟩:=Cg Tryz.underlying27 C;obtain ⟨fa,fn,fc,rfl⟩:=Cg Tryz.underlying28 B;obtain ⟨ba,bn,bc,rfl⟩:=Cg Tryz.underlying29 A;obtain ⟨gs,u⟩:=Jr I;obtain ⟨sp,e⟩:=DQ G;obtain ⟨ls,s,t⟩:=Hf F;obtain ⟨ms,p,q⟩:=Hf E;obtain ⟨vs,k⟩:=LI C;obtain ⟨fs,y⟩:=Kd (J+1+1) (by omega) B;obtain ⟨l,hl⟩:=Gu (J+1+1) (by omega) A;exact ⟨m,ga,gn,gc,sa,sn,sc,ya,yn,yc,oa,on,oc,va,vn,vc,fa,fn,fc,ba,bn,bc,gs,sp,ls,ms,vs,fs,l,rfl,Q,u,Jy e,by have:=e.1;unfold maxLen at this;omega,s,p,k,y,hl,t,q⟩
theorem open_program {r:Go.Reach} {b0:Nat} {v:Value} {d:DataW H} {p:List MemPlace} (hv:Value.okWide Tryz.prog W r b0 31 v) (h:DataW.Trod enc Tryz.prog W 0 (fun _=>true) true 31 v d p) :
  ∃ (K:Nat) (m:Int) (ga:Option Addr) (gn gc:Nat) (sa:Option Addr) (sn sc:Nat) (ya:Option Addr) (yn yc:Nat) (oa:Option Addr) (on oc:Nat) (va:Option Addr) (vn vc:Nat) (fa:Option Addr) (fn fc:Nat) (ba:Option Addr) (bn bc:Nat) (gs:List (Int × Int)) (sp:List Int) (ls ms:List Lab) (vs:List (Bool × Lab)) (fs:List FnD) (l:List D),v=zh #[zd U m,O ga gn gc,O sa sn sc,O ya yn yc,O oa on oc,O va vn vc,O fa fn fc,O ba bn bc]/\BD K K m ga gn gc sa sn sc ya yn yc oa on oc va vn vc fa fn fc ba bn bc gs sp ls ms vs fs l W:=by
 obtain ⟨cs,rfl,e⟩:=okWide_struct Tryz.underlying31 hv;obtain ⟨fuel,g⟩:=h;have b:DataW.trod enc Tryz.prog W 0 (fun _=>true) true fuel 31 cs.toList=some (d,p):=by simpa [Value.cells] using g
 obtain ⟨m,ga,gn,gc,sa,sn,sc,ya,yn,yc,oa,on,oc,va,vn,vc,fa,fn,fc,ba,bn,bc,gs,sp,ls,ms,vs,fs,l,i,f⟩:=Nu b;refine ⟨fuel,m,ga,gn,gc,sa,sn,sc,ya,yn,yc,oa,on,oc,va,vn,vc,fa,fn,fc,ba,bn,bc,gs,sp,ls,ms,vs,fs,l,?_,f⟩;have:cs=#[zd U m,O ga gn gc,O sa sn sc,O ya yn yc,O oa on oc,O va vn vc,O fa fn fc,O ba bn bc]:=by
  cases cs
  simp_all
 rw [this]
end
end Go.Proofs.YtfffpjkcfnekaaaGreat.Ex
namespace Go.Proofs.YtfffpjkcfnekaaaGreat.Ex
open Go.RowKit
open Go.Value renaming slice -> O, int -> zd, bool -> zg, agg -> zh, pointer -> zi, tuple -> zk
open Go.IntKind renaming i64 -> U
open Go.Obj renaming cells -> ze
open Go.Ending renaming returned -> zj
theorem SG (args:Array Value) (w:World):(callFunc 178 args).run Tryz.prog w=.ok (.enter 178 args) w:=by simp [go_sem]
theorem Mr (args:Array Value) (w:World):(callFunc 179 args).run Tryz.prog w=.ok (.enter 179 args) w:=by simp [go_sem]
theorem Ad.set {cs:List Value} {w:World} {b j:Nat} {v:Value} (h:Ad cs w b) (hj:j < cs.length):Ad (cs.set j v) (w.setCell ⟨b,j,none⟩ v) b:=by
 have f:=h j _ (List.getElem?_eq_getElem hj);have g:=bL f;intro k u e;by_cases hk:k=j
 ·subst hk
  rw [List.getElem?_set_self hj] at e;simp at e;subst e;simp [go_sem,f]
 ·rw [List.getElem?_set_ne (by omega)] at e
  have:=h k u e;simp [go_sem,this]
theorem Ad.other {cs:List Value} {w:World} {b b' j:Nat} {v:Value} (h:Ad cs w b) (hb:b≠b'):Ad cs (w.setCell ⟨b',j,none⟩ v) b:=fun k u hu=>by
 have:=h k u hu;simp [go_sem,this]
theorem Ad.drew {cs:List Value} {w:World} {b:Nat} (h:Ad cs w b):Ad cs w.drew b:=fun k u hu=>h k u hu
theorem Pv {w w0 w1:World} {a0 a1 a2 a3 a4 a5 a6 a7:Addr} {v0 v1 v2 v3 v4 v5 v6 v7:Value}
  (h:w0.cell? a0=some v0/\w0.cell? a1=some v1/\w0.cell? a2=some v2/\w0.cell? a3=some v3/\w0.cell? a4=some v4/\w0.cell? a5=some v5/\w0.cell? a6=some v6/\w0.cell? a7=some v7/\Ov w w0) (hb:Ov w0 w1) :
  w1.cell? a0=some v0/\w1.cell? a1=some v1/\w1.cell? a2=some v2/\w1.cell? a3=some v3/\w1.cell? a4=some v4/\w1.cell? a5=some v5/\w1.cell? a6=some v6/\w1.cell? a7=some v7/\Ov w w1:=by
 obtain ⟨q,p,l,k,i,g,f,e,b⟩:=h;exact ⟨Ab hb _ _ q,Ab hb _ _ p,Ab hb _ _ l,Ab hb _ _ k,Ab hb _ _ i,Ab hb _ _ g,Ab hb _ _ f,Ab hb _ _ e,b.trans (hb.mono b.size)⟩
theorem Bo {w w':World} {r b j:Nat} {u:Value} (hg:w.grownBy w' (some r)) (h:w.cell? ⟨b,j,none⟩=some u) (hne:b≠r):w'.cell? ⟨b,j,none⟩=some u:=by
 have f:=bL h;rw [World.cell?_of_block (w:=w) (hg.block b f (fun e=>hne (Option.some.inj e)))];exact h
theorem C3 {w:World} {r n j:Nat} {u:Value}:w.grownBy ((w.drewN n).setCell ⟨r,j,none⟩ u) (some r):=by
 have h:=Below.heap_setCell (w.drewN n) ⟨r,j,none⟩ u;refine ⟨rfl,rfl,rfl,by simp [World.setCell],fun k hk b=>?_⟩;rw [h k (fun e=>b (by rw [e]))];rfl
theorem Pw {w w0 w1:World} {a0 a1 a2 a3:Addr} {v0 v1 v2 v3:Value}
  (h:w0.cell? a0=some v0/\w0.cell? a1=some v1/\w0.cell? a2=some v2/\w0.cell? a3=some v3/\Ov w w0) (hb:Ov w0 w1) :
  w1.cell? a0=some v0/\w1.cell? a1=some v1/\w1.cell? a2=some v2/\w1.cell? a3=some v3/\Ov w w1:=by
 obtain ⟨i,g,f,e,b⟩:=h;exact ⟨Ab hb _ _ i,Ab hb _ _ g,Ab hb _ _ f,Ab hb _ _ e,b.trans (hb.mono b.size)⟩
theorem Tryz.infoE:(Tryz.prog.info? 136).map (fun i=>(i.zero,i.size,i.bytes))=some (some (zh #[zd U 0,zd U 0,zd U 0,zd U 0]),4,32):=by kernel_rfl
theorem Ad.newA (cs:Array Value) (t:Nat) (w:World):Ad cs.toList (w.alloc (.cells cs t)) w.heap.size:=fun j u hu=>by
 rw [Lib.cell_of_heap (heap_alloc_new w _)];simpa using hu
theorem Po {w w':World} {r a b j k l:Nat} {x y z:Value} (h:w.cell? ⟨a,j,none⟩=some x/\w.cell? ⟨b,k,none⟩=some y/\w.cell? ⟨b,l,none⟩=some z) (hg:w.grownBy w' (some r)) (ha:a≠r) (hb:b≠r) :
  w'.cell? ⟨a,j,none⟩=some x/\w'.cell? ⟨b,k,none⟩=some y/\w'.cell? ⟨b,l,none⟩=some z:=⟨Bo hg h.1 ha,Bo hg h.2.1 hb,Bo hg h.2.2 hb⟩
theorem Sy {w w':World} {b j k l m:Nat} {x y z u:Value} (h:w.cell? ⟨b,j,none⟩=some x/\w.cell? ⟨b,k,none⟩=some y/\w.cell? ⟨b,l,none⟩=some z/\w.cell? ⟨b,m,none⟩=some u) (hg:Ov w w') :
  w'.cell? ⟨b,j,none⟩=some x/\w'.cell? ⟨b,k,none⟩=some y/\w'.cell? ⟨b,l,none⟩=some z/\w'.cell? ⟨b,m,none⟩=some u:=⟨Ab hg _ _ h.1,Ab hg _ _ h.2.1,Ab hg _ _ h.2.2.1,Ab hg _ _ h.2.2.2⟩
def A8 (w:World) (v:Value) (ls:List (List Int)):Prop:=
 ls.length<=maxLen/\∃ ao cap,v=O ao ls.length cap/\(ls≠[]->∃ b off,ao=some ⟨b,off,none⟩/\∀ i (h:i < ls.length),∃ u,w.cell? ⟨b,off+i,none⟩=some u/\AN w u ls[i]/\ls[i].length<=9223372036854775807)
theorem A8.over {w w':World} {v:Value} {ls:List (List Int)} (h:A8 w v ls) (hb:Ov w w'):A8 w' v ls:=by
 obtain ⟨l,y,cap,k,p⟩:=h;refine ⟨l,y,cap,k,fun e=>?_⟩;obtain ⟨b,off,g,f⟩:=p e;refine ⟨b,off,g,fun i hi=>?_⟩;obtain ⟨u,t,s,q⟩:=f i hi;exact ⟨u,Ab hb _ _ t,s.over hb,q⟩
theorem LT (a n c) (w:World):Calls Tryz.prog 178 #[O a n c] w fun e w'=>e=zj (zg (decide (100 < n)))/\w'=w:=by
 by_cases h:100 < n
 ·go_enter Tryz.func178,Tryz.ntmps178
  go_wp2_with fail;go_ret;exact ⟨by simp;omega,rfl⟩
 ·go_enter Tryz.func178,Tryz.ntmps178
  go_wp2_with fail;go_ret;exact ⟨by simp;omega,rfl⟩
theorem It (l) (v:Value) (w:World) (h:AN w v l) (hl:l.length<=9223372036854775807):Calls Tryz.prog 179 #[v] w fun e w'=>e=zj (zg (!l.all D9))/\w'=w:=by
 have K:=Aa (Ga l _ w h hl);obtain ⟨a,c,rfl,-⟩:=h;go_enter Tryz.func179,Tryz.ntmps179;go_wp2_with fail;refine (K.o).mono ?_;rintro e b ⟨rfl,rfl⟩;go_wp2_with fail;go_ret;exact ⟨rfl,rfl⟩
theorem Ht (F:FuncId) (p:List Int->Bool) (ls) (v:Value) (w:World) (h:A8 w v ls)
  (hF:Hx (∀ (l:List Int) (u:Value),AN w u l->l.length<=9223372036854775807->Calls Tryz.prog F #[u] w fun e w'=>e=zj (zg (p l))/\w'=w)) (hC:∀ (args:Array Value) (w:World),(callFunc F args).run Tryz.prog w=.ok (.enter F args) w) :
  Calls Tryz.prog 221 #[v,.func (.func F) #[] #[]] w fun e w'=>∃ r:Int,e=zj (zd U r)/\decide (0<=r)=ls.any p/\w'=w:=by
 obtain ⟨M,S,cap,rfl,A⟩:=h;have O:ls.length<=9223372036854775807:=M;have I:=Aa A;clear A M;go_enter Tryz.func221,Tryz.ntmps221;go_wp2_with fail;go_loopw [8] (fun i wr=>∃ k:Nat,k<=ls.length/\i=zd U k/\(ls.take k).any p=false/\wr=w) (fun i _=>ls.length - (intOf i).toNat)
 case atStart=>exact ⟨0,Nat.zero_le _,rfl,rfl,rfl⟩
 case round=>
  obtain ⟨k,hk,rfl,q,rfl⟩:=hrel;have B:=Aa q;clear q;by_cases hkl:k < ls.length
  ·obtain ⟨b,off,rfl,y⟩:=I.o (by rintro rfl;simp at hkl)
   obtain ⟨u,Q,J,C⟩:=y k hkl;have s:p ls[k]=true->ls.any p=true:=fun h=>by rw [List.any_eq_true];exact ⟨ls[k],List.getElem_mem hkl,h⟩
   have t:p ls[k]=false->(ls.take (k+1)).any p=false:=fun h=>by rw [List.take_succ_eq_append_getElem hkl,List.any_append,B.o];simp [h]
   have f:=hF.o ls[k] u J C;obtain ⟨r,L⟩:=nm (p ls[k]);rw [<-L] at f s t;have g:=Aa f;have G:=Aa s;have H:=Aa t;obtain ⟨T,R,rfl,-⟩:=J;clear f s t L y B hF
   cases r with
   | false=>
    go_wp2_with fail;refine (g.o).mono ?_;rintro e N ⟨rfl,rfl⟩;go_wp2_with fail;exact ⟨⟨k+1,by omega,by go_num,H.o (by first | rfl | trivial),by first | rfl | trivial⟩,by simp [intOf];omega⟩
   | true=>
    go_wp2_with fail;refine (g.o).mono ?_;rintro e N ⟨rfl,rfl⟩;go_wp2_with fail;go_ret;refine ⟨(k:Int),by first | rfl | trivial,?_,by first | rfl | trivial⟩;rw [G.o (by first | rfl | trivial)];simp
  ·have E:=B.o
   rw [List.take_of_length_le (by omega)] at E;have P:=Aa E;clear E B hF;go_wp2_with fail;go_ret;refine ⟨-1,by first | rfl | trivial,?_,by first | rfl | trivial⟩;rw [P.o];rfl
theorem Dv (F:FuncId) (p:List Int->Bool) (ls) (v:Value) (w:World) (h:A8 w v ls)
  (hF:Hx (∀ (l:List Int) (u:Value),AN w u l->l.length<=9223372036854775807->Calls Tryz.prog F #[u] w fun e w'=>e=zj (zg (p l))/\w'=w)) (hC:∀ (args:Array Value) (w:World),(callFunc F args).run Tryz.prog w=.ok (.enter F args) w) :
  Calls Tryz.prog 180 #[v,.func (.func F) #[] #[]] w fun e w'=>e=zj (zg (ls.any p))/\w'=w:=by
 have K:=Aa (Ht F p ls v w h hF hC);obtain ⟨s,t,cap,rfl,b⟩:=h;obtain ⟨q,g⟩:=nm (ls.any p);rw [<-g] at K ⊢;clear b g hF;go_enter Tryz.func180,Tryz.ntmps180;go_wp2_with fail;refine (K.o).mono ?_;rintro e k ⟨r,rfl,f,rfl⟩;have i:=Aa f;clear f;go_wp2_with fail;go_ret;exact ⟨by rw [<-i.o];simp,rfl⟩
structure okR (K kf:Nat) (m:Int) (vn yn on sn:Nat) (gs:List (Int × Int)) (sp:List Int) (ls ms:List Lab) (vs:List (Bool × Lab)) (fs:List FnD) (l:List D) (ins:List (List Int)) (fuel:Int):Prop where
 prog:Ey.xP K kf m vn yn on sn gs sp ls ms vs fs l
 many:ins.length=yn
 long:∀ x∈ins,x.length<=100
 num:∀ x∈ins,∀ y∈x,I32 y
 f0:0<=fuel
 f1:fuel<=2000
theorem Jl (K kf:Nat) (m:Int) (ga gn gc sa sn sc ya yn yc oa on oc va vn vc fa fn fc ba bn bc) (xa xn xc) (ins) (fuel:Int) (gs sp ls ms vs fs l) (w:World) (h:BD K kf m ga gn gc sa sn sc ya yn yc oa on oc va vn vc fa fn fc ba bn bc gs sp ls ms vs fs l w) (hx:A8 w (O xa xn xc) ins) :
  Calls Tryz.prog 117 #[zh #[zd U m,O ga gn gc,O sa sn sc,O ya yn yc,O oa on oc,O va vn vc,O fa fn fc,O ba bn bc],O xa xn xc,zd U fuel] w (Ey.Said (okR K kf m vn yn on sn gs sp ls ms vs fs l ins fuel) w fun why=>zd U why):=by
 have V:∀ (fn:Fn) (first cap:Array Value) (w:World),(Instr.makeFunc fn first cap).run Tryz.prog w=.ok (.func fn first cap) w:=fun _ _ _ _=>rfl;have b:Ov w (w.alloc (ze #[zd U m,O ga gn gc,O sa sn sc,O ya yn yc,O oa on oc,O va vn vc,O fa fn fc,O ba bn bc] 31)):=bA w _;have M:=Aa (Ey.scopeCheck_any K kf m ga gn gc sa sn sc ya yn yc oa on oc va vn vc fa fn fc ba bn bc gs sp ls ms vs fs l _ (h.over b));have N:=Aa (hx.over b);have i:xn=ins.length:=by obtain ⟨-,a,c,G,-⟩:=hx;injection G
 have S:xn<=9223372036854775807:=by rw [i];exact hx.1
 have R:yn<=9223372036854775807:=by obtain ⟨Z,a,c,G,-⟩:=h.ins;injection G with e1 e2 e3;rw [e2];exact Z
 have s:=Aa i;have L:=Aa fun W (hw:A8 W (O xa xn xc) ins)=>Dv 178 (fun l=>decide (100 < l.length)) ins (O xa xn xc) W hw (Aa fun l u F _=>by
  obtain ⟨a,c,rfl,-⟩:=F;exact LT a l.length c W) SG
 have J:=Aa fun W (hw:A8 W (O xa xn xc) ins)=>Dv 179 (fun l=>!l.all D9) ins (O xa xn xc) W hw (Aa fun l u F hl=>It l u W F hl) Mr;obtain ⟨Q,p⟩:=nm (ins.any (fun l=>decide (100 < l.length)));obtain ⟨P,k⟩:=nm (ins.any (fun l=>!l.all D9));rw [<-p] at L;rw [<-k] at J;have B:=Aa p;have A:=Aa k;have I:(w.alloc (ze #[zd U m,O ga gn gc,O sa sn sc,O ya yn yc,O oa on oc,O va vn vc,O fa fn fc,O ba bn bc] 31)).cell? ⟨w.heap.size,3,none⟩=some (O ya yn yc):=by simp [go_sem]
 clear h hx i p k;go_enter Tryz.func117,Tryz.ntmps117;go_wp2_with fail;refine (M.o).mono ?_;rintro e w1 ⟨why,rfl,q,g⟩;have d3:=Ab g _ _ I;have t:=Aa (N.o.over g);have f:=b.trans (g.mono b.size);have C:=Aa q;clear b g M N I q;by_cases hw:why=0;rotate_left
 ·have T:(why == 0)=false:=by simpa using hw
  go_wp2_with fail;go_ret;exact ⟨why,rfl,⟨fun h=>absurd h hw,fun h=>absurd (C.o.2 h.prog) hw⟩,f⟩
 subst hw;by_cases hxy:xn=yn;rotate_left
 ·have hb:((xn:Int) == (yn:Int))=false:=by simp;omega
  go_wp2_with fail;go_ret;exact ⟨1,rfl,⟨fun h=>absurd h (by decide),fun h=>absurd (s.o.trans h.many) hxy⟩,f⟩
 have hb:((xn:Int) == (yn:Int))=true:=by simp;omega
 have H:=Aa hxy;clear hxy;go_wp2_with fail;refine (L.o _ t.o).mono ?_;rintro e w2 ⟨rfl,rfl⟩
 cases Q with
 | true=>
  go_wp2_with fail;go_ret;refine ⟨2,rfl,⟨fun h=>absurd h (by decide),fun h=>?_⟩,f⟩;obtain ⟨x,hx,hl⟩:=List.any_eq_true.1 B.o.symm;exact absurd (h.long x hx) (by simpa using hl)
 | false=>
 go_wp2_with fail;refine (J.o _ t.o).mono ?_;rintro e w3 ⟨rfl,rfl⟩
 cases P with
 | true=>
  go_wp2_with fail;go_ret;refine ⟨3,rfl,⟨fun h=>absurd h (by decide),fun h=>?_⟩,f⟩;obtain ⟨x,hx,hl⟩:=List.any_eq_true.1 A.o.symm;have ha:x.all D9=true:=List.all_eq_true.2 fun y E=>by simpa [D9,I32] using h.num x hx y E
  simp [ha] at hl
 | false=>
 by_cases hf0:fuel < 0
 ·go_wp2_with fail
  go_ret;exact ⟨3,rfl,⟨fun h=>absurd h (by decide),fun h=>by have:=h.f0;omega⟩,f⟩
 by_cases hf1:2000 < fuel
 ·go_wp2_with fail
  go_ret;exact ⟨3,rfl,⟨fun h=>absurd h (by decide),fun h=>by have:=h.f1;omega⟩,f⟩
 go_wp2_with fail;go_ret;refine ⟨0,rfl,⟨fun _=>⟨C.o.1 (by first | rfl | trivial),by rw [<-s.o];exact H.o,fun x hx=>?_,fun x hx y E=>?_,by omega,by omega⟩,fun _=>rfl⟩,f⟩
 ·have:=List.any_eq_false.1 B.o.symm x hx
  simpa using this
 ·have:=List.any_eq_false.1 A.o.symm x hx
  simp only [Bool.not_eq_true,Bool.not_eq_false'] at this;have:=List.all_eq_true.1 this y E;simpa [D9,I32] using this
end Go.Proofs.YtfffpjkcfnekaaaGreat.Ex
namespace Go.Proofs.YtfffpjkcfnekaaaGreat.Ex
open Go.RowKit
open Go.Value renaming slice -> O, int -> zd, bool -> zg, agg -> zh, pointer -> zi, tuple -> zk
open Go.IntKind renaming i64 -> U
open Go.Obj renaming cells -> ze
open Go.Ending renaming returned -> zj
open Go.ChangeShapes Go.WideShapes Go.ChangeAt
section
variable {H:Type} {enc:TypeId × Value->H} {W:World}
theorem Kb {fuel:Nat} {v:Value} {x:DataW H × List MemPlace} (h:DataW.trod enc Tryz.prog W 0 (fun _=>true) true fuel 52 [v]=some x):∃ l:List (List Int),A8 W v l/\LAt 1 (fun cs x=>∃ u,cs=[u]/\LAt 1 (fun cs x=>cs=[zd U x]) W u x) W v l:=by
 obtain ⟨l,hl⟩:=BX Tryz.underlying52 Tryz.cells25 (by omega) h [] (fun cs (x:List Int)=>∃ u,cs=[u]/\LAt 1 (fun cs x=>cs=[zd U x]) W u x) fun m cs y _ s=>by
  have f:cs.length=1:=by
   rcases DataW.trod_slice Tryz.underlying25 s with ⟨e,-⟩ | ⟨G,len,cap,p,q,m,rfl,e,-⟩
   ·rw [e];rfl
   ·rw [e];rfl
  match cs,f with
  | [u],_=>
   obtain ⟨l,hl⟩:=DQ s;exact ⟨l,u,rfl,hl⟩
 refine ⟨l,?_,hl⟩;obtain ⟨B,F,cap,A,-,-,-,C⟩:=hl;refine ⟨B,F,cap,A,fun g=>?_⟩;obtain ⟨b,off,E,k⟩:=C g;refine ⟨b,off,E,fun i hi=>?_⟩;obtain ⟨cs,-,e,u,rfl,t⟩:=k i l[i] (List.getElem?_eq_getElem hi);refine ⟨u,by have:=e 0 _ rfl;simpa using this,Jy t,?_⟩;have:=t.1;unfold maxLen at this;omega
theorem open_lists {r:Go.Reach} {b0:Nat} {v:Value} {d:DataW H} {p:List MemPlace} (hv:Value.okWide Tryz.prog W r b0 52 v) (h:DataW.Trod enc Tryz.prog W 0 (fun _=>true) true 52 v d p) :
  ∃ (a:Option Addr) (n c:Nat) (l:List (List Int)),v=O a n c/\A8 W (O a n c) l/\LAt 1 (fun cs x=>∃ u,cs=[u]/\LAt 1 (fun cs x=>cs=[zd U x]) W u x) W (O a n c) l:=by
 obtain ⟨a,n,c,rfl⟩:=okWide_slice Tryz.underlying52 hv;obtain ⟨fuel,e⟩:=h;have b:DataW.trod enc Tryz.prog W 0 (fun _=>true) true fuel 52 [O a n c]=some (d,p):=by simpa [Value.cells] using e
 obtain ⟨l,g,f⟩:=Kb b;exact ⟨a,n,c,l,rfl,g,f⟩
end
end Go.Proofs.YtfffpjkcfnekaaaGreat.Ex
namespace Go.Proofs.YtfffpjkcfnekaaaGreat.Ex
open Go.RowKit
open Go.Value renaming slice -> O, int -> zd, bool -> zg, agg -> zh, pointer -> zi, tuple -> zk
open Go.IntKind renaming i64 -> U
open Go.Obj renaming cells -> ze
open Go.Ending renaming returned -> zj
theorem Tryz.infoFt:(Tryz.prog.info? 89).map (fun i=>(i.zero,i.size,i.bytes))=some (some (zh #[zd U 0,zd U 0]),2,16):=by kernel_rfl
theorem Db {ops:Array Oper} {o:Oper} {a:Act} {W:World} {K:Act->World->Prop} {Q:Exit->Act->World->Prop} {E:Prop} (hg:o.guard=none) (s x:Operand) (t:TypeId) (hop:o.op=Op.call { callee:=Callee.builtin Builtin.append,args:=#[s,x],argTypes:=#[t,t] }) (v u v':Value) (W':World) (hs:a.eval s=v) (hx:a.eval x=u)
  (hr:(Builtin.append_ #[t,t] o.type #[v,u]).run Tryz.prog W=.ok v' W') (h:K (a.put o.dst v') W'):if Region.wanted o (yielded ops a.tmps)=true then Oper.wp Tryz.prog o a W K Q else E:=by
 have hw:Region.wanted o (yielded ops a.tmps)=true:=by simp [Region.wanted,hg]
 rw [if_pos hw];unfold Oper.wp execOp;simp only [hop,resolve,invoke,builtin,Sem.run_bind,Sem.run_pure,Result.andThen_ok,List.map_toArray,List.map_cons,List.map_nil,hs,hx,hr];exact h
theorem BK {cs:List Value} {w:World} {b j:Nat} {v:Value} (h:Ad cs w b) (hj:j < cs.length):Ad (cs.set j v) (w.setCell ⟨b,j,none⟩ v) b:=by
 intro i u f;by_cases hij:j=i
 ·subst hij
  rw [List.getElem?_set_self hj] at f;injection f with f;subst f;exact World.cell?_setCell_same _ _ _ (h j _ (List.getElem?_eq_getElem hj))
 ·rw [List.getElem?_set_ne hij] at f
  rw [World.cell?_setCell_other _ _ _ _ (by intro e;injection e with k g;exact hij g)];exact h i u f
theorem Au {w:World} {b i k:Nat} (h:b≠k) (u:Value):(w.setCell ⟨b,i,none⟩ u).heap[k]? = w.heap[k]?:=by
 simp [World.setCell,Array.getElem?_modify,h]
theorem L5 {w:World} {b j:Nat} {u:Value}:w.grownBy (w.setCell ⟨b,j,none⟩ u) (some b):=
 ⟨rfl,rfl,rfl,by simp [World.setCell],fun k hk hne=>Au (fun e=>hne (by rw [e])) u⟩
theorem Ek {w w':World} {v:Value} {B:Nat} (h:w.grownBy w' v.ownBlock) (hv:∀ g,v.ownBlock=some g->B<=g) (hB:B<=w.heap.size):Below B w w':=
 ⟨h.os,h.tape,h.output,h.size,fun k hk=>h.block k (by omega) (fun e=>by have:=hv k e.symm;omega)⟩
def Cc (l:List (Int × Int)):List Value:=l.flatMap fun x=>[zd U x.1,zd U x.2]
theorem K0 (l:List (Int × Int)) (a k:Int):Cc (l++[(a,k)])=Cc l++[zd U a,zd U k]:=by simp [Cc]
def addF (a k:Int) (fl:List (Int × Int)):Bool->List (Int × Int)
 | true=>fl++[(a,k)]
 | false=>fl
def XJ (bj:Nat) (W:World) (k:Nat):Prop:=W.heap.size<=bj\/k=bj\/∃ v,W.cell? ⟨bj,11,none⟩=some v/\v.ownBlock=some k
theorem Al (bj:Nat):XOk (XJ bj):=⟨fun W W' hb k h=>by
 by_cases hlt:W.heap.size<=bj
 ·exact Or.inl hlt
 ·rcases h with h | h | ⟨v,hv,ho⟩
  ·exact absurd (Nat.le_trans hb.size h) hlt
  ·exact Or.inr (Or.inl h)
  ·refine Or.inr (Or.inr ⟨v,?_,ho⟩)
   rw [<-hv];exact (World.cell?_of_block (a:=⟨bj,11,none⟩) (hb.block bj (by omega))).symm⟩
structure AM (cs:List Value) (w0:World) (bj:Nat) (av:Value) (fl:List (Int × Int)) (fv:Value) (W:World):Prop where
 below:Ov w0 W
 row:Ad (cs++[av,fv]) W bj
 fz:∀ j,W.frozen? ⟨bj,j,none⟩=false
 own:W.ownsRow w0.heap.size 89 2 fv fl.length (Cc fl)
 ap:fv.ownBlock≠some bj
 lo:w0.heap.size<=bj/\bj < W.heap.size
 len:cs.length=10
theorem AM.c11 {cs:List Value} {w0:World} {bj:Nat} {av:Value} {fl:List (Int × Int)} {fv:Value} {W:World} (h:AM cs w0 bj av fl fv W):W.cell? ⟨bj,11,none⟩=some fv:=h.row 11 _ (by rw [List.getElem?_append_right (by rw [h.len];omega),h.len];rfl)
theorem AM.c10 {cs:List Value} {w0:World} {bj:Nat} {av:Value} {fl:List (Int × Int)} {fv:Value} {W:World} (h:AM cs w0 bj av fl fv W):W.cell? ⟨bj,10,none⟩=some av:=h.row 10 _ (by rw [List.getElem?_append_right (by rw [h.len];omega),h.len];rfl)
theorem AM.cw {cs:List Value} {w0:World} {bj:Nat} {av:Value} {fl:List (Int × Int)} {fv:Value} {W:World} (h:AM cs w0 bj av fl fv W):Ad cs W bj:=fun j u hu=>h.row j u (by rw [List.getElem?_append_left (List.getElem?_eq_some_iff.1 hu).1];exact hu)
theorem AM.over {cs:List Value} {w0:World} {bj:Nat} {av:Value} {fl:List (Int × Int)} {fv:Value} {W W':World} (h:AM cs w0 bj av fl fv W) (hb:Ov W W'):AM cs w0 bj av fl fv W':=
 ⟨h.below.trans (hb.mono h.below.size),h.row.over hb,fun j=>((An hb).2 _ _ h.lo.2).trans (h.fz j),h.own.kept (row:=none) ⟨hb.os,hb.tape,hb.output,hb.size,fun k hk _=>hb.block k hk⟩ (by cases fv.ownBlock <;> simp),h.ap,⟨h.lo.1,Nat.lt_of_lt_of_le h.lo.2 hb.size⟩,h.len⟩
theorem Pd {W:World} {B e s n:Nat} {v:Value} {xs:List Value} (h:W.ownsRow B e s v n xs):∀ g,v.ownBlock=some g->B<=g/\g < W.heap.size:=by
 intro g b;rcases h.2 with ⟨h,-⟩ | ⟨l,cap,k,h,i,f,-⟩
 ·rw [h] at b;cases b
 ·rw [h] at b
  simp [Value.ownBlock] at b;subst b;exact ⟨i,(Array.getElem?_eq_some_iff.1 f).1⟩
theorem AM.xlt {cs:List Value} {w0:World} {bj:Nat} {av:Value} {fl:List (Int × Int)} {fv:Value} {W:World} (h:AM cs w0 bj av fl fv W):∀ k,XJ bj W k->w0.heap.size<=k/\k < W.heap.size:=by
 rintro k (hk | rfl | ⟨v,b,e⟩)
 ·have:=h.lo.2;omega
 ·exact h.lo
 ·rw [h.c11] at b
  injection b with b;subst b;exact Pd h.own k e
theorem AM.add {cs:List Value} {w0:World} {bj:Nat} {av:Value} {fl:List (Int × Int)} {fv v':Value} {W W':World} {a k:Int} (h:AM cs w0 bj av fl fv W) (ho':W'.ownsRow w0.heap.size 89 2 v' (fl.length+1) (Cc fl++[zd U a,zd U k])) (hg:W.grownBy W' fv.ownBlock) (hat:v'.ownBlock=fv.ownBlock\/v'.ownBlock=some W.heap.size) :
  AM cs w0 bj av (fl++[(a,k)]) v' (W'.setCell ⟨bj,11,none⟩ v')/\FrW (XJ bj) W (W'.setCell ⟨bj,11,none⟩ v'):=by
 have p:W'.heap[bj]? = W.heap[bj]?:=hg.block bj h.lo.2 (fun e=>h.ap e.symm);have i:Ad (cs++[av,fv]) W' bj:=fun j u C=>(World.cell?_of_block (a:=⟨bj,j,none⟩) p).trans (h.row j u C);have B:Below w0.heap.size W W':=Ek hg (fun g e=>(Pd h.own g e).1) h.below.size;have l:v'.ownBlock≠some bj:=by
  rcases hat with e | e
  ·rw [e];exact h.ap
  ·rw [e];intro e;injection e with e;have:=h.lo.2;omega
 have f:(W'.setCell ⟨bj,11,none⟩ v').heap.size=W'.heap.size:=by simp [World.setCell]
 have b:Ad (cs++[av,v']) (W'.setCell ⟨bj,11,none⟩ v') bj:=by
  have:=BK (j:=11) (v:=v') i (by simp [h.len]);rw [List.set_append,if_neg (by rw [h.len];omega),h.len] at this;simpa using this
 have A:CE (W'.setCell ⟨bj,11,none⟩ v') bj 11 v':=b 11 _ (by rw [List.getElem?_append_right (by rw [h.len];omega),h.len];rfl);refine ⟨⟨(h.below.trans B).setCell h.lo.1 _,b,fun j=>?_,?_,l,⟨h.lo.1,?_⟩,h.len⟩,⟨?_,?_,?_,?_,?_,?_⟩⟩
 ·have E:(W'.setCell ⟨bj,11,none⟩ v').frozen? ⟨bj,j,none⟩=W'.frozen? ⟨bj,j,none⟩:=by simp [go_sem]
  rw [E,World.frozen?_of_block (a:=⟨bj,j,none⟩) p];exact h.fz j
 ·rw [K0,List.length_append]
  exact ho'.kept (row:=some bj) L5 (Or.inr l)
 ·rw [f];exact Nat.lt_of_lt_of_le h.lo.2 hg.size
 ·exact hg.os
 ·exact hg.tape
 ·exact hg.output
 ·rw [f];exact hg.size
 ·intro k hk q
  have y:k≠bj:=fun e=>q (Or.inr (Or.inl e));rw [Au (Ne.symm y) v'];exact hg.block k hk (fun e=>q (Or.inr (Or.inr ⟨fv,h.c11,e.symm⟩)))
 ·rintro k hk (q | rfl | ⟨v,s,t⟩)
  ·rw [f] at q;have:=hg.size;have:=h.lo.2;omega
  ·exact Or.inr (Or.inl rfl)
  ·rw [A] at s
   injection s with s;subst s;rcases hat with e | e
   ·exact Or.inr (Or.inr ⟨fv,h.c11,by rw [<-e];exact t⟩)
   ·rw [e] at t;injection t with t;omega
theorem Ge (cs:List Value) (w0:World) (bj:Nat) (av:Value) (fl) (fv:Value) (a k:Int) (is:Bool) (bx ba:Nat) (W:World) (h:AM cs w0 bj av fl fv W) (hx:W.cell? ⟨bx,0,none⟩=some (zi (some ⟨bj,0,none⟩))) (ha:W.cell? ⟨ba,0,none⟩=some (zd U a)) (nx:¬ XJ bj W bx) (na:¬ XJ bj W ba) (hl:fl.length<=1000) :
  Calls Tryz.prog 149 #[zd U k,zg is,zi (some ⟨bx,0,none⟩),zi (some ⟨ba,0,none⟩)] W fun e W'=>e=zj (zk #[])/\(∃ fv',AM cs w0 bj av (addF a k fl is) fv' W')/\FrW (XJ bj) W W':=by
 cases is with
 | false=>
  go_enter Tryz.func149,Tryz.ntmps149;go_wp2_with fail;go_end0;exact ⟨rfl,⟨fv,h⟩,FrW.refl _⟩
 | true=>
  obtain ⟨i0,hi,L,J,I⟩:=info_parts Tryz.infoFt;obtain ⟨fa,fn,fc,rfl⟩:=AE h.own;have q:Ov W (W.drew.alloc (ze #[zd U a,zd U k] 89)):=(bD W).alloc (Nat.le_refl _) _;have g:=h.over q;have V:=Ad.new [zd U a,zd U k] 89 W.drew;have R:w0.heap.size<=(W.drew.alloc (ze #[zd U a,zd U k] 89)).heap.size:=g.below.size;obtain ⟨v2,F,E,p,i,-,M⟩:=run_append_own_at (P:=Tryz.prog) (w:=W.drew.alloc (ze #[zd U a,zd U k] 89)) w0.heap.size 79 79 89 i0 (zh #[zd U 0,zd U 0]) 2 16 Tryz.underlying79 hi L J I rfl (by decide) _ _ _ g.own ⟨W.drew.heap.size,0,none⟩ 1 1 [zd U a,zd U k] rfl (fun jj u hu=>by rw [Addr.add_lit,Nat.zero_add];exact V jj u hu) (by simp [Value.oneCell']) (by unfold maxLen;omega) (by omega) R;obtain ⟨C,A,B,rfl⟩:=AE p;have l:=g.add p i M;have T:=h.c11;have S:=g.c11;have aa:=Ab (bA W (ze #[zd U a,zd U k] 89)) _ _ T;have d2:=i.cell S (fun hx=>g.ap hx.symm);have f2:F.frozen? ⟨bj,11,none⟩=false:=(World.frozen?_of_block (a:=⟨bj,11,none⟩) (i.block bj g.lo.2 (fun hx=>g.ap hx.symm))).trans (g.fz 11);have G:¬ XJ bj (W.drew.alloc (ze #[zd U a,zd U k] 89)) bx:=fun e=>nx ((Al bj).below _ _ q _ e);have H:¬ XJ bj (W.drew.alloc (ze #[zd U a,zd U k] 89)) ba:=fun e=>na ((Al bj).below _ _ q _ e);have Q:CE W.drew bx 0 (zi (some ⟨bj,0,none⟩))/\CE W.drew ba 0 (zd U a):=⟨hx,ha⟩;have s:CE (W.drew.alloc (ze #[zd U a,zd U k] 89)) bx 0 (zi (some ⟨bj,0,none⟩))/\CE (W.drew.alloc (ze #[zd U a,zd U k] 89)) ba 0 (zd U a):=⟨Ab q _ _ hx,Ab q _ _ ha⟩;have y:CE F bx 0 (zi (some ⟨bj,0,none⟩))/\CE F ba 0 (zd U a):=⟨i.cell s.1 (fun e=>G (Or.inr (Or.inr ⟨_,g.c11,e.symm⟩))),i.cell s.2 (fun e=>H (Or.inr (Or.inr ⟨_,g.c11,e.symm⟩)))⟩;have N:CE (F.setCell ⟨bj,11,none⟩ (O C A B)) bx 0 (zi (some ⟨bj,0,none⟩))/\CE (F.setCell ⟨bj,11,none⟩ (O C A B)) ba 0 (zd U a):=⟨l.2.cell s.1 G,l.2.cell s.2 H⟩;have t:Hx (AM cs w0 bj av (fl++[(a,k)]) (O C A B) (F.setCell ⟨bj,11,none⟩ (O C A B))/\FrW (XJ bj) W (F.setCell ⟨bj,11,none⟩ (O C A B))):=⟨l.1,(FrW.of_below (Al bj) q).trans l.2⟩;clear l p i M V R g h nx na G H q hi L J I;go_enter Tryz.func149,Tryz.ntmps149;go_wp2_with fail;refine gS (fun Z=>CE Z bx 0 (zi (some ⟨bj,0,none⟩))/\CE Z ba 0 (zd U a)) (Q) fun b=>?_;refine kT 0 ?_;refine kT 1 ?_;refine kT 2 ?_;refine kT 3 ?_;refine kT 5 ?_;refine kT 6 ?_;refine kT 7 ?_;refine rdB 4 8 rfl (fun K f=>?_) rfl fun K f=>?_
  ·go_simp
   refine xK f (Q) fun b=>?_;refine rdA 8 rfl fun K f=>?_;go_simp;refine xK f (s) fun b=>?_;refine rdA 9 rfl fun K f=>?_;refine Db rfl _ _ _ rfl _ _ _ _ rfl rfl E ?_;refine xK f (y) fun b=>?_;refine rdA 10 rfl fun K f=>?_;go_simp;refine xK f (y) fun b=>?_;refine rdA 11 rfl fun K f=>?_;go_simp;refine xK f (y) fun b=>?_;refine rdA 12 rfl fun K f=>?_;go_simp;refine xK f (N) fun b=>?_;refine gE ?_;go_end0;exact ⟨rfl,⟨_,t.o.1⟩,t.o.2⟩
  ·go_simp
   refine xK f (s) fun b=>?_;refine rdA 4 rfl fun K f=>?_;go_simp;refine xK f (s) fun b=>?_;refine rdA 9 rfl fun K f=>?_;refine Db rfl _ _ _ rfl _ _ _ _ rfl rfl E ?_;refine xK f (y) fun b=>?_;refine rdA 10 rfl fun K f=>?_;go_simp;refine xK f (y) fun b=>?_;refine rdA 11 rfl fun K f=>?_;go_simp;refine xK f (y) fun b=>?_;refine rdA 12 rfl fun K f=>?_;go_simp;refine xK f (N) fun b=>?_;refine gE ?_;go_end0;exact ⟨rfl,⟨_,t.o.1⟩,t.o.2⟩
structure JSt (c:WC) (w0:World) (gs:List (Int × Int)) (Ls Fs:List Lev):Prop where
 n1:1<=c.n
 n6:c.n<=6
 gr:AA w0 (O c.ga c.gn c.gc) gs
 chk:AR c.n gs=0
 levs:BW w0 (O c.la c.ln c.lc) Ls
 lens:∀ x∈Ls,x.len c.n
 flevs:BW w0 (O c.ka c.kn c.kc) Fs
 flens:∀ x∈Fs,x.len c.n
 l16:Ls.length<=16
theorem DY (c:WC) (gs) (v u:Value) (l k) (w:World) (hg:AA w (O c.ga c.gn c.gc) gs) (hE:AR c.n gs=0) (hl:A3 w v l) (hll:l.len c.n) (hk:A3 w u k) (hkl:k.len c.n) :
  Calls Tryz.prog 57 #[c.v,v,u] w fun e w'=>e=zj (zg (Av l k c.n))/\Ov w w':=by
 obtain ⟨x,y,rfl,-⟩:=id hl;obtain ⟨f,b,rfl,-⟩:=id hk;exact PC (c.n:Int) c.ga c.gn c.gc c.sa c.sn c.sc c.ya c.yn c.yc c.oa c.on c.oc c.va c.vn c.vc c.fa c.fn c.fc c.ba c.bn c.bc c.la c.ln c.lc c.ka c.kn c.kc gs x y f b l k w hg hl hk (EP hE hll hkl)
theorem RC (c:WC) (gs) (v u:Value) (l k) (w:World) (hg:AA w (O c.ga c.gn c.gc) gs) (hE:AR c.n gs=0) (hl:A3 w v l) (hll:l.len c.n) (hk:A3 w u k) (hkl:k.len c.n) :
  Calls Tryz.prog 58 #[c.v,v,u] w fun e w'=>∃ vj,e=zj vj/\A1 w w' vj (BA l k c.n)/\Ov w w':=by
 obtain ⟨x,y,rfl,-⟩:=id hl;obtain ⟨f,b,rfl,-⟩:=id hk;exact MY (c.n:Int) c.ga c.gn c.gc c.sa c.sn c.sc c.ya c.yn c.yc c.oa c.on c.oc c.va c.vn c.vc c.fa c.fn c.fc c.ba c.bn c.bc c.la c.ln c.lc c.ka c.kn c.kc gs x y f b l k w hg hl hk (EP hE hll hkl)
theorem Hh (c:WC) (gs) (pr pw:Value) (b:Lab) (w:World) (hg:AA w (O c.ga c.gn c.gc) gs) (hl:AL w pr b.r) (hk:AL w pw b.w) (h2:Bb c.n gs b=0) :
  Calls Tryz.prog 114 #[c.v,zh #[pr,pw]] w fun e w'=>∃ vj,e=zj vj/\A1 w w' vj (Ar (Ax gs) c.n b)/\Ov w w':=
 LN (c.n:Int) c.ga c.gn c.gc c.sa c.sn c.sc c.ya c.yn c.yc c.oa c.on c.oc c.va c.vn c.vc c.fa c.fn c.fc c.ba c.bn c.bc c.la c.ln c.lc c.ka c.kn c.kc gs pr pw b w hg hl hk h2
theorem Fh {w0:World} {ao:Option Addr} {an ac:Nat} {Ls:List Lev} {i:Nat} (h:BW w0 (O ao an ac) Ls) (hi:i < Ls.length):∃ b o a1 a2 a3 a4 a5 a6,ao=some ⟨b,o,none⟩/\an=Ls.length/\w0.cell? ⟨b,o+i*2,none⟩=some (O a1 a2 a3)/\w0.cell? ⟨b,o+i*2+1,none⟩=some (O a4 a5 a6)/\A3 w0 (zh #[O a1 a2 a3,O a4 a5 a6]) Ls[i]:=by
 obtain ⟨p,cap,g,e⟩:=h;injection g with l k s;obtain ⟨b,o,f,e⟩:=e (by rintro rfl;simp at hi);obtain ⟨rv,q,c0,c1,hl⟩:=e i hi;obtain ⟨a1,a2,a3,a4,a5,a6,rfl,rfl⟩:=AX hl;exact ⟨b,o,a1,a2,a3,a4,a5,a6,l.trans f,k,c0,c1,hl⟩
abbrev OC (bj:Nat) (c:WC) (bl ol:Nat) (W:World) (p1:Option Addr) (q1 r1:Nat) (p2:Option Addr) (q2 r2 i:Nat) (a1:Option Addr) (a2 a3:Nat) (a4:Option Addr) (a5 a6:Nat) (Wz:World):Prop:=Wz.cell? ⟨bj,0,none⟩=some (zd U (c.n:Int))/\CE Wz bj 1 (O c.ga c.gn c.gc)/\CE Wz bj 2 (O c.sa c.sn c.sc)/\CE Wz bj 3 (O c.ya c.yn c.yc)/\CE Wz bj 4 (O c.oa c.on c.oc)/\CE Wz bj 5 (O c.va c.vn c.vc)/\CE Wz bj 6 (O c.fa c.fn c.fc)/\CE Wz bj 7 (O c.ba c.bn c.bc)/\CE Wz bj 8 (O (some ⟨bl,ol,none⟩) c.ln c.lc)/\CE Wz bj 9 (O c.ka c.kn c.kc)/\CE Wz W.heap.size 0 (O p1 q1 r1)/\CE Wz W.heap.size 1 (O p2 q2 r2)/\CE Wz bl (ol+i*2) (O a1 a2 a3)/\CE Wz bl (ol+i*2+1) (O a4 a5 a6)
theorem FA (c) (w0:World) (bj:Nat) (av:Value) (fl) (fv:Value) (gs Ls Fs) (J:JSt c w0 gs Ls Fs) (v:Value) (l) (i:Nat) (W:World) (h:AM c.cs w0 bj av fl fv W) (hl:A3 W v l) (hll:l.len c.n) (hi:i < Ls.length) :
  Calls Tryz.prog 150 #[zi (some ⟨bj,0,none⟩),v,zd U (i:Int)] W fun e W'=>e=zj (zg (Av l Ls[i] c.n))/\Ov W W':=by
 obtain ⟨M,H,T,S,R,Q,P,N,E,C,k0,k1,hk⟩:=Fh J.levs hi;obtain ⟨u,s,p,t,q,k,rfl⟩:∃ u s p t q k,v=zh #[O u s p,O t q k]:=by
  obtain ⟨x,y,rfl,-⟩:=id hl;obtain ⟨u,s,p,t,q,k,rfl,rfl⟩:=AX hl;exact ⟨_,_,_,_,_,_,rfl⟩
 have F:Ov W (W.alloc (ze #[O u s p,O t q k] 50)):=bA W _;have f:=h.over F;have A:=Ad.new [O u s p,O t q k] 50 W;have g:=f.below;have I:c.v=zh #[zd U (c.n:Int),O c.ga c.gn c.gc,O c.sa c.sn c.sc,O c.ya c.yn c.yc,O c.oa c.on c.oc,O c.va c.vn c.vc,O c.fa c.fn c.fc,O c.ba c.bn c.bc,O (some ⟨M,H,none⟩) c.ln c.lc,O c.ka c.kn c.kc]:=by show Value.agg #[zd U (c.n:Int),O c.ga c.gn c.gc,O c.sa c.sn c.sc,O c.ya c.yn c.yc,O c.oa c.on c.oc,O c.va c.vn c.vc,O c.fa c.fn c.fc,O c.ba c.bn c.bc,O c.la c.ln c.lc,O c.ka c.kn c.kc]=_;rw [E]
 have KF:Hx (∀ (W2:World),Ov (W.alloc (ze #[O u s p,O t q k] 50)) W2->Calls Tryz.prog 57 #[zh #[zd U (c.n:Int),O c.ga c.gn c.gc,O c.sa c.sn c.sc,O c.ya c.yn c.yc,O c.oa c.on c.oc,O c.va c.vn c.vc,O c.fa c.fn c.fc,O c.ba c.bn c.bc,O (some ⟨M,H,none⟩) c.ln c.lc,O c.ka c.kn c.kc],zh #[O u s p,O t q k],zh #[O T S R,O Q P N]] W2 fun e w'=>e=zj (zg (Av l Ls[i] c.n))/\Ov W2 w'):=fun W2 b=>by
  have:=DY c gs _ _ l Ls[i] W2 (Af J.gr (g.trans (b.mono g.size))) J.chk (AK (AK hl F) b) hll (AK hk (g.trans (b.mono g.size))) (J.lens _ (List.getElem_mem hi));rw [I] at this;exact this
 have G:OC bj c M H W u s p t q k i T S R Q P N (W.alloc (ze #[O u s p,O t q k] 50)):=⟨f.cw 0 _ rfl,f.cw 1 _ rfl,f.cw 2 _ rfl,f.cw 3 _ rfl,f.cw 4 _ rfl,f.cw 5 _ rfl,f.cw 6 _ rfl,f.cw 7 _ rfl,by rw [<-E];exact f.cw 8 _ rfl,f.cw 9 _ rfl,A 0 _ rfl,A 1 _ rfl,Ab g _ _ k0,Ab g _ _ k1⟩;have HS:Hx (∀ W2,Ov (W.alloc (ze #[O u s p,O t q k] 50)) W2->OC bj c M H W u s p t q k i T S R Q P N W2):=fun W2 b=>by
  obtain ⟨s0,s1,s2,s3,s4,s5,s6,s7,s8,s9,ab,aa,Z,V⟩:=G;exact ⟨Ab b _ _ s0,Ab b _ _ s1,Ab b _ _ s2,Ab b _ _ s3,Ab b _ _ s4,Ab b _ _ s5,Ab b _ _ s6,Ab b _ _ s7,Ab b _ _ s8,Ab b _ _ s9,Ab b _ _ ab,Ab b _ _ aa,Ab b _ _ Z,Ab b _ _ V⟩
 have az:(i:Int) < (c.ln:Int):=by rw [C];omega
 have ay:c.ln<=16:=by rw [C];exact J.l16
 obtain ⟨t0,t1,t2,t3,t4,t5,t6,t7,t8,t9,ak,aj,ai,ah⟩:=id G;generalize hfb:Av l Ls[i] c.n=fb at KF ⊢;clear J h f hl hll A g hk k0 k1 hfb I E C;go_enter Tryz.func150,Tryz.ntmps150;go_wp2_with fail;refine gS (OC bj c M H W u s p t q k i T S R Q P N) (G) fun B=>?_;refine kT 0 ?_;refine kT 1 ?_;refine kT 2 ?_;refine kT 3 ?_;refine kT 4 ?_;refine kT 5 ?_;refine kT 6 ?_;refine kT 7 ?_;refine kT 8 ?_;refine kT 9 ?_;refine kT 10 ?_;refine kT 11 ?_;refine kT 12 ?_;refine kT 13 ?_;refine rdA 14 rfl fun K hK=>?_;go_simp;refine (KF.o _ (bD _)).mono ?_;rintro e W2 ⟨rfl,b⟩;have L:=HS.o W2 (Ac (bD _) b);go_simp;refine xK hK (L) fun B=>?_;refine rdA 15 rfl fun K hK=>?_;go_simp;refine xK hK (L) fun B=>?_;refine gE ?_;go_wp2_with fail;go_ret;exact ⟨rfl,Ac F (Ac (bD _) b)⟩
section
variable {α:Type}
def GH (p:α->Bool) (l:List α):Int:=match l.findIdx? p with | some i=>i | none=>-1
theorem JB {p:α->Bool} {l:List α} {k:Nat} (hk:k < l.length) (h:(l.take k).all (fun g=>!p g)=true) (hp:p l[k]=true):GH p l=k:=by
 have:l.findIdx? p=some k:=by
  rw [List.findIdx?_eq_some_iff_getElem];refine ⟨hk,hp,fun j b=>?_⟩;have:=List.all_eq_true.1 h l[j] (List.mem_take_iff_getElem.2 ⟨j,by omega,rfl⟩);simpa using this
 simp [GH,this]
theorem F6 {p:α->Bool} {l:List α} (h:l.all (fun g=>!p g)=true):GH p l=-1:=by
 have:l.findIdx? p=none:=by
  rw [List.findIdx?_eq_none_iff];intro x b;have:=List.all_eq_true.1 h x b;simpa using this
 simp [GH,this]
theorem Hu (p:α->Bool) (l:List α):decide (0<=GH p l)=l.any p:=by
 unfold GH
 cases h:l.findIdx? p with
 | none=>
  have:l.any p=false:=by rw [List.any_eq_false];intro x b;have:=(List.findIdx?_eq_none_iff.1 h) x b;simpa using this
  rw [this];rfl
 | some i=>
  obtain ⟨hi,e,_⟩:=List.findIdx?_eq_some_iff_getElem.1 h;have:l.any p=true:=List.any_eq_true.2 ⟨_,List.getElem_mem hi,e⟩;rw [this];simp
end
theorem Qo (F:FuncId) (cap:List Value) (p:Int->Bool) (v:Value) (l) (w:World) (hv:AN w v l) (hn:l.length<=6)
  (hF:Hx (∀ (i:Nat) (h:i < l.length) (w1:World),Ov w w1->Calls Tryz.prog F (zd U l[i]::cap).toArray w1 fun e w2=>e=zj (zg (p l[i]))/\Ov w1 w2))
  (hC:∀ (args:Array Value) (w:World),(callFunc F args).run Tryz.prog w=.ok (.enter F args) w) :
  Calls Tryz.prog 190 #[v,.func (.func F) #[] cap.toArray] w fun e w'=>e=zj (zd U (GH p l))/\Ov w w':=by
 obtain ⟨S,R,rfl,y⟩:=hv;go_enter Tryz.func190,Tryz.ntmps190;go_wp2_with fail;go_loopw [8] (fun i wr=>∃ k:Nat,k<=l.length/\i=zd U k/\(l.take k).all (fun g=>!p g)=true/\Ov w wr) (fun i _=>l.length - (intOf i).toNat)
 case atStart=>exact ⟨0,Nat.zero_le _,rfl,rfl,Below.refl _ w⟩
 case round=>
  obtain ⟨k,hk,rfl,s,f⟩:=hrel;by_cases hkl:k < l.length
  ·obtain ⟨b,off,rfl,E⟩:=y (by rintro rfl;simp at hkl)
   have G:=E k hkl;have I:=bL G;rw [<-(An f).1 _ _ I] at G;have q:=hF.o k hkl;have B:=fun (H:p l[k]=true)=>JB hkl s H;have u:p l[k]=false->(l.take (k+1)).all (fun g=>!p g)=true:=fun H=>by
    rw [List.take_succ_eq_append_getElem hkl,List.all_append,s];simp [H]
   obtain ⟨r,L⟩:=nm (p l[k]);rw [<-L] at q B u;obtain ⟨Q,C⟩:=nm (l[k]);rw [<-C] at G q;clear C;have M:=Aa q;have P:=Aa B;have O:=Aa u;clear L q B u E y hF
   cases r with
   | true=>
    go_wp2_with fail;refine (M.o _ f).mono ?_;rintro e w2 ⟨rfl,A⟩;have t:Ov w w2:=f.trans (A.mono f.size);go_wp2_with fail;go_ret;exact ⟨by rw [P.o (by first | rfl | trivial)];rfl,t⟩
   | false=>
    go_wp2_with fail;refine (M.o _ f).mono ?_;rintro e w2 ⟨rfl,A⟩;have t:Ov w w2:=f.trans (A.mono f.size);go_wp2_with fail;exact ⟨⟨k+1,by omega,by go_num,O.o (by first | rfl | trivial),t⟩,by simp [intOf];omega⟩
  ·have J:k=l.length:=by omega
   rw [J,List.take_length] at s;have N:=F6 s;clear s y hF;go_wp2_with fail;go_ret;exact ⟨by rw [N];rfl,f⟩
theorem H5 (F:FuncId) (cap:List Value) (p:Int->Bool) (v:Value) (l) (w:World) (hv:AN w v l) (hn:l.length<=6)
  (hF:Hx (∀ (i:Nat) (h:i < l.length) (w1:World),Ov w w1->Calls Tryz.prog F (zd U l[i]::cap).toArray w1 fun e w2=>e=zj (zg (p l[i]))/\Ov w1 w2))
  (hC:∀ (args:Array Value) (w:World),(callFunc F args).run Tryz.prog w=.ok (.enter F args) w) :
  Calls Tryz.prog 124 #[v,.func (.func F) #[] cap.toArray] w fun e w'=>e=zj (zg (l.any p))/\Ov w w':=by
 have g:=Qo F cap p v l w hv hn hF hC;have b:=Hu p l;obtain ⟨r,k⟩:=nm (GH p l);rw [<-k] at g b;rw [<-b];have q:=Aa g;clear g b k hv hC hF;go_enter Tryz.func124,Tryz.ntmps124;go_wp2_with fail;refine (q.o).mono ?_;rintro e w1 ⟨rfl,f⟩;go_wp2_with fail;go_ret;exact ⟨by simp,f⟩
theorem Qm (F:FuncId) (cap:List Value) (p:Pol->Bool) (v:Value) (l:List Pol) (w:World) (hv:AL w v l) (hn:l.length<=6)
  (hF:Hx (∀ (i:Nat) (h:i < l.length) (w1:World),Ov w w1->∀ nv,AN w1 nv l[i].names->Calls Tryz.prog F (zh #[zd U l[i].owner,nv]::cap).toArray w1 fun e w2=>e=zj (zg (p l[i]))/\Ov w1 w2))
  (hC:∀ (args:Array Value) (w:World),(callFunc F args).run Tryz.prog w=.ok (.enter F args) w) :
  Calls Tryz.prog 247 #[v,.func (.func F) #[] cap.toArray] w fun e w'=>e=zj (zd U (GH p l))/\Ov w w':=by
 obtain ⟨Z,W,rfl,y⟩:=hv;go_enter Tryz.func247,Tryz.ntmps247;go_wp2_with fail;go_loopw [8] (fun i wr=>∃ k:Nat,k<=l.length/\i=zd U k/\(l.take k).all (fun g=>!p g)=true/\Ov w wr) (fun i _=>l.length - (intOf i).toNat)
 case atStart=>exact ⟨0,Nat.zero_le _,rfl,rfl,Below.refl _ w⟩
 case round=>
  obtain ⟨k,hk,rfl,s,f⟩:=hrel;by_cases hkl:k < l.length
  ·obtain ⟨b,off,rfl,G⟩:=y (by rintro rfl;simp at hkl)
   obtain ⟨H,nv,M,C⟩:=G k hkl;obtain ⟨H,M⟩:=co2 f H M;obtain ⟨n1,T,J,-⟩:=id C;subst J;have q:=fun (w1:World) (O:Ov w w1)=>hF.o k hkl w1 O _ (BT C O);have B:=fun (I:p l[k]=true)=>JB hkl s I;have u:p l[k]=false->(l.take (k+1)).all (fun g=>!p g)=true:=fun I=>by
    rw [List.take_succ_eq_append_getElem hkl,List.all_append,s];simp [I]
   obtain ⟨r,N⟩:=nm (p l[k]);rw [<-N] at q B u;obtain ⟨V,E⟩:=nm (l[k].owner);rw [<-E] at H q;clear E;have P:=Aa q;have S:=Aa B;have R:=Aa u;clear N q B u G y hF
   cases r with
   | true=>
    go_wp2_with fail;refine (P.o _ f).mono ?_;rintro e w2 ⟨rfl,A⟩;have t:Ov w w2:=f.trans (A.mono f.size);go_wp2_with fail;go_ret;exact ⟨by rw [S.o (by first | rfl | trivial)];rfl,t⟩
   | false=>
    go_wp2_with fail;refine (P.o _ f).mono ?_;rintro e w2 ⟨rfl,A⟩;have t:Ov w w2:=f.trans (A.mono f.size);go_wp2_with fail;exact ⟨⟨k+1,by omega,by go_num,R.o (by first | rfl | trivial),t⟩,by simp [intOf];omega⟩
  ·have L:k=l.length:=by omega
   rw [L,List.take_length] at s;have Q:=F6 s;clear s y hF;go_wp2_with fail;go_ret;exact ⟨by rw [Q];rfl,f⟩
theorem Mg (F:FuncId) (cap:List Value) (p:Pol->Bool) (v:Value) (l:List Pol) (w:World) (hv:AL w v l) (hn:l.length<=6)
  (hF:Hx (∀ (i:Nat) (h:i < l.length) (w1:World),Ov w w1->∀ nv,AN w1 nv l[i].names->Calls Tryz.prog F (zh #[zd U l[i].owner,nv]::cap).toArray w1 fun e w2=>e=zj (zg (p l[i]))/\Ov w1 w2))
  (hC:∀ (args:Array Value) (w:World),(callFunc F args).run Tryz.prog w=.ok (.enter F args) w) :
  Calls Tryz.prog 235 #[v,.func (.func F) #[] cap.toArray] w fun e w'=>e=zj (zg (l.any p))/\Ov w w':=by
 have g:=Qm F cap p v l w hv hn hF hC;have b:=Hu p l;obtain ⟨r,k⟩:=nm (GH p l);rw [<-k] at g b;rw [<-b];have q:=Aa g;clear g b k hv hC hF;go_enter Tryz.func235,Tryz.ntmps235;go_wp2_with fail;refine (q.o).mono ?_;rintro e w1 ⟨rfl,f⟩;go_wp2_with fail;go_ret;exact ⟨by simp,f⟩
end Go.Proofs.YtfffpjkcfnekaaaGreat.Ex
