/- Checks of a function, whatever it is. -/
import Derived.Test.YtfffpjkcfnekaaaGreatE06
import Derived.Deep.CutRange
import Derived.Deep.SlicePairs
import Derived.Maps.AppendAt
set_option linter.unusedVariables false
set_option maxHeartbeats 8000000
set_option maxRecDepth 100000
namespace Go.Proofs.YtfffpjkcfnekaaaGreat.Ex.Ey
open Go.RowKit
open Go.Value renaming slice -> O, int -> zd, bool -> zg, agg -> zh, pointer -> zi, tuple -> zk
open Go.IntKind renaming i64 -> U
open Go.Obj renaming cells -> ze
open Go.Ending renaming returned -> zj
theorem NM (vs) (x:Int) (v:Value) (w:World) (hv:AN w v vs) (hl:vs.length<=9223372036854775807) :
  Calls Tryz.prog 242 #[v,zd U x] w fun e w'=>∃ r:Int,e=zj (zd U r)/\(-1<=r/\(0<=r ↔ x∈vs))/\∃ n,w'=w.drewN n:=by
 obtain ⟨z,p,rfl,d⟩:=hv;have g:=Aa d;clear d;go_enter Tryz.func242,Tryz.ntmps242;go_wp2_with fail;go_loopw [8] (fun i wr=>∃ k:Nat,k<=vs.length/\i=zd U k/\Hx (x ∉ vs.take k)/\∃ n,wr=w.drewN n) (fun i _=>vs.length - (intOf i).toNat)
 case atStart=>exact ⟨0,Nat.zero_le _,rfl,Aa (by simp),0,rfl⟩
 case round=>
  obtain ⟨k,t,rfl,j,n,rfl⟩:=hrel;by_cases hkl:k < vs.length
  ·obtain ⟨b,m,rfl,c⟩:=g.o (by rintro rfl;simp at hkl)
   have l:=c k hkl;obtain ⟨y,f⟩:=nm (vs[k]);rw [<-f] at l;have s:Hx (y∈vs):=Aa (by rw [f];exact List.getElem_mem hkl);have q:Hx (vs.take (k+1)=vs.take k++[y]):=Aa (by rw [f];exact List.take_succ_eq_append_getElem hkl);clear c f;by_cases hxy:x=y
   ·subst hxy
    go_wp2_with fail;go_ret;exact ⟨(k:Int),rfl,⟨by omega,fun _=>s.o,fun _=>by omega⟩,n,rfl⟩
   ·have u:(x == y)=false:=by simpa using hxy
    have a:Hx (x ∉ vs.take (k+1)):=Aa (by rw [q.o];simp [hxy];exact j.o);go_wp2_with fail;exact ⟨⟨k+1,by omega,by go_num,a,n,rfl⟩,by simp [intOf];omega⟩
  ·have a:Hx (x ∉ vs):=Aa (by have:=j.o;rw [List.take_of_length_le (by omega)] at this;exact this)
   go_wp2_with fail;go_ret;exact ⟨-1,rfl,⟨by omega,fun h=>absurd h (by omega),fun h=>absurd h a.o⟩,n,rfl⟩
theorem FI (vs) (x:Int) (v:Value) (w:World) (hv:AN w v vs) (hl:vs.length<=9223372036854775807) :
  Calls Tryz.prog 218 #[v,zd U x] w fun e w'=>e=zj (zg (decide (x∈vs)))/\∃ n,w'=w.drewN n:=by
 have c:=Aa (NM vs x v w hv hl);obtain ⟨j,f,rfl,-⟩:=hv;go_enter Tryz.func218,Tryz.ntmps218;go_wp2_with fail;refine (c.o).mono ?_;rintro e i ⟨r,rfl,b,n,rfl⟩;clear c;have g:=Aa b;clear b;go_wp2_with fail;go_ret;refine ⟨?_,n,rfl⟩;have:=g.o;by_cases h:x∈vs
 ·have a:0<=r:=this.2.2 h
  simp [h,a]
 ·have a:¬ 0<=r:=fun d=>h (this.2.1 d)
  simp [h,a]
def xF (K:Nat) (nv ni no:Nat) (ahead:Int) (fs:List FnD) (k:Nat) (f:FnD):Prop:=
 f.ps.length<=4/\(∀ p∈f.ps,0<=p/\p < nv)/\(∀ i (h:i < f.ps.length),f.ps[i] ∉ f.ps.take i)/\(∀ s∈f.body,xS K nv ni no ahead fs k s)/\AU nv K f.res=0
theorem xF.ok {K nv ni no:Nat} {ahead:Int} {fs:List FnD} {k:Nat} {f:FnD} (h:xF K nv ni no ahead fs k f):okF K nv ni no ahead fs k f:=⟨h.1,h.2.1,fun s hs=>(h.2.2.2.1 s hs).ok,h.2.2.2.2⟩
abbrev Q3 (w:World) (m:Int) (ga:Option Addr) (gn gc:Nat) (sa:Option Addr) (sn sc:Nat) (ya:Option Addr) (yn yc:Nat) (oa:Option Addr) (on oc:Nat) (va:Option Addr) (vn vc:Nat) (fa:Option Addr) (fn fc:Nat) (ba:Option Addr) (bn bc:Nat) (pa:Option Addr) (pn pc:Nat) (za:Option Addr) (zn zc:Nat) (ek en:Int) (xa:Option Addr) (xl xc:Nat) (Wz:World):Prop:=Wz.cell? ⟨w.heap.size,0,none⟩=some (zd U m)/\CE Wz w.heap.size 1 (O ga gn gc)/\CE Wz w.heap.size 2 (O sa sn sc)/\CE Wz w.heap.size 3 (O ya yn yc)/\CE Wz w.heap.size 4 (O oa on oc)/\CE Wz w.heap.size 5 (O va vn vc)/\CE Wz w.heap.size 6 (O fa fn fc)/\CE Wz w.heap.size 7 (O ba bn bc)/\CE Wz (w.heap.size+1) 0 (O pa pn pc)/\CE Wz (w.heap.size+1) 1 (O za zn zc)/\CE Wz (w.heap.size+1) 2 (zd U ek)/\CE Wz (w.heap.size+1) 3 (zd U en)/\CE Wz (w.heap.size+1) 4 (O xa xl xc)
theorem Iu (K kf k:Nat) (fs:List FnD) (f:FnD) (funcs:Int) (m:Int) (ga gn gc sa sn sc) (ya:Option Addr) (yn yc:Nat) (oa:Option Addr) (on oc:Nat) (va:Option Addr) (vn vc:Nat) (fa fn fc ba bn bc pa pn pc za zn zc) (ek en:Int) (xa xl xc) (w:World)
  (hv:vn<=9223372036854775807) (h0f:0<=funcs) (h1f:funcs<=9223372036854775807) (hyl:yn<=9223372036854775807) (hol:on<=9223372036854775807) (hff:funcs<=fs.length)
  (hp:AN w (O pa pn pc) f.ps) (hpl:f.ps.length<=maxLen) (hpc:pn<=pc/\pc<=maxLen) (hs:Bj w K k (O za zn zc) f.body) (hx:RX w K [zd U ek,zd U en,O xa xl xc] f.res) (hfs:Bv w K kf (O fa fn fc) fs) :
  Calls Tryz.prog 176 #[zh #[zd U m,O ga gn gc,O sa sn sc,O ya yn yc,O oa on oc,O va vn vc,O fa fn fc,O ba bn bc],zh #[O pa pn pc,O za zn zc,zd U ek,zd U en,O xa xl xc],zd U funcs] w (Du (xF K vn yn on funcs fs k f) w):=by
 have K1:=Aa BZ;have K2:=Aa Bf;have KS:=Aa fun W (d:Ov w W)=>G6 K kf fs funcs m ga gn gc sa sn sc ya yn yc oa on oc va vn vc fa fn fc ba bn bc hv h0f h1f hyl hol hff k (O za zn zc) f.body W (hs.over d) (hfs.over d);have KX:=Aa fun W (d:Ov w W)=>B9 K m ga gn gc sa sn sc ya yn yc oa on oc va vn vc fa fn fc ba bn bc _ f.res W (hx.over d) hv;have KC:=Aa fun W (d:Ov w W) (x:Int) (i:Nat) (hi:i<=pn) (c:Nat)=>FI (f.ps.take i) x (O pa i c) W;have ab:pn=f.ps.length:=by obtain ⟨a2,r,j,-⟩:=hp;injection j
 have HP:=Aa hp;have l:=Aa ab;have bi:pn<=9223372036854775807:=by rw [ab];exact hpl
 obtain ⟨bk,V⟩:=hpc;have bj:pc<=9223372036854775807:=V;clear hp hpl hs hx hfs ab V;have A:Ov w ((w.alloc (ze #[zd U m,O ga gn gc,O sa sn sc,O ya yn yc,O oa on oc,O va vn vc,O fa fn fc,O ba bn bc] 184)).alloc (ze #[O pa pn pc,O za zn zc,zd U ek,zd U en,O xa xl xc] 105)):=(bA w _).alloc (by simp) _;obtain ⟨N,M,r,L,J,I,H,G⟩:=rc8 (GM w [zd U m,O ga gn gc,O sa sn sc,O ya yn yc,O oa on oc,O va vn vc,O fa fn fc,O ba bn bc] 184 (ze #[O pa pn pc,O za zn zc,zd U ek,zd U en,O xa xl xc] 105));obtain ⟨F,E,D,C,B⟩:=rc5 (Ig w (ze #[zd U m,O ga gn gc,O sa sn sc,O ya yn yc,O oa on oc,O va vn vc,O fa fn fc,O ba bn bc] 184) [O pa pn pc,O za zn zc,zd U ek,zd U en,O xa xl xc] 105);go_enter Tryz.func176,Tryz.ntmps176;go_wp2_with fail;refine (K1.o _ _ _).mono ?_;rintro e wz ⟨j,rfl⟩;rcases j with ⟨g,rfl⟩ | ⟨g,rfl⟩;rotate_left
 ·have S:Hx (¬ xF K vn yn on funcs fs k f):=Aa (fun P=>absurd P.1 (by rw [<-l.o];simp at g;omega))
  clear g;unfold Ay;go_wp2_with fail;exact ⟨rfl,Or.inr ⟨S.o,2,by decide,rfl⟩,A⟩
 have ah:pn<=4:=by simp at g;omega
 have a9:Hx (f.ps.length<=4):=by rw [<-l.o];exact ah
 clear g ah;go_wp2_with fail;go_loopw [18] (fun i wr=>∃ n:Nat,n<=pn/\i=zd U n/\(∀ p∈f.ps.take n,0<=p/\p < (vn:Int))/\(Q3 w m ga gn gc sa sn sc ya yn yc oa on oc va vn vc fa fn fc ba bn bc pa pn pc za zn zc ek en xa xl xc wr)/\Ov w wr) (fun i _=>pn - (intOf i).toNat)
 case atStart=>exact ⟨0,Nat.zero_le _,rfl,by simp,⟨N,M,r,L,J,I,H,G,F,E,D,C,B⟩,A⟩
 case round=>
  clear N M r L J I H G F E D C B A;obtain ⟨n,hn,rfl,ai,⟨N,M,r,L,J,I,H,G,F,E,D,C,B⟩,d⟩:=hrel;have ad:=Aa ai;clear ai;by_cases hnl:n < pn
  ·have a:n < f.ps.length:=by rw [<-l.o];exact hnl
   obtain ⟨a2,az,j,hpc⟩:=HP.o;injection j with e1 e2 e3;subst e1;obtain ⟨b,ay,rfl,z⟩:=hpc (by intro h;rw [h] at a;simp at a);have q:=Ab d _ _ (z n a);have Z:f.ps.take (n+1)=f.ps.take n++[f.ps[n]]:=List.take_succ_eq_append_getElem a;obtain ⟨x,hx⟩:=nm (f.ps[n]);have ac:=List.getElem_mem a;rw [<-hx] at q Z ac;have a8:=Aa Z;have bf:=Aa ac;clear ac;clear hpc z hx Z e2 e3;go_wp2_with fail;refine (K2.o _ _ _).mono ?_;rintro e wz ⟨rfl,rfl⟩;go_wp2_with fail;refine (K1.o _ _ _).mono ?_;rintro e wz ⟨j,rfl⟩;rcases j with ⟨T,rfl⟩ | ⟨g,rfl⟩;rotate_left
   ·have S:Hx (¬ xF K vn yn on funcs fs k f):=Aa (fun P=>absurd (P.2.1 x bf.o) (by simp at g;omega))
    clear g;unfold Ay;go_wp2_with fail;exact ⟨rfl,Or.inr ⟨S.o,5,by decide,rfl⟩,d⟩
   have af:0<=x/\x < vn:=by simpa using T
   have aj:∀ p∈f.ps.take (n+1),0<=p/\p < (vn:Int):=fun p hp=>by
    rw [a8.o,List.mem_append,List.mem_singleton] at hp;rcases hp with hp | rfl
    ·exact ad.o p hp
    ·exact af
   have bd:=Aa aj;clear aj af T;go_wp2_with fail;exact ⟨⟨n+1,by omega,by go_num,bd.o,⟨N,M,r,L,J,I,H,G,F,E,D,C,B⟩,d⟩,by simp [intOf];omega⟩
  ·have X:f.ps.take n=f.ps:=List.take_of_length_le (by rw [<-l.o];omega)
   have v:=ad.o;rw [X] at v;have as:=Aa v;clear v X ad;obtain ⟨w1,ae⟩:=nm wr;rw [<-ae] at N M r L J I H G F E D C B d ⊢;clear ae;go_wp2_with fail;go_loopw [33] (fun i wr=>∃ n:Nat,n<=pn/\i=zd U n/\Hx (∀ i (h:i < f.ps.length),i < n->f.ps[i] ∉ f.ps.take i)/\(Q3 w m ga gn gc sa sn sc ya yn yc oa on oc va vn vc fa fn fc ba bn bc pa pn pc za zn zc ek en xa xl xc wr)/\Ov w wr) (fun i _=>pn - (intOf i).toNat)
   case atStart=>exact ⟨0,Nat.zero_le _,rfl,Aa (fun i h hi=>absurd hi (by omega)),⟨N,M,r,L,J,I,H,G,F,E,D,C,B⟩,d⟩
   case round=>
    clear N M r L J I H G F E D C B d;obtain ⟨n,hn,rfl,aw,⟨N,M,r,L,J,I,H,G,F,E,D,C,B⟩,d⟩:=hrel;by_cases hnl:n < pn
    ·have a:n < f.ps.length:=by rw [<-l.o];exact hnl
     obtain ⟨a2,az,j,hpc⟩:=HP.o;injection j with e1 e2 e3;subst e1;have u:=(HP.o.over d);rw [l.o] at u;have t:=u.prefix (i:=n) (by omega) pc;obtain ⟨b,ay,rfl,z⟩:=hpc (by intro h;rw [h] at a;simp at a);have q:=Ab d _ _ (z n a);obtain ⟨x,hx⟩:=nm (f.ps[n]);rw [<-hx] at q;have aq:=Aa hx;have be:=Aa a;have a6:=Aa (FI _ x _ _ t (by simp;omega));clear hpc z hx e2 e3 u t;go_wp2_with fail;refine (a6.o).mono ?_;rintro e w5 ⟨rfl,nd,rfl⟩;obtain ⟨rb,aa⟩:=nm (decide (x∈f.ps.take n));rw [<-aa];have ar:=Aa aa;clear aa;have am:=below_drewN d nd;go_wp2_with fail;refine (K1.o _ _ _).mono ?_;rintro e wz ⟨j,rfl⟩;rcases j with ⟨g,rfl⟩ | ⟨g,rfl⟩;rotate_left
     ·have S:Hx (¬ xF K vn yn on funcs fs k f):=Aa (fun P=>absurd (P.2.2.1 n be.o) (by rw [<-aq.o];have hq:=ar.o;simp at g;rw [g] at hq;simpa using hq))
      clear g;unfold Ay;go_wp2_with fail;exact ⟨rfl,Or.inr ⟨S.o,6,by decide,rfl⟩,am⟩
     have av:Hx (∀ i (h:i < f.ps.length),i < n+1->f.ps[i] ∉ f.ps.take i):=Aa (fun i h hi=>by
      by_cases hin:i=n
      ·subst hin
       rw [<-aq.o];have hq:=ar.o;simp at g;rw [g] at hq;simpa using hq
      ·exact aw.o i h (by omega))
     clear g;go_wp2_with fail;exact ⟨⟨n+1,by omega,by go_num,av,⟨N,M,r,L,J,I,H,G,F,E,D,C,B⟩,am⟩,by simp [intOf];omega⟩
    ·have au:Hx (∀ i (h:i < f.ps.length),f.ps[i] ∉ f.ps.take i):=Aa (fun i h=>aw.o i h (by have:=l.o;omega))
     have ap:=Aa (KS.o _ d);go_wp2_with fail;refine (ap.o).mono ?_;rintro e w6 ⟨j,Q⟩;have R:=d.trans (Q.mono d.size);rcases j with ⟨al,rfl⟩ | ⟨y,Y,s,rfl⟩;rotate_left
     ·have S:Hx (¬ xF K vn yn on funcs fs k f):=Aa (fun P=>y P.2.2.2.1)
      clear y;unfold Ay;go_wp2_with fail;exact ⟨rfl,Or.inr ⟨S.o,Y,s,rfl⟩,R⟩
     have bh:=Aa al;obtain ⟨r0,r1,r2,r3,r4,r5,r6,r7,g0,g1⟩:=CU Q N M r L J I H G F E;obtain ⟨g2,g3,g4⟩:=co3 Q D C B;have ao:=Aa (KX.o _ R);clear al Q d N M r L J I H G F E D C B ap;go_wp2_with fail;refine (ao.o).mono ?_;rintro e w7 ⟨j,a1⟩;have an:=R.trans (a1.mono R.size);rcases j with ⟨ak,rfl⟩ | ⟨y,Y,s,rfl⟩;rotate_left
     ·have S:Hx (¬ xF K vn yn on funcs fs k f):=Aa (fun P=>y P.2.2.2.2)
      clear y;unfold Ay;go_wp2_with fail;exact ⟨rfl,Or.inr ⟨S.o,Y,s,rfl⟩,an⟩
     have bg:=Aa ak;clear ak ao;go_wp2_with fail;go_end0;exact ⟨Or.inl ⟨⟨a9.o,as.o,au.o,bh.o,bg.o⟩,rfl⟩,an⟩
abbrev Oc (w:World) (m:Int) (ga:Option Addr) (gn gc:Nat) (va:Option Addr) (vn vc:Nat) (Wz:World):Prop:=Wz.cell? ⟨w.heap.size,0,none⟩=some (zd U m)/\CE Wz w.heap.size 1 (O ga gn gc)/\CE Wz w.heap.size 5 (O va vn vc)
theorem Kq (m:Int) (ga gn gc) (sa sn sc) (ya yn yc oa on oc va vn vc) (fa fn fc ba bn bc gs ls ms vs) (w:World) (hg:AA w (O ga gn gc) gs) (h1:AW w (O ya yn yc) ls) (h2:AW w (O oa on oc) ms) (h3:Bs w (O va vn vc) vs)
  (hy:yn<=5) (ho:on<=5) (hyc:ya=none->yc=0) (hoc:oa=none->oc=0) :
  Calls Tryz.prog 174 #[zh #[zd U m,O ga gn gc,O sa sn sc,O ya yn yc,O oa on oc,O va vn vc,O fa fn fc,O ba bn bc]] w (Du (Fi m gs (ls++ms) vs) w):=by
 have t:Ov w ((w.alloc (ze #[zd U m,O ga gn gc,O sa sn sc,O ya yn yc,O oa on oc,O va vn vc,O fa fn fc,O ba bn bc] 184)).alloc (ze #[O ya yn yc,O oa on oc] 26)):=(bA w _).alloc (by simp) _;have Z:Ad [O ya yn yc,O oa on oc] ((w.alloc (ze #[zd U m,O ga gn gc,O sa sn sc,O ya yn yc,O oa on oc,O va vn vc,O fa fn fc,O ba bn bc] 184)).alloc (ze #[O ya yn yc,O oa on oc] 26)) (w.heap.size+1):=by
  have r:=Ad.new [O ya yn yc,O oa on oc] 26 (w.alloc (ze #[zd U m,O ga gn gc,O sa sn sc,O ya yn yc,O oa on oc,O va vn vc,O fa fn fc,O ba bn bc] 184));have hs:(w.alloc (ze #[zd U m,O ga gn gc,O sa sn sc,O ya yn yc,O oa on oc,O va vn vc,O fa fn fc,O ba bn bc] 184)).heap.size=w.heap.size+1:=by simp
  rw [hs] at r;exact r
 have K1:=Aa (Mi (w.heap.size+1) ya yn yc oa on oc ls ms ((w.alloc (ze #[zd U m,O ga gn gc,O sa sn sc,O ya yn yc,O oa on oc,O va vn vc,O fa fn fc,O ba bn bc] 184)).alloc (ze #[O ya yn yc,O oa on oc] 26)) Z (h1.over t) (h2.over t) hy ho hyc hoc);have KL:=Aa fun (bl:Lab) (pr pw:Value) (W:World) (hW:Ov w W) (E:AL W pr bl.r) (hw:AL W pw bl.w)=>M2 m (O ga gn gc) gs pr pw bl W (Af hg hW) E hw;have KP:=Aa Hb;have KM:=Aa BZ;have ck:vn<=9223372036854775807:=by obtain ⟨hm,a,c,A,-⟩:=h3;injection A with S R e3;rw [R];exact hm
 have a7:(ls++ms).length<=10:=by
  obtain ⟨-,a,c,A,-⟩:=h1;injection A with S R e3;obtain ⟨-,a',c',bv,-⟩:=h2;injection bv with X cv cu;simp;omega
 have HV:=Aa h3;have a6:vn=vs.length:=by obtain ⟨hm,a,c,A,-⟩:=h3;injection A
 have bf:=Aa a6;clear a6;have zr:=GM w [zd U m,O ga gn gc,O sa sn sc,O ya yn yc,O oa on oc,O va vn vc,O fa fn fc,O ba bn bc] 184 (ze #[O ya yn yc,O oa on oc] 26);have c0:=zr 0 _ rfl;have c1:=zr 1 _ rfl;have c3:=zr 3 _ rfl;have c4:=zr 4 _ rfl;have c5:=zr 5 _ rfl;clear zr;clear h1 h2 h3 hg Z;go_enter Tryz.func174,Tryz.ntmps174;go_wp2_with fail;refine (K1.o).mono ?_;rintro e w1 ⟨v,xs,rfl,F,a8,ai⟩;have V:=t.trans (ai.mono t.size);obtain ⟨y,x,u⟩:=co3 ai c0 c1 c5;obtain ⟨ch,H,cg,ac⟩:∃ a n c,v=O a n c:=by
  rcases F.2 with ⟨h,_⟩ | ⟨g,Y,bw,h,_⟩
  ·exact ⟨_,_,_,h⟩
  ·exact ⟨_,_,_,h⟩
 have ad:H=(ls++ms).length:=by
  rcases F.2 with ⟨h,h'⟩ | ⟨g,Y,bw,h,_⟩
  ·rw [ac] at h;injection h with S R e3;omega
  ·rw [ac] at h;injection h
 subst ac;have HO:=Aa F;have bj:=Aa a8;have bg:=Aa ad;have b5:H<=10:=by rw [ad];exact a7
 clear F a8 ad ai c0 c1 c3 c4 c5 t K1;go_wp2_with fail;go_loopw [17] (fun i wr=>∃ n:Nat,n<=H/\i=zd U n/\(∀ b∈(ls++ms).take n,Bb m gs b=0)/\(Oc w m ga gn gc va vn vc wr)/\Ov w1 wr) (fun i _=>H - (intOf i).toNat)
 case atStart=>exact ⟨0,Nat.zero_le _,rfl,by simp,⟨y,x,u⟩,Below.refl _ _⟩
 case round=>
  clear y x u;obtain ⟨n,hn,rfl,k,⟨y,x,u⟩,D⟩:=hrel;have f:=Aa k;clear k;have j:=V.trans (D.mono V.size);by_cases hnl:n < H
  ·have af:n < (ls++ms).length:=by rw [<-bg.o];exact hnl
   obtain ⟨pr,pw,e0,S,E,hw⟩:=bj.o.at n af;obtain ⟨g,Y,bu,cp,co,ah⟩:=LF HO.o (by omega);have a0:=Ab D _ _ (ah _ _ e0);have a1:=Ab D _ _ (ah _ _ S);rw [Addr.add_lit,Nat.zero_add] at a0 a1;injection bu with f1 f2 f3;subst f1;obtain ⟨ra,rn,rc,K⟩:=Az E;obtain ⟨wa,wn,wc,J⟩:=Az hw;subst K J;have d:=bA wr (ze #[O ra rn rc,O wa wn wc] 39);have P:=j.trans (d.mono j.size);have p:=Ac D d;have K2:=Aa (KL.o (ls++ms)[n] _ _ _ P (Ak E p) (Ak hw p));obtain ⟨f0,f1,f5⟩:=co3 d y x u;obtain ⟨cr,B⟩:=nm (Bb m gs (ls++ms)[n]);rw [<-B] at K2;have T:=Aa B;clear ah E hw e0 S B f2 f3;go_wp2_with fail;refine (K2.o).mono ?_;rintro e w2 ⟨rfl,C⟩;have Q:=Ac p C;have N:=V.trans (Q.mono V.size);obtain ⟨r0,r1,r5⟩:=co3 C f0 f1 f5;clear K2 C P p d D j a0 a1 y x u f0 f1 f5;go_wp2_with fail;refine (KP.o _ _).mono ?_;rintro e wz ⟨A,rfl⟩;rcases A with ⟨q,rfl⟩ | ⟨q,rfl⟩;rotate_left
   ·have I:cr≠0:=by simpa using q
    have HN:Hx (¬ Fi m gs (ls++ms) vs):=Aa (fun h=>I (T.o.trans (h.1 _ (List.getElem_mem af))));unfold Ay;go_wp2_with fail;exact ⟨rfl,Or.inr ⟨HN.o,cr,I,rfl⟩,N⟩
   have HZ:=Aa (show cr=0 by simpa using q);clear q;go_wp2_with fail;exact ⟨⟨n+1,by omega,by go_num,EE af f.o (T.o.symm.trans HZ.o),⟨r0,r1,r5⟩,Q⟩,by simp [intOf];omega⟩
  ·obtain ⟨w2,a5⟩:=nm wr
   rw [<-a5] at y x u j ⊢;have as:=Aa (EF (by rw [<-bg.o];omega) f.o);clear a5 D HO bj f;go_wp2_with fail;go_loopw [32] (fun i wr=>∃ n:Nat,n<=vn/\i=zd U n/\(∀ v∈vs.take n,Bb m gs v.2=0)/\(Oc w m ga gn gc va vn vc wr)/\Ov w2 wr) (fun i _=>vn - (intOf i).toNat)
   case atStart=>exact ⟨0,Nat.zero_le _,rfl,by simp,⟨y,x,u⟩,Below.refl _ _⟩
   case round=>
    clear y x u hnl hn;obtain ⟨n,hn,rfl,k,⟨y,x,u⟩,D⟩:=hrel;have f:=Aa k;clear k;have l:=j.trans (D.mono j.size);by_cases hnl:n < vn
    ·obtain ⟨-,ao,Y,A,L⟩:=HV.o.over l
     injection A with S R e3;have ae:vs≠[]:=by intro h;rw [h] at R;simp at R;omega
     obtain ⟨b,a3,M,s⟩:=L ae;have z:n < vs.length:=by omega
     obtain ⟨pr,pw,a0,a1,a2,E,hw⟩:=s n z;have X:=S.trans M;subst X;obtain ⟨kn,G⟩:=nm (vs[n].1);obtain ⟨lb,ag⟩:=nm (vs[n].2);rw [<-G] at a0;rw [<-ag] at E hw;obtain ⟨ra,rn,rc,K⟩:=Az E;obtain ⟨wa,wn,wc,J⟩:=Az hw;subst K J;have bi:=Aa ag;clear G ag L s S R e3 M;have d:=bA wr (ze #[zg kn,O ra rn rc,O wa wn wc] 41);have P:=l.trans (d.mono l.size);have p:=Ac D d;have K2:=Aa (KL.o lb _ _ _ P (Ak E d) (Ak hw d));obtain ⟨f0,f1,f5⟩:=co3 d y x u;obtain ⟨cr,B⟩:=nm (Bb m gs lb);rw [<-B] at K2;have T:=Aa B;clear E hw B;go_wp2_with fail;refine (K2.o).mono ?_;rintro e w3 ⟨rfl,C⟩;have Q:=Ac p C;have N:=j.trans (Q.mono j.size);obtain ⟨r0,r1,r5⟩:=co3 C f0 f1 f5;clear K2 C P p d D l a0 a1 a2 y x u f0 f1 f5;go_wp2_with fail;refine (KP.o _ _).mono ?_;rintro e wz ⟨A,rfl⟩;rcases A with ⟨q,rfl⟩ | ⟨q,rfl⟩;rotate_left
     ·have I:cr≠0:=by simpa using q
      have HN:Hx (¬ Fi m gs (ls++ms) vs):=Aa (fun h=>I (T.o.trans (by rw [bi.o];exact h.2.1 _ (List.getElem_mem z))));unfold Ay;go_wp2_with fail;exact ⟨rfl,Or.inr ⟨HN.o,cr,I,rfl⟩,N⟩
     have HZ:=Aa (show cr=0 by simpa using q);clear q;go_wp2_with fail;exact ⟨⟨n+1,by omega,by go_num,EE z f.o (by rw [<-bi.o];exact T.o.symm.trans HZ.o),⟨r0,r1,r5⟩,Q⟩,by simp [intOf];omega⟩
    ·obtain ⟨w3,a4⟩:=nm wr
     rw [<-a4] at y x u l ⊢;have ar:=Aa (EF (by rw [<-bf.o];omega) f.o);clear a4 D j f;go_wp2_with fail;go_loopw [48] (fun i wr=>∃ n:Nat,n<=vn/\i=zd U n/\(∀ v∈vs.take n,v.1=false->v.2.r=[]/\v.2.w=[])/\(Oc w m ga gn gc va vn vc wr)/\Ov w3 wr) (fun i _=>vn - (intOf i).toNat)
     case atStart=>exact ⟨0,Nat.zero_le _,rfl,by simp,⟨y,x,u⟩,Below.refl _ _⟩
     case round=>
      clear y x u hnl hn;obtain ⟨n,hn,rfl,k,⟨y,x,u⟩,D⟩:=hrel;have f:=Aa k;clear k;have j:=l.trans (D.mono l.size);by_cases hnl:n < vn
      ·obtain ⟨-,ao,Y,A,L⟩:=HV.o.over j
       injection A with S R e3;have ae:vs≠[]:=by intro h;rw [h] at R;simp at R;omega
       obtain ⟨b,a3,M,s⟩:=L ae;have z:n < vs.length:=by omega
       obtain ⟨pr,pw,a0,a1,a2,E,hw⟩:=s n z;have X:=S.trans M;subst X;obtain ⟨kn,G⟩:=nm (vs[n].1);rw [<-G] at a0;obtain ⟨ra,rn,rc,K⟩:=Az E;obtain ⟨wa,wn,wc,J⟩:=Az hw;subst K J;have aq:Hx (kn=vs[n].1/\rn=vs[n].2.r.length/\wn=vs[n].2.w.length):=⟨G,J8 E,J8 hw⟩;clear G L s S R e3 M E hw;have HA:Hx (∀ ob:Obj,(CE (wr.alloc ob) w.heap.size 0 (zd U m)/\CE (wr.alloc ob) w.heap.size 1 (O ga gn gc)/\CE (wr.alloc ob) w.heap.size 5 (O (some ⟨b,a3,none⟩) vn vc))/\Ov w3 (wr.alloc ob)/\Ov w (wr.alloc ob)):=fun ob=>by
        have d:=bA wr ob;exact ⟨⟨Ab d _ _ y,Ab d _ _ x,Ab d _ _ u⟩,Ac D d,j.trans (d.mono j.size)⟩
       clear KL KP y x u D;have an:Hx ((kn=false->rn=0/\wn=0)->∀ v∈vs.take (n+1),v.1=false->v.2.r=[]/\v.2.w=[]):=fun h=>EE z f.o fun h0=>by
        obtain ⟨h1,h2,h3⟩:=aq.o;have:=h (h1.trans h0);exact ⟨List.eq_nil_of_length_eq_zero (by omega),List.eq_nil_of_length_eq_zero (by omega)⟩
       have ap:Hx (¬ (kn=false->rn=0/\wn=0)->¬ Fi m gs (ls++ms) vs):=Aa (fun hn h=>hn fun hk=>by
        obtain ⟨h1,h2,h3⟩:=aq.o;obtain ⟨q1,q2⟩:=h.2.2 _ (List.getElem_mem z) (h1.symm.trans hk);rw [q1] at h2;rw [q2] at h3;exact ⟨h2,h3⟩)
       clear aq f;cases kn;all_goals go_wp2_with fail
       all_goals
        refine (KM.o _ _ _).mono ?_;rintro e wz ⟨A,rfl⟩;rcases A with ⟨q,rfl⟩ | ⟨q,rfl⟩
        ·have HZ:Hx (∀ v∈vs.take (n+1),v.1=false->v.2.r=[]/\v.2.w=[]):=an.o (by first | (intro h;cases h;done) | (intro _;simp at q;done) | (intro _;simp at q;omega) | (intro _;simp at *;omega))
         clear q an ap;go_wp2_with fail;exact ⟨⟨n+1,by omega,by go_num,HZ.o,(HA.o _).1,(HA.o _).2.1⟩,by simp [intOf];omega⟩
        ·have HN:Hx (¬ Fi m gs (ls++ms) vs):=Aa (ap.o (by first | (simp at q;done) | (intro hh;have hq:=hh (by simp);simp at q;omega)))
         clear q an ap;unfold Ay;go_wp2_with fail;exact ⟨rfl,Or.inr ⟨HN.o,1,by decide,rfl⟩,(HA.o _).2.2⟩
      ·go_wp2_with fail
       go_end0;exact ⟨Or.inl ⟨⟨as.o,ar.o,EF (by rw [<-bf.o];omega) f.o⟩,rfl⟩,j⟩
def dpS:Nat->Int->D->Prop
 | 0,_,_=>False
 | k+1,deep,d=>deep<=6/\(∀ s∈Aj d,dpS k (deep+1) s)/\∀ s∈Ao d,dpS k (deep+1) s
def dps (k:Nat) (deep:Int) (l:List D):Prop:=∀ s∈l,dpS k deep s
theorem JE {k:Nat} {l:List D} (j:Nat):AI k (l.take j)<=AI k l:=by
 have h:AI k l=AI k (l.take j)+AI k (l.drop j):=by
  unfold AI;rw [<-List.sum_append,<-List.map_append,List.take_append_drop]
 omega
def QY (dp:Prop) (many n:Int) (w:World) (e:Ending) (w':World):Prop:=((e=zj (zd U (many+n))/\many+n<=50/\dp)\/(¬ (many+n<=50/\dp)/\e=Ay 2))/\Ov w w'
theorem NR (K:Nat):∀ (k:Nat) (v:Value) (l:List D) (deep many:Int) (w:World),Bj w K k v l->0<=deep->deep<=7->0<=many->many<=50 ->
  Calls Tryz.prog 217 #[v,zd U deep,zd U many] w (QY (dps k deep l) many (AI k l) w):=by
 intro k
 induction k with
 | zero=>
  intro v l deep many w h d0 d1 m0 m1;obtain rfl:=h.zero;obtain ⟨-,ao,an,rfl,-⟩:=h;have hz:many+((AI 0 []:Nat):Int)=many:=by simp [AI]
  show Calls Tryz.prog 217 #[O ao 0 an,zd U deep,zd U many] w _;go_enter Tryz.func217,Tryz.ntmps217;go_wp2_with fail;go_loopw [2,11] (fun c i wr=>c=zd U many/\i=zd U 0/\wr=w) (fun _ _ _=>0)
  case atStart=>exact ⟨rfl,rfl,rfl⟩
  case round=>
   obtain ⟨rfl,rfl,hw⟩:=hrel;have ba:=hw.symm;subst ba;clear hw;go_wp2_with fail;go_ret;exact ⟨Or.inl ⟨by rw [hz];rfl,by rw [hz];exact m1,fun s A=>absurd A (by simp)⟩,Below.refl _ _⟩
 | succ k ih=>
  intro v l deep many w h d0 d1 m0 m1;have HS:=Aa h;have br:l.length<=9223372036854775807:=h.1;obtain ⟨ao,an,rfl,hc⟩:=h.2;have HC:=Aa hc;have IH:=Aa ih;clear hc ih h;have KM:=Aa BZ;go_enter Tryz.func217,Tryz.ntmps217;go_wp2_with fail;go_loopw [2,11] (fun c i wr=>∃ j:Nat,j<=l.length/\i=zd U j/\c=zd U (many+(AI (k+1) (l.take j):Nat))/\many+(AI (k+1) (l.take j):Nat)<=50/\Hx (dps (k+1) deep (l.take j))/\Ov w wr) (fun _ i _=>l.length - (intOf i).toNat)
  case atStart=>exact ⟨0,Nat.zero_le _,rfl,by simp [AI],by simp [AI];omega,Aa (fun s A=>absurd A (by simp)),Below.refl _ w⟩
  case round=>
   obtain ⟨j,hj,rfl,rfl,I,R,m⟩:=hrel;by_cases hjl:j < l.length
   ·obtain ⟨b,a7,rfl,af⟩:=HC.o (by rintro rfl;simp at hjl)
    obtain ⟨cs,bc,a,hr⟩:=af j l[j] (List.getElem?_eq_getElem hjl);have q:=Gd (k:=k+1) hjl;have ae:CY (k+1) l[j]=1+AI k (Aj l[j])+AI k (Ao l[j]):=rfl;rw [ae] at q;obtain ⟨d,hd⟩:=nm (l[j]);have H:=List.getElem_mem hjl;have p:l.take (j+1)=l.take j++[l[j]]:=List.take_succ_eq_append_getElem hjl;have Z:=JE (k:=k+1) (l:=l) (j+1);rw [<-hd] at hr q H p;have Q:=Aa H;have bg:=Aa p;clear H p;obtain ⟨ek,en,xa,xl,xc,aa,ac,ta,tc,ea,ec,ad,-,-,-,-,-,hT,hE,-,-,-⟩:=hr.form;subst ad;obtain ⟨M,hM⟩:∃ M:Int,M=many+(AI (k+1) (l.take j):Nat):=⟨_,rfl⟩;rw [<-hM] at I ⊢;have cg:0<=M:=by omega
    obtain ⟨n1,G⟩:∃ n:Nat,n=AI k (Aj d):=⟨_,rfl⟩;obtain ⟨n2,F⟩:∃ n:Nat,n=AI k (Ao d):=⟨_,rfl⟩;rw [<-G,<-F] at q;have y:Hx (M+1+(n1:Int)+n2<=many+(AI (k+1) l:Nat)):=Aa (by rw [hM];omega);have ar:=Aa q;have as:=Aa hM;clear q hM ae Z;obtain ⟨kd,ab⟩:=nm (Ag d);obtain ⟨va,V⟩:=nm (Ap d);obtain ⟨ot,X⟩:=nm (Ae d);obtain ⟨al,ai⟩:=nm ((Ai d).length);obtain ⟨tl,E⟩:=nm ((Aj d).length);obtain ⟨el,J⟩:=nm ((Ao d).length);rw [<-E] at hT;rw [<-J] at hE;rw [<-ab,<-V,<-X,<-ai,<-E,<-J] at a;have q0:wr.cell? ⟨b,a7+j*9,none⟩=_:=Ab m _ _ (a 0 _ rfl);have q1:=Ab m _ _ (a 1 _ rfl);have q2:=Ab m _ _ (a 2 _ rfl);have q3:=Ab m _ _ (a 3 _ rfl);have q4:=Ab m _ _ (a 4 _ rfl);have q5:=Ab m _ _ (a 5 _ rfl);have q6:=Ab m _ _ (a 6 _ rfl);have q7:=Ab m _ _ (a 7 _ rfl);have q8:=Ab m _ _ (a 8 _ rfl);have ag:Ov wr (wr.alloc (ze #[zd U kd,zd U va,zd U ot,zd U ek,zd U en,O xa xl xc,O aa al ac,O ta tl tc,O ea el ec] 130)):=bA wr _;have g:=m.trans (ag.mono m.size);have aj:=hT.over g;have K1:=Aa fun (S:M+1<=50) (h2:deep<=6)=>IH.o (O ta tl tc) (Aj d) (deep+1) (M+1) _ aj (by omega) (by omega) (by omega) S;have K2:=Aa fun W (hW:Ov w W) (mm:Int) (h0:0<=mm) (S:mm<=50) (h2:deep<=6)=>IH.o (O ea el ec) (Ao d) (deep+1) mm W (hE.over hW) (by omega) (by omega) h0 S;rw [<-G] at K1;rw [<-F] at K2;have s8:(wr.alloc (ze #[zd U kd,zd U va,zd U ot,zd U ek,zd U en,O xa xl xc,O aa al ac,O ta tl tc,O ea el ec] 130)).cell? ⟨wr.heap.size,8,none⟩=some (O ea el ec):=by simp [go_sem]
    clear hT hE aj a af hr bc G F ab V X ai E J hd;by_cases c1:M+1<=50/\deep<=6
    ·obtain ⟨c1,T⟩:=c1
     have aq:=Aa (K1.o c1 T);go_wp2_with fail;refine (KM.o true 2 _).mono ?_;rintro e wz ⟨f,rfl⟩;have t:=orT f;subst t;clear f;go_wp2_with fail;refine (aq.o).mono ?_;rintro e w1 ⟨f,L⟩;have x:=g.trans (L.mono g.size);rcases f with ⟨rfl,Y,C⟩ | ⟨r,rfl⟩
     ·have au:=Aa C
      clear C;have t8:=Ab L _ _ s8;have ak:0<=M+1+(n1:Int):=by omega
      obtain ⟨M1,u⟩:=nm (M+1+(n1:Int));rw [<-u] at Y ak ⊢;have P:=Aa u;clear u;have ap:=Aa (K2.o w1 x M1 ak Y T);clear K1 K2 aq s8 L g q0 q1 q2 q3 q4 q5 q6 q7 q8 m ag;go_wp2_with fail;refine (ap.o).mono ?_;rintro e w2 ⟨f,ah⟩;have am:=x.trans (ah.mono x.size);rcases f with ⟨rfl,cf,B⟩ | ⟨r,rfl⟩
      ·have bh:Hx (dps (k+1) deep (l.take (j+1))):=Aa (fun s A=>by
        rw [bg.o,List.mem_append,List.mem_singleton] at A;rcases A with A | rfl
        ·exact R.o s A
        ·exact ⟨T,au.o,B⟩)
       clear ap t8 ah x B;go_wp2_with fail;refine ⟨⟨j+1,by omega,by go_num,?_,?_,bh,am⟩,by simp [intOf];omega⟩
       ·rw [ar.o]
        have:=as.o;refine congrArg (Value.int IntKind.i64) ?_;have h2:=P.o
        push_cast
        omega
       ·rw [ar.o]
        have:=as.o;have h2:=P.o
        push_cast
        omega
      ·have N:Hx (¬ (many+(AI (k+1) l:Nat)<=50/\dps (k+1) deep l)):=Aa (fun z=>r ⟨by have S:=y.o;have h2:=P.o;have h3:=z.1;omega,(z.2 d Q.o).2.2⟩)
       clear r;unfold Ay;go_wp2_with fail;exact ⟨rfl,Or.inr ⟨N.o,rfl⟩,am⟩
     ·have N:Hx (¬ (many+(AI (k+1) l:Nat)<=50/\dps (k+1) deep l)):=Aa (fun z=>r ⟨by have S:=y.o;have h3:=z.1;omega,(z.2 d Q.o).2.1⟩)
      clear r;unfold Ay;go_wp2_with fail;exact ⟨rfl,Or.inr ⟨N.o,rfl⟩,x⟩
    ·clear K1 K2 s8
     by_cases T:M+1<=50
     ·have c3:¬ deep<=6:=fun h=>c1 ⟨T,h⟩
      clear c1;have N:Hx (¬ (many+(AI (k+1) l:Nat)<=50/\dps (k+1) deep l)):=Aa (fun z=>c3 (z.2 d Q.o).1);go_wp2_with fail;refine (KM.o false 2 _).mono ?_;rintro e wz ⟨f,rfl⟩;have t:e=Ay 2:=by
       rcases f with ⟨f,_⟩ | ⟨_,f⟩
       ·cases f
       ·exact f
      subst t;clear f;unfold Ay;go_wp2_with fail;exact ⟨rfl,Or.inr ⟨N.o,rfl⟩,g⟩
     ·clear c1
      have N:Hx (¬ (many+(AI (k+1) l:Nat)<=50/\dps (k+1) deep l)):=Aa (fun z=>T (by have S:=y.o;have h3:=z.1;omega));go_wp2_with fail;refine (KM.o false 2 _).mono ?_;rintro e wz ⟨f,rfl⟩;have t:e=Ay 2:=by
       rcases f with ⟨f,_⟩ | ⟨_,f⟩
       ·cases f
       ·exact f
      subst t;clear f;unfold Ay;go_wp2_with fail;exact ⟨rfl,Or.inr ⟨N.o,rfl⟩,g⟩
   ·have hd:l.take j=l:=List.take_of_length_le (by omega)
    rw [hd] at I R ⊢;go_wp2_with fail;go_ret;exact ⟨Or.inl ⟨rfl,I,R.o⟩,m⟩
theorem JF {k:Nat} {l:List FnD} (j:Nat):A2 k (l.take j)<=A2 k l:=by
 have h:A2 k l=A2 k (l.take j)+A2 k (l.drop j):=by
  unfold A2;rw [<-List.sum_append,<-List.map_append,List.take_append_drop]
 omega
def dpF (k:Nat) (fs:List FnD):Prop:=∀ f∈fs,dps k 1 f.body
def QT (dp:Prop) (n:Int) (w:World) (e:Ending) (w':World):Prop:=((e=zj (zk #[])/\n<=50/\dp)\/(¬ (n<=50/\dp)/\e=Ay 2))/\Ov w w'
theorem LM (K k:Nat) (m:Int) (ga gn gc sa sn sc ya yn yc oa on oc va vn vc) (fa fn fc ba bn bc) (fs l) (w:World) (hf:Bv w K k (O fa fn fc) fs) (hl:Bj w K k (O ba bn bc) l) :
  Calls Tryz.prog 175 #[zh #[zd U m,O ga gn gc,O sa sn sc,O ya yn yc,O oa on oc,O va vn vc,O fa fn fc,O ba bn bc]] w (QT (dpF k fs/\dps k 1 l) ((A2 k fs:Nat)+(AI k l:Nat)) w):=by
 have zr:=B3 w [zd U m,O ga gn gc,O sa sn sc,O ya yn yc,O oa on oc,O va vn vc,O fa fn fc,O ba bn bc] 184;have c6:=zr 6 _ rfl;have c7:=zr 7 _ rfl;clear zr;have x:Ov w (w.alloc (ze #[zd U m,O ga gn gc,O sa sn sc,O ya yn yc,O oa on oc,O va vn vc,O fa fn fc,O ba bn bc] 184)):=bA w _;obtain ⟨R,bi,bh,al,T⟩:=hf;injection al with e1 e2 e3;subst e1 e2 e3;have az:fs.length<=9223372036854775807:=R;have HF:=Aa T;have HM:=Aa hl;clear T hl R;have K1:=Aa (NR K);go_enter Tryz.func175,Tryz.ntmps175;go_wp2_with fail;go_loopw [2,9] (fun c i wr=>∃ j:Nat,j<=fs.length/\i=zd U j/\c=zd U (A2 k (fs.take j):Nat)/\((A2 k (fs.take j):Nat):Int)<=50/\Hx (dpF k (fs.take j))/\wr.cell? ⟨w.heap.size,7,none⟩=some (O ba bn bc)/\Ov w wr) (fun _ i _=>fs.length - (intOf i).toNat)
 case atStart=>exact ⟨0,Nat.zero_le _,rfl,by simp [A2],by simp [A2],Aa (fun s A=>absurd A (by simp)),c7,x⟩
 case round=>
  clear c6 c7 x;obtain ⟨j,hj,rfl,rfl,p,E,c7,y⟩:=hrel;by_cases hjl:j < fs.length
  ·obtain ⟨b,aj,rfl,X⟩:=HF.o (by rintro rfl;simp at hjl)
   obtain ⟨vP,vB,x0,x1,x2,q0,q1,q2,q3,q4,hp,ak,A,hx⟩:=X j hjl;obtain ⟨pa,pc,rfl,-⟩:=hp;obtain ⟨za,zc,rfl,-⟩:=A.2;obtain ⟨xa,xc,I⟩:=hx.form;simp only [List.cons.injEq,and_true] at I;obtain ⟨rfl,rfl,rfl⟩:=I;have h:=DF (k:=k) hjl;obtain ⟨u,S⟩:=nm (fs[j]);have B:=List.getElem_mem hjl;have g:fs.take (j+1)=fs.take j++[fs[j]]:=List.take_succ_eq_append_getElem hjl;have v:=JF (k:=k) (l:=fs) (j+1);rw [<-S] at q0 q1 q2 q3 q4 A h B g;have ac:=Aa B;have an:=Aa g;clear B g;obtain ⟨M,F⟩:∃ M:Nat,M=A2 k (fs.take j):=⟨_,rfl⟩;rw [<-F] at p h ⊢;have D:=Aa h;have z:Hx (M+AI k u.body<=A2 k fs):=Aa (by rw [<-h];exact v);have br:Hx (u∈fs):=ac;clear h F v;have r0:wr.cell? ⟨b,aj+j*5,none⟩=_:=Ab y _ _ q0;obtain ⟨r1,r2,r3,r4⟩:=co4 y q1 q2 q3 q4;obtain ⟨pn,J⟩:=nm u.ps.length;obtain ⟨zn,G⟩:=nm u.body.length;obtain ⟨ek,W⟩:=nm (AQ u.res);obtain ⟨en,V⟩:=nm (Bk u.res);obtain ⟨xl,H⟩:=nm ((A4 u.res).length);rw [<-J] at r0;rw [<-G] at r1 A;rw [<-W] at r2;rw [<-V] at r3;rw [<-H] at r4;have C:=bA wr (ze #[O pa pn pc,O za zn zc,zd U ek,zd U en,O xa xl xc] 105);have t:=y.trans (C.mono y.size);have Z:=Ab C _ _ c7;have d:=Aa (K1.o k _ _ 1 (M:Int) _ (A.over t) (by omega) (by omega) (by omega) p);obtain ⟨n1,L⟩:=nm (AI k u.body);rw [<-L] at d D z;clear q0 q1 q2 q3 q4 A hx X S J G W V H L ak;go_wp2_with fail;refine (d.o).mono ?_;rintro e w1 ⟨he,q⟩;have r:=t.trans (q.mono t.size);rcases he with ⟨rfl,P,a⟩ | ⟨n,rfl⟩
   ·have aq:Hx (dpF k (fs.take (j+1))):=Aa (fun f hf=>by
     rw [an.o,List.mem_append,List.mem_singleton] at hf;rcases hf with hf | rfl
     ·exact E.o f hf
     ·exact a)
    clear a;have Y:=Ab q _ _ Z;clear d q t C y r0 r1 r2 r3 r4 c7 Z;go_wp2_with fail;refine ⟨⟨j+1,by omega,by go_num,?_,?_,aq,Y,r⟩,by simp [intOf];omega⟩
    ·rw [D.o]
     refine congrArg (Value.int IntKind.i64) ?_
     push_cast
     omega
    ·rw [D.o]
     push_cast
     omega
   ·have HN:Hx (¬ ((A2 k fs:Nat)+((AI k l:Nat):Int)<=50/\dpF k fs/\dps k 1 l)):=Aa (fun Q=>n ⟨by have h1:=z.o;have h3:=Q.1;omega,Q.2.1 u ac.o⟩)
    clear n;unfold Ay;go_wp2_with fail;exact ⟨rfl,Or.inr ⟨HN.o,rfl⟩,r⟩
  ·have hd:fs.take j=fs:=List.take_of_length_le (by omega)
   rw [hd] at p E ⊢;have d:=Aa (K1.o k _ _ 1 ((A2 k fs:Nat):Int) _ (HM.o.over y) (by omega) (by omega) (by omega) p);obtain ⟨M,F⟩:∃ M:Nat,M=A2 k fs:=⟨_,rfl⟩;rw [<-F] at d p ⊢;have ab:=Aa F;clear F hd;go_wp2_with fail;refine (d.o).mono ?_;rintro e w1 ⟨he,q⟩;have r:=y.trans (q.mono y.size);rcases he with ⟨rfl,P,a⟩ | ⟨n,rfl⟩
   ·have N:((A2 k fs:Nat):Int)+(AI k l:Nat)<=50:=by rw [<-ab.o];exact P
    have ap:=Aa N;have ar:=Aa a;clear d N a;go_wp2_with fail;go_end0;exact ⟨Or.inl ⟨rfl,ap.o,E.o,ar.o⟩,r⟩
   ·have HN:Hx (¬ ((A2 k fs:Nat)+((AI k l:Nat):Int)<=50/\dpF k fs/\dps k 1 l)):=Aa (fun Q=>n ⟨by have h1:=ab.o;have h3:=Q.1;omega,Q.2.2⟩)
    clear n;unfold Ay;go_wp2_with fail;exact ⟨rfl,Or.inr ⟨HN.o,rfl⟩,r⟩
structure xP (K kf:Nat) (m:Int) (vn yn on sn:Nat) (gs:List (Int × Int)) (sp:List Int) (ls ms:List Lab) (vs:List (Bool × Lab)) (fs:List FnD) (l:List D):Prop where
 chk:AR m gs=0
 lim:(vn:Int)<=16/\(yn:Int)<=5/\(on:Int)<=5/\(fs.length:Int)<=5/\(sn:Int)<=m
 speak:∀ x∈sp,0<=x/\x < m
 labs:Fi m gs (ls++ms) vs
 many:((A2 kf fs:Nat):Int)+(AI kf l:Nat)<=50/\dpF kf fs/\dps kf 1 l
 body:∀ i (h:i < fs.length),xF K vn yn on (i:Int) fs kf fs[i]
 main:∀ s∈l,xS K vn yn on (fs.length:Int) fs kf s
theorem xP.ok {K kf:Nat} {m:Int} {vn yn on sn:Nat} {gs:List (Int × Int)} {sp:List Int} {ls ms:List Lab} {vs:List (Bool × Lab)} {fs:List FnD} {l:List D} (h:xP K kf m vn yn on sn gs sp ls ms vs fs l):okP K kf m vn yn on gs sp ls ms vs fs l:=
 ⟨h.chk,h.speak,h.labs,by have:=h.lim;omega,by have:=h.lim;omega,by have:=h.lim;omega,by have:=h.lim;omega,by have:=h.many.1;omega,fun i hi=>(h.body i hi).ok,fun s hs=>(h.main s hs).ok⟩
theorem Mk (K kf:Nat) (m:Int) (ga gn gc sa sn sc ya yn yc oa on oc va vn vc fa fn fc ba bn bc gs sp ls ms vs fs l) (w:World) (h:BD K kf m ga gn gc sa sn sc ya yn yc oa on oc va vn vc fa fn fc ba bn bc gs sp ls ms vs fs l w) :
  Calls Tryz.prog 113 #[zh #[zd U m,O ga gn gc,O sa sn sc,O ya yn yc,O oa on oc,O va vn vc,O fa fn fc,O ba bn bc]] w (Du (xP K kf m vn yn on sn gs sp ls ms vs fs l) w):=by
 have a5:fn=fs.length:=by obtain ⟨-,a,c,d,-⟩:=h.funcs;injection d
 have bb:=Aa a5;clear a5;have z:Ov w (w.alloc (ze #[zd U m,O ga gn gc,O sa sn sc,O ya yn yc,O oa on oc,O va vn vc,O fa fn fc,O ba bn bc] 184)):=bA w _;have HP:=Aa (h.over z);have KP:=Aa Hb;have KM:=Aa BZ;have KO:=Aa Bf;have KA:=Aa (Go.Proofs.YtfffpjkcfnekaaaGreat.check_any m (O ga gn gc) gs);have a1:vn<=9223372036854775807:=by obtain ⟨hm,a,c,d,-⟩:=h.vars;injection d with e1 e2 e3;rw [e2];exact hm
 obtain ⟨c0,c1,c2,c3,c4,c5,c6,c7⟩:=rc8 (B3 w [zd U m,O ga gn gc,O sa sn sc,O ya yn yc,O oa on oc,O va vn vc,O fa fn fc,O ba bn bc] 184);clear h;go_enter Tryz.func113,Tryz.ntmps113;go_wp2_with fail;refine (KA.o _ (HP.o.grants)).mono ?_;rintro e w1 ⟨rfl,aj⟩;obtain ⟨L,J,I,H,G,F,E,D⟩:=co8 aj c0 c1 c2 c3 c4 c5 c6 c7;have ab:=z.trans (aj.mono z.size);have ad:=Aa (HP.o.over aj);obtain ⟨ce,ar⟩:=nm (AR m gs);rw [<-ar];have av:=Aa ar;clear KA c0 c1 c2 c3 c4 c5 c6 c7 aj z ar HP;go_wp2_with fail;refine (KP.o _ _).mono ?_;rintro e wz ⟨d,rfl⟩;rcases d with ⟨r,rfl⟩ | ⟨r,rfl⟩;rotate_left
 ·have ay:ce≠0:=by simpa using r
  have P:Hx (¬ xP K kf m vn yn on sn gs sp ls ms vs fs l):=Aa (fun p=>ay (av.o.trans p.chk));unfold Ay;go_wp2_with fail;exact ⟨rfl,Or.inr ⟨P.o,ce,ay,rfl⟩,ab⟩
 have bd:=Aa (show AR m gs=0 by rw [<-av.o];simpa using r);clear r av;by_cases hlim:((vn:Int)<=16/\(yn:Int)<=5/\(on:Int)<=5/\(fn:Int)<=5/\(sn:Int)<=m);rotate_left
 ·have HL:=Aa hlim
  have P:Hx (¬ xP K kf m vn yn on sn gs sp ls ms vs fs l):=Aa (fun p=>hlim (by rw [bb.o];exact p.lim));clear hlim;go_wp2_with fail;all_goals
   refine (KM.o _ _ _).mono ?_;rintro e wz ⟨d,rfl⟩;rcases d with ⟨r,rfl⟩ | ⟨r,rfl⟩
   ·exfalso
    have:=HL.o;first | (simp at r;done) | (simp at r;omega)
   ·clear r
    unfold Ay;go_wp2_with fail;exact ⟨rfl,Or.inr ⟨P.o,2,by decide,rfl⟩,ab⟩
 have a8:Hx ((vn:Int)<=16/\(yn:Int)<=5/\(on:Int)<=5/\(fs.length:Int)<=5/\(sn:Int)<=m):=Aa (by rw [<-bb.o];exact hlim);obtain ⟨l1,l2,l3,l4,l5⟩:=hlim;go_wp2_with fail;refine (KM.o _ _ _).mono ?_;rintro e wz ⟨d,rfl⟩;rcases d with ⟨r,rfl⟩ | ⟨r,rfl⟩;rotate_left
 ·cases r
 clear r;have ap:sn=sp.length:=by obtain ⟨a,c,d,-⟩:=ad.o.speak;injection d
 have dd:sn<=9223372036854775807:=by rw [ap];exact ad.o.speakL
 have bz:=Aa ap;clear ap;go_wp2_with fail;go_loopw [53] (fun i wr=>∃ n:Nat,n<=sn/\i=zd U n/\(∀ x∈sp.take n,0<=x/\x < m)/\(wr.cell? ⟨w.heap.size,0,none⟩=some (zd U m)/\wr.cell? ⟨w.heap.size,1,none⟩=some (O ga gn gc)/\wr.cell? ⟨w.heap.size,2,none⟩=some (O sa sn sc)/\wr.cell? ⟨w.heap.size,3,none⟩=some (O ya yn yc)/\wr.cell? ⟨w.heap.size,4,none⟩=some (O oa on oc)/\wr.cell? ⟨w.heap.size,5,none⟩=some (O va vn vc)/\wr.cell? ⟨w.heap.size,6,none⟩=some (O fa fn fc)/\wr.cell? ⟨w.heap.size,7,none⟩=some (O ba bn bc))/\Ov wz wr) (fun i _=>sn - (intOf i).toNat)
 case atStart=>exact ⟨0,Nat.zero_le _,rfl,by simp,⟨L,J,I,H,G,F,E,D⟩,Below.refl _ _⟩
 case round=>
  clear L J I H G F E D;obtain ⟨n,hn,rfl,am,⟨L,J,I,H,G,F,E,D⟩,M⟩:=hrel;have af:=Aa am;clear am;have g:=ab.trans (M.mono ab.size);by_cases hnl:n < sn
  ·obtain ⟨a2,c2,d,X⟩:=ad.o.speak.over M
   injection d with e1 e2 e3;have s:n < sp.length:=by omega
   obtain ⟨b,ax,Z,u⟩:=X (by intro h;rw [h] at s;simp at s);have q:=u n s;have as:=e1.trans Z;subst as;obtain ⟨x,p⟩:=nm (sp[n]);rw [<-p] at q;have HX:=Aa p;clear X u p e1 e2 e3 Z;go_wp2_with fail;refine (KO.o _ _ _).mono ?_;rintro e wy ⟨rfl,rfl⟩;obtain ⟨ok,f⟩:=nm (decide (0<=x/\x < m));rw [<-f];have N:=Aa f;clear f;go_wp2_with fail;refine (KM.o _ _ _).mono ?_;rintro e wx ⟨d,rfl⟩;rcases d with ⟨r,rfl⟩ | ⟨r,rfl⟩;rotate_left
   ·have P:Hx (¬ xP K kf m vn yn on sn gs sp ls ms vs fs l):=Aa (fun p=>by have h1:=N.o;rw [r] at h1;have h2:=p.speak x (by rw [HX.o];exact List.getElem_mem _);simp at h1;omega)
    clear r;unfold Ay;go_wp2_with fail;exact ⟨rfl,Or.inr ⟨P.o,5,by decide,rfl⟩,g⟩
   have HZ:=Aa (show 0<=x/\x < m by have h:=N.o;rw [r] at h;simpa using h.symm);clear r N;go_wp2_with fail;exact ⟨⟨n+1,by omega,by go_num,EE s af.o (by rw [<-HX.o];exact HZ.o),⟨L,J,I,H,G,F,E,D⟩,M⟩,by simp [intOf];omega⟩
  ·have t:=Aa (ad.o.over M)
   obtain ⟨w2,a0⟩:=nm wr;rw [<-a0] at L J I H G F E D g t ⊢;have bx:=Aa (EF (by rw [<-bz.o];omega) af.o);clear a0 M ad ab af;have KL:=Aa (Kq m ga gn gc sa sn sc ya yn yc oa on oc va vn vc fa fn fc ba bn bc gs ls ms vs w2 t.o.grants t.o.ins t.o.outs t.o.vars (by omega) (by omega) t.o.insN t.o.outsN);go_wp2_with fail;refine (KL.o).mono ?_;rintro e w3 ⟨d,ai⟩;have B:=g.trans (ai.mono g.size);have al:=Aa (t.o.over ai);obtain ⟨r0,r1,r2,r3,r4,r5,r6,r7⟩:=co8 ai L J I H G F E D;clear KL L J I H G F E D;rcases d with ⟨an,rfl⟩ | ⟨k,Q,V,rfl⟩;rotate_left
   ·have P:Hx (¬ xP K kf m vn yn on sn gs sp ls ms vs fs l):=Aa (fun p=>k p.labs)
    clear k;unfold Ay;go_wp2_with fail;exact ⟨rfl,Or.inr ⟨P.o,Q,V,rfl⟩,B⟩
   have a9:=Aa an;clear ai t g an;have KI:=Aa (LM K kf m ga gn gc sa sn sc ya yn yc oa on oc va vn vc fa fn fc ba bn bc fs l w3 al.o.funcs al.o.main);go_wp2_with fail;refine (KI.o).mono ?_;rintro e w4 ⟨d,ah⟩;have aa:=B.trans (ah.mono B.size);have ac:=Aa (al.o.over ah);obtain ⟨L,J,I,H,G,F,E,D⟩:=co8 ah r0 r1 r2 r3 r4 r5 r6 r7;clear KI r0 r1 r2 r3 r4 r5 r6 r7;rcases d with ⟨rfl,aq⟩ | ⟨k,rfl⟩;rotate_left
   ·have P:Hx (¬ xP K kf m vn yn on sn gs sp ls ms vs fs l):=Aa (fun p=>k p.many)
    clear k;unfold Ay;go_wp2_with fail;exact ⟨rfl,Or.inr ⟨P.o,2,by decide,rfl⟩,aa⟩
   have a7:=Aa aq;have ag:fn=fs.length:=by obtain ⟨-,a,c,d,-⟩:=ac.o.funcs;injection d
   have au:=Aa ag;clear ah al B aq ag;go_wp2_with fail;go_loopw [73] (fun i wr=>∃ n:Nat,n<=fn/\i=zd U n/\(∀ j (h:j < fs.length),j < n->xF K vn yn on (j:Int) fs kf fs[j])/\(wr.cell? ⟨w.heap.size,0,none⟩=some (zd U m)/\wr.cell? ⟨w.heap.size,1,none⟩=some (O ga gn gc)/\wr.cell? ⟨w.heap.size,2,none⟩=some (O sa sn sc)/\wr.cell? ⟨w.heap.size,3,none⟩=some (O ya yn yc)/\wr.cell? ⟨w.heap.size,4,none⟩=some (O oa on oc)/\wr.cell? ⟨w.heap.size,5,none⟩=some (O va vn vc)/\wr.cell? ⟨w.heap.size,6,none⟩=some (O fa fn fc)/\wr.cell? ⟨w.heap.size,7,none⟩=some (O ba bn bc))/\Ov w4 wr) (fun i _=>fn - (intOf i).toNat)
   case atStart=>exact ⟨0,Nat.zero_le _,rfl,fun j h h'=>absurd h' (by omega),⟨L,J,I,H,G,F,E,D⟩,Below.refl _ _⟩
   case round=>
    clear L J I H G F E D;obtain ⟨n,hn,rfl,f,⟨L,J,I,H,G,F,E,D⟩,M⟩:=hrel;have N:=Aa f;clear f;have g:=aa.trans (M.mono aa.size);by_cases hnl:n < fn
    ·obtain ⟨-,ao,dg,d,X⟩:=ac.o.funcs.over M
     injection d with e1 e2 e3;have s:n < fs.length:=by omega
     obtain ⟨b,ax,Z,u⟩:=X (by intro h;rw [h] at s;simp at s);obtain ⟨vP,vB,x0,x1,x2,q0,q1,q2,q3,q4,hp,⟨a3,pa,pc,bp,a4⟩,hs,p⟩:=u n s;have as:=e1.trans Z;subst as;subst bp;have br:=hs;obtain ⟨-,za,zc,bq,-⟩:=br;subst bq;obtain ⟨xa,xc,az⟩:=p.form;simp only [List.cons.injEq,and_true] at az;obtain ⟨rfl,rfl,rfl⟩:=az;have v:=bA wr (ze #[O pa fs[n].ps.length pc,O za fs[n].body.length zc,zd U (AQ fs[n].res),zd U (Bk fs[n].res),O xa (A4 fs[n].res).length xc] 105);have ak:=g.trans (v.mono g.size);have C:=Ac M v;have KF:=Aa (Iu K kf kf fs fs[n] (n:Int) m ga gn gc sa sn sc ya yn yc oa on oc va vn vc (some ⟨b,ax,none⟩) fn fc ba bn bc pa fs[n].ps.length pc za fs[n].body.length zc (AQ fs[n].res) (Bk fs[n].res) xa (A4 fs[n].res).length xc _ a1 (by omega) (by omega) (by omega) (by omega) (by omega) (hp.over v) a3 a4 (hs.over v) (p.over v) (ac.o.funcs.over C));obtain ⟨pl,T⟩:=nm (fs[n].ps.length);obtain ⟨zl,R⟩:=nm (fs[n].body.length);obtain ⟨ek,Y⟩:=nm (AQ fs[n].res);obtain ⟨en,W⟩:=nm (Bk fs[n].res);obtain ⟨xl,S⟩:=nm ((A4 fs[n].res).length);rw [<-T,<-R,<-Y,<-W,<-S] at KF v ak C;rw [<-T] at q0;rw [<-R] at q1;rw [<-Y] at q2;rw [<-W] at q3;rw [<-S] at q4;obtain ⟨f0,f1,f2,f3,f4,f5,f6,f7⟩:=co8 v L J I H G F E D;clear X u e1 e2 e3 Z hp a3 a4 hs p T R Y W S L J I H G F E D;go_wp2_with fail;refine (KF.o).mono ?_;rintro e w5 ⟨d,y⟩;have bt:=Ac C y;have A:=ak.trans (y.mono ak.size);obtain ⟨r0,r1,r2,r3,r4,r5,r6,r7⟩:=co8 y f0 f1 f2 f3 f4 f5 f6 f7;clear KF f0 f1 f2 f3 f4 f5 f6 f7 y v ak C M g q0 q1 q2 q3 q4;rcases d with ⟨f,rfl⟩ | ⟨k,Q,V,rfl⟩;rotate_left
     ·have P:Hx (¬ xP K kf m vn yn on sn gs sp ls ms vs fs l):=Aa (fun p=>k (p.body n s))
      clear k;unfold Ay;go_wp2_with fail;exact ⟨rfl,Or.inr ⟨P.o,Q,V,rfl⟩,A⟩
     have ae:=Aa f;clear f;go_wp2_with fail;refine ⟨⟨n+1,by omega,by go_num,fun j h h'=>?_,⟨r0,r1,r2,r3,r4,r5,r6,r7⟩,bt⟩,by simp [intOf];omega⟩;by_cases hjn:j < n
     ·exact N.o j h hjn
     ·obtain rfl:j=n:=by omega
      exact ae.o
    ·have KS:=Aa (G6 K kf fs (fn:Int) m ga gn gc sa sn sc ya yn yc oa on oc va vn vc fa fn fc ba bn bc a1 (by omega) (by omega) (by omega) (by omega) (by have:=au.o;omega) kf (O ba bn bc) l wr (ac.o.main.over M) (ac.o.funcs.over M))
     go_wp2_with fail;refine (KS.o).mono ?_;rintro e w5 ⟨d,y⟩;have A:=g.trans (y.mono g.size);clear KS L J I H G F E D y M g;rcases d with ⟨f,rfl⟩ | ⟨k,Q,V,rfl⟩;rotate_left
     ·have P:Hx (¬ xP K kf m vn yn on sn gs sp ls ms vs fs l):=Aa (fun p=>k (by rw [au.o];exact p.main))
      clear k;unfold Ay;go_wp2_with fail;exact ⟨rfl,Or.inr ⟨P.o,Q,V,rfl⟩,A⟩
     have ae:=Aa f;clear f;go_wp2_with fail;go_end0;have ag:=au.o;have aq:=a7.o;refine ⟨Or.inl ⟨⟨bd.o,a8.o,bx.o,a9.o,a7.o,fun j h=>N.o j h (by omega),?_⟩,rfl⟩,A⟩;rw [<-ag];exact ae.o
def Said (ok:Prop) (w:World) (f:Int->Value) (e:Ending) (w':World):Prop:=∃ why:Int,e=zj (f why)/\(why=0 ↔ ok)/\Ov w w'
theorem Ml (K kf:Nat) (m:Int) (ga gn gc sa sn sc ya yn yc oa on oc va vn vc fa fn fc ba bn bc gs sp ls ms vs fs l) (w:World) (h:BD K kf m ga gn gc sa sn sc ya yn yc oa on oc va vn vc fa fn fc ba bn bc gs sp ls ms vs fs l w) :
  Calls Tryz.prog 112 #[.func (.func 113) #[zh #[zd U m,O ga gn gc,O sa sn sc,O ya yn yc,O oa on oc,O va vn vc,O fa fn fc,O ba bn bc]] #[]] w (Said (xP K kf m vn yn on sn gs sp ls ms vs fs l) w fun why=>zk #[zd U 0,zd U why]):=by
 have F:∀ (fn:Fn) (first cap:Array Value) (w:World),(Instr.makeFunc fn first cap).run Tryz.prog w=.ok (.func fn first cap) w:=fun _ _ _ _=>rfl;have L:∀ (args:Array Value) (w:World),(callFunc 113 args).run Tryz.prog w=.ok (.enter 113 args) w:=fun args w=>by simp [go_sem]
 have a:Ov w ((w.alloc (ze #[zd U 0] 3)).alloc (ze #[zd U 0] 32)):=(bA w _).alloc (by simp) _;have K:=Aa (Mk K kf m ga gn gc sa sn sc ya yn yc oa on oc va vn vc fa fn fc ba bn bc gs sp ls ms vs fs l _ (h.over a));have A:=GM w [zd U 0] 3 (ze #[zd U 0] 32) 0 _ rfl;have z:=Ig w (ze #[zd U 0] 3) [zd U 0] 32 0 _ rfl;have x:((w.alloc (ze #[zd U 0] 3)).alloc (ze #[zd U 0] 32)).frozen? ⟨w.heap.size,0,none⟩=false:=by simp [go_sem]
 have v:((w.alloc (ze #[zd U 0] 3)).alloc (ze #[zd U 0] 32)).frozen? ⟨w.heap.size+1,0,none⟩=false:=by simp [go_sem]
 clear h
 go_enter_defers Tryz.func112,Tryz.ntmps112
 go_wp2_with fail;refine (K.o).mono ?_;rintro e d ⟨G,c⟩;obtain ⟨H,r⟩:=An c;have j:=a.trans (c.mono a.size);obtain ⟨B,p⟩:=co2 c A z;have D:=(r w.heap.size 0 (by simp;omega)).trans x;have C:=(r (w.heap.size+1) 0 (by simp)).trans v;have I:w.heap.size+1 < d.heap.size:=bL p;have J:w.heap.size < d.heap.size:=by omega
 clear H r A z x v c K a;rcases G with ⟨g,rfl⟩ | ⟨i,why,q,rfl⟩
 ·have t:=Aa g
  clear g;go_wp2_with fail;refine leaves_cons (f:=170) (args:=#[zi (some ⟨w.heap.size,0,none⟩),zi (some ⟨w.heap.size+1,0,none⟩)]) (by simp) (by simp [go_sem]) ?_;refine (Mm _ _ _).mono ?_;rintro e E y ⟨rfl,rfl,rfl⟩;have n:((d.setCell ⟨w.heap.size,0,none⟩ (zd U 0)).setCell ⟨w.heap.size+1,0,none⟩ (zd U 0)).cell? ⟨w.heap.size,0,none⟩=some (zd U 0):=by simp [go_sem,B]
  have k:((d.setCell ⟨w.heap.size,0,none⟩ (zd U 0)).setCell ⟨w.heap.size+1,0,none⟩ (zd U 0)).cell? ⟨w.heap.size+1,0,none⟩=some (zd U 0):=by simp [go_sem,p]
  have b:Ov w ((d.setCell ⟨w.heap.size,0,none⟩ (zd U 0)).setCell ⟨w.heap.size+1,0,none⟩ (zd U 0)):=(j.setCell (by simp) _).setCell (by simp) _;generalize ((d.setCell ⟨w.heap.size,0,none⟩ (zd U 0)).setCell ⟨w.heap.size+1,0,none⟩ (zd U 0))=wF at n k b ⊢;simp [Leaves,settle,results,Tryz.results112,go_sem,n,k];exact ⟨0,rfl,⟨fun _=>t.o,fun _=>rfl⟩,b⟩
 ·have u:=Aa i
  clear i;unfold Ay;go_wp2_with fail;refine leaves_cons (f:=170) (args:=#[zi (some ⟨w.heap.size,0,none⟩),zi (some ⟨w.heap.size+1,0,none⟩)]) (by simp) (by simp [go_sem]) ?_;refine (Mn w.heap.size 0 0 _ _ [] _ (by omega) B p D C).mono ?_;rintro e E y ⟨rfl,rfl,n,k,s⟩;have b:Ov w y:=j.trans s;simp [Leaves,settle,results,Tryz.results112,go_sem,n,k];exact ⟨why,rfl,⟨fun h=>absurd h q,fun h=>absurd h u.o⟩,b⟩
theorem scopeCheck_any (K kf:Nat) (m:Int) (ga gn gc sa sn sc ya yn yc oa on oc va vn vc fa fn fc ba bn bc gs sp ls ms vs fs l) (w:World) (h:BD K kf m ga gn gc sa sn sc ya yn yc oa on oc va vn vc fa fn fc ba bn bc gs sp ls ms vs fs l w) :
  Calls Tryz.prog 53 #[zh #[zd U m,O ga gn gc,O sa sn sc,O ya yn yc,O oa on oc,O va vn vc,O fa fn fc,O ba bn bc]] w (Said (xP K kf m vn yn on sn gs sp ls ms vs fs l) w fun why=>zd U why):=by
 have a:Ov w ((w.alloc (ze #[zd U m,O ga gn gc,O sa sn sc,O ya yn yc,O oa on oc,O va vn vc,O fa fn fc,O ba bn bc] 31)).alloc (ze #[zd U m,O ga gn gc,O sa sn sc,O ya yn yc,O oa on oc,O va vn vc,O fa fn fc,O ba bn bc] 184)):=(bA w _).alloc (by simp) _;have K:=Aa (Ml K kf m ga gn gc sa sn sc ya yn yc oa on oc va vn vc fa fn fc ba bn bc gs sp ls ms vs fs l _ (h.over a));clear h;go_enter Tryz.func53,Tryz.ntmps53;go_wp2_with fail;refine (K.o).mono ?_;rintro e g ⟨why,rfl,b,c⟩;have d:=a.trans (c.mono a.size);have f:=Aa b;clear a c K b;go_wp2_with fail;go_ret;exact ⟨why,rfl,f.o,d⟩
end Go.Proofs.YtfffpjkcfnekaaaGreat.Ex.Ey
namespace Go.Proofs.YtfffpjkcfnekaaaGreat.Ex
open Go.RowKit
open Go.Value renaming slice -> O, int -> zd, bool -> zg, agg -> zh, pointer -> zi, tuple -> zk
open Go.IntKind renaming i64 -> U
open Go.Obj renaming cells -> ze
open Go.Ending renaming returned -> zj
def sm1:D:=sD 3 0 0 (xD 0 0 []) [] [] []
def sm2:D:=sD 4 0 0 (xD 2 0 []) [] [] []
theorem BS (n:Int) (h:0<=n) (h2:n<=100):Cu n:=⟨by omega,by omega⟩
theorem Ea {s:Nat} {R:List Value->D->Prop} {w:World}:XS s R w (O none 0 0) []:=⟨Nat.zero_le _,none,0,rfl,fun h=>absurd rfl h⟩
theorem Ee {w:World}:AL w (O none 0 0) []:=⟨none,0,rfl,fun h=>absurd rfl h⟩
theorem IJ {bi bo bv bm:Nat} {w:World} (h:Ii bi bo bv bm w):BD 1 1 1 none 0 0 none 0 0 (some ⟨bi,0,none⟩) 1 1 (some ⟨bo,0,none⟩) 1 1 (some ⟨bv,0,none⟩) 1 1 none 0 0 (some ⟨bm,0,none⟩) 2 2 [] [] [⟨[],[]⟩] [⟨[],[]⟩] [(false,⟨[],[]⟩)] [] [sm1,sm2] w:=by
 have c:∀ b,Ad [O none 0 0,O none 0 0] w b->AW w (O (some ⟨b,0,none⟩) 1 1) [⟨[],[]⟩]:=fun b g=>by
  refine ⟨by simp [maxLen],some ⟨b,0,none⟩,1,rfl,fun _=>⟨b,0,rfl,fun i f=>?_⟩⟩;have:i=0:=by simp at f;omega
  subst this;exact ⟨_,_,g 0 _ rfl,g 1 _ rfl,Ee,Ee⟩
 refine ⟨BS 1 (by omega) (by omega),⟨none,0,rfl,fun h=>absurd rfl h⟩,⟨none,0,rfl,fun h=>absurd rfl h⟩,by simp,c _ h.ins,c _ h.outs,?_,?_,?_,fun h=>absurd h (by simp),fun h=>absurd h (by simp)⟩
 ·refine ⟨by simp [maxLen],some ⟨bv,0,none⟩,1,rfl,fun _=>⟨bv,0,rfl,fun i f=>?_⟩⟩
  have:i=0:=by simp at f;omega
  subst this;exact ⟨_,_,h.vars 0 _ rfl,h.vars 1 _ rfl,h.vars 2 _ rfl,Ee,Ee⟩
 ·exact ⟨by simp,none,0,rfl,fun h=>absurd rfl h⟩
 ·refine ⟨by simp [maxLen],some ⟨bm,0,none⟩,2,rfl,fun _=>⟨bm,0,rfl,fun i d a=>?_⟩⟩
  match i,a with
  | 0,a=>
   simp at a;subst a;refine ⟨EM.take 9,rfl,fun j u e=>?_,3,0,0,_,_,_,xD 0 0 [],_,[],_,[],_,[],rfl,rfl,BS _ (by omega) (by omega),BS _ (by omega) (by omega),BS _ (by omega) (by omega),⟨0,0,_,[],rfl,rfl,BS _ (by omega) (by omega),BS _ (by omega) (by omega),Ea⟩,Ea,Ea,Ea⟩;rw [List.getElem?_take] at e;split at e
   ·have:=h.main j u e
    simpa using this
   ·cases e
  | 1,a=>
   simp at a;subst a;refine ⟨EM.drop 9,rfl,fun j u e=>?_,4,0,0,_,_,_,xD 2 0 [],_,[],_,[],_,[],rfl,rfl,BS _ (by omega) (by omega),BS _ (by omega) (by omega),BS _ (by omega) (by omega),⟨2,0,_,[],rfl,rfl,BS _ (by omega) (by omega),BS _ (by omega) (by omega),Ea⟩,Ea,Ea,Ea⟩;rw [List.getElem?_drop] at e;have:=h.main (9+j) u e;simpa [Nat.add_assoc] using this
  | i+2,a=>simp at a
theorem Si:AU ((1:Nat):Int) 1 (Am sm2)=0:=by
 simp [AU,sm2,CX,CF,Cp,BM,BQ,xD,AQ,Bk,A4]
theorem OS:Cx 1 1 1 1 (([]:List FnD).length:Int) [] sm1:=by
 unfold Cx;simp [sm1,xD,AQ,A4]
theorem OQ:Cx 1 1 1 1 (([]:List FnD).length:Int) [] sm2:=by
 have h:=Si;unfold Cx;have e:Ag sm2=4:=rfl;have a:Ae sm2=0:=rfl;rw [e,a];exact ⟨by decide,fun h=>absurd h (by decide),fun h=>absurd h (by decide),fun h=>absurd h (by decide),fun _=>h,fun h=>absurd h (by decide),fun _=>by decide⟩
theorem GQ:okP 1 1 1 1 1 1 [] [] [⟨[],[]⟩] [⟨[],[]⟩] [(false,⟨[],[]⟩)] [] [sm1,sm2]:=by
 refine ⟨rfl,by simp,⟨?_,?_,?_⟩,by omega,by omega,by omega,by simp,by decide,fun i h=>absurd h (by simp),?_⟩
 ·intro b d
  simp at d;subst d;rfl
 ·intro v c
  simp at c;subst c;rfl
 ·intro v c _
  simp at c;subst c;exact ⟨rfl,rfl⟩
 ·intro s a
  simp at a;rcases a with rfl | rfl
  ·exact ⟨OS,fun s a=>absurd a (by simp [sm1]),fun s a=>absurd a (by simp [sm1])⟩
  ·exact ⟨OQ,fun s a=>absurd a (by simp [sm2]),fun s a=>absurd a (by simp [sm2])⟩
theorem G7:Ey.xP 1 1 1 1 1 1 0 [] [] [⟨[],[]⟩] [⟨[],[]⟩] [(false,⟨[],[]⟩)] [] [sm1,sm2]:=by
 refine ⟨GQ.chk,by simp,GQ.speak,GQ.labs,⟨by have:=GQ.many;omega,fun f b=>absurd b (by simp),?_⟩,fun i h=>absurd h (by simp),?_⟩
 ·intro s a
  simp at a;rcases a with rfl | rfl
  ·exact ⟨by omega,fun s a=>absurd a (by simp [sm1]),fun s a=>absurd a (by simp [sm1])⟩
  ·exact ⟨by omega,fun s a=>absurd a (by simp [sm2]),fun s a=>absurd a (by simp [sm2])⟩
 ·intro s a
  simp at a;rcases a with rfl | rfl
  ·exact ⟨⟨OS,fun _=>rfl,fun _=>rfl,fun _=>rfl,fun _=>rfl,fun _=>rfl,fun _=>rfl⟩,fun s a=>absurd a (by simp [sm1]),fun s a=>absurd a (by simp [sm1])⟩
  ·exact ⟨⟨OQ,fun _=>rfl,fun _=>rfl,fun h=>absurd h (by decide),fun _=>rfl,fun _=>rfl,fun _=>rfl⟩,fun s a=>absurd a (by simp [sm2]),fun s a=>absurd a (by simp [sm2])⟩
theorem NL {gs:List (Int × Int)} {n:Nat} {vs:List (Bool × Lab)} {i:Nat} (h:i < vs.length):(CJ gs n vs).getD i Ah=if vs[i].1=true then Ar (Ax gs) n vs[i].2 else A7 n:=by
 simp [CJ,List.getD_eq_getElem?_getD,h]
theorem LR {vs:List (Bool × Lab)} {i:Nat} (h:(vs.map Prod.fst).getD i false=true):∃ hi:i < vs.length,vs[i].1=true:=by
 by_cases hi:i < vs.length
 ·exact ⟨hi,by simpa [List.getD_eq_getElem?_getD,hi] using h⟩
 ·simp [List.getD_eq_getElem?_getD,List.getElem?_eq_none (Nat.le_of_not_lt hi)] at h
theorem LY (gs) (n:Nat) (vs:List (Bool × Lab)) (nf:Nat) (b:Bool):Fo n vs.length nf (vs.map Prod.fst) (CJ gs n vs) ⟨CJ gs n vs,List.replicate nf (A7 n),b⟩:=by
 refine ⟨by simp [CJ],by simp,fun l a=>?_,fun l a=>?_,fun i _=>rfl⟩
 ·simp only [CJ,List.mem_map] at a
  obtain ⟨v,-,rfl⟩:=a;split
  ·exact Dl _ _ _
  ·exact DG n
 ·rw [List.eq_of_mem_replicate a]
  exact DG n
theorem Fo.more {n nv nf:Nat} {known:List Bool} {L:List Lev} {st:ISt} (h:Fo n nv nf known L st) (b:Bool):Fo n nv nf known L ⟨st.vs,st.fs,b⟩:=⟨h.lv,h.lf,h.rv,h.rf,h.kn⟩
theorem Ho (n K kf:Nat) (gs) (vs:List (Bool × Lab)) (ls:List Lab) (fs:List FnD) (main):∀ k,Fo n vs.length fs.length (vs.map Prod.fst) (CJ gs n vs) (Cs n K kf (vs.map Prod.fst) (ls.map (Ar (Ax gs) n)) fs main (CO gs n vs fs.length) k)
 | 0=>LY gs n vs fs.length true
 | k+1=>(Nm n vs.length fs.length K kf _ (CJ gs n vs) _ fs main _).1 ((Ho n K kf gs vs ls fs main k).more false)
theorem Hs {n K kf:Nat} {gs:List (Int × Int)} {vs:List (Bool × Lab)} {ls:List Lab} {fs:List FnD} {main:List D} {st:ISt} (h:B2 n K kf gs vs ls fs main st):∀ i (hi:i < vs.length),vs[i].1=true->st.vs.getD i Ah=Ar (Ax gs) n vs[i].2:=by
 obtain ⟨k,c,-,-⟩:=h;intro i hi a;have b:=Ho n K kf gs vs ls fs main (k+1);rw [<-c] at b;rw [b.kn i (by simp [List.getD_eq_getElem?_getD,hi,a]),NL hi,if_pos a]
end Go.Proofs.YtfffpjkcfnekaaaGreat.Ex
namespace Go.Proofs.YtfffpjkcfnekaaaGreat
open Go.RowKit
open Go.Value renaming slice -> O, int -> zd, bool -> zg, agg -> zh, pointer -> zi, tuple -> zk
open Go.IntKind renaming i64 -> U
open Go.Obj renaming cells -> ze
open Go.Ending renaming returned -> zj
attribute [local go_sem ↓] Go.wp_at_zero Go.wp_at_succ
def lv:Lev:=⟨[false,true],[true,true]⟩
end Go.Proofs.YtfffpjkcfnekaaaGreat
namespace Go.Proofs.YtfffpjkcfnekaaaGreat.Ex
open Go.RowKit Go.ChangeShapes Go.WideShapes
open Go.Value renaming slice -> O, int -> zd, bool -> zg, agg -> zh, pointer -> zi, tuple -> zk
open Go.IntKind renaming i64 -> U
open Go.Obj renaming cells -> ze
open Go.Ending renaming returned -> zj
theorem Tryz.cells25:Tryz.prog.cellsOf 25=1:=by kernel_rfl
theorem Tryz.cells26:Tryz.prog.cellsOf 26=1:=by kernel_rfl
theorem Tryz.cells27:Tryz.prog.cellsOf 27=1:=by kernel_rfl
theorem Tryz.cells28:Tryz.prog.cellsOf 28=1:=by kernel_rfl
theorem Tryz.cells29:Tryz.prog.cellsOf 29=1:=by kernel_rfl
theorem Tryz.cells22:Tryz.prog.cellsOf 22=1:=by kernel_rfl
theorem Tryz.cells52:Tryz.prog.cellsOf 92=1:=by kernel_rfl
theorem Tryz.cells65:Tryz.prog.cellsOf 37=1:=by kernel_rfl
theorem Tryz.cells4:Tryz.prog.cellsOf 4=1:=by kernel_rfl
theorem Tryz.cells3':Tryz.prog.cellsOf 3=1:=by kernel_rfl
theorem Tryz.cells24:Tryz.prog.cellsOf 24=2:=by kernel_rfl
theorem Tryz.cells54:Tryz.prog.cellsOf 94=3:=by kernel_rfl
theorem Tryz.cells67:Tryz.prog.cellsOf 39=2:=by kernel_rfl
theorem Tryz.cells122:Tryz.prog.cellsOf 87=2:=by kernel_rfl
theorem Tryz.cells71:Tryz.prog.cellsOf 130=9:=by kernel_rfl
theorem Tryz.cells80:Tryz.prog.cellsOf 105=5:=by kernel_rfl
theorem Tryz.cells69:Tryz.prog.cellsOf 41=3:=by kernel_rfl
theorem Tryz.cells101:Tryz.prog.cellsOf 169=2:=by kernel_rfl
theorem Tryz.cells31:Tryz.prog.cellsOf 31=8:=by kernel_rfl
def LAt {α:Type} (s:Nat) (R:List Value->α->Prop) (W:World) (v:Value) (ds:List α):Prop:=
 ds.length<=maxLen/\∃ ao cap,v=O ao ds.length cap/\ds.length<=cap/\cap<=maxLen/\(ao=none->cap=0)/\(ds≠[]->∃ b off,ao=some ⟨b,off,none⟩ /\
  ∀ (i:Nat) (d:α),ds[i]? = some d->∃ cs:List Value,cs.length=s/\(∀ (j:Nat) (u:Value),cs[j]? = some u->W.cell? ⟨b,off+i*s+j,none⟩=some u)/\R cs d)
section
variable {H:Type} {enc:TypeId × Value->H} {W:World}
theorem BX {α:Type} {TS E s:Nat} (hU:Tryz.prog.underlying TS=some (.slice E)) (hc:Tryz.prog.cellsOf E=s) (hs:0 < s) {fuel:Nat} {v:Value} {x:DataW H × List MemPlace} (h:DataW.trod enc Tryz.prog W 0 (fun _=>true) true fuel TS [v]=some x)
  (d0:α) (R:List Value->α->Prop) (hel:∀ (m:Nat) (cs:List Value) (y:DataW H × List MemPlace),m < fuel->DataW.trod enc Tryz.prog W 0 (fun _=>true) true m E cs=some y->∃ d,R cs d):∃ ds:List α,LAt s R W v ds:=by
 haveI:Inhabited α:=⟨d0⟩
 rcases DataW.trod_slice hU h with ⟨c,-⟩ | ⟨w,a,I,G,J,m,rfl,c,-,-,B,D,Q,t,-,-⟩
 ·simp at c
  subst c;exact ⟨[],by simp,none,0,rfl,by simp,by unfold maxLen;omega,fun _=>rfl,fun h=>absurd rfl h⟩
 ·simp at c
  subst c;rw [hc] at t;have q:∀ i,i < a->∃ d:α,∃ cs:List Value,cs.length=s/\(∀ (j:Nat) (u:Value),cs[j]? = some u->W.cell? (w.add (i*s+j))=some u)/\R cs d:=fun i z=>by
   have p:=t i z;rw [List.getElem?_eq_getElem (by omega),Option.bind_eq_some_iff] at p;obtain ⟨cs,F,M⟩:=p;obtain ⟨-,n,g⟩:=World.cells?_some F;obtain ⟨d,r⟩:=hel m cs _ (Nat.lt_succ_self _) M;refine ⟨d,cs,n,fun j u k=>?_,r⟩;have P:j < s:=by have:=(List.getElem?_eq_some_iff.1 k).1;omega
   have o:=g j P;rw [k] at o;rw [Addr.add_add] at o;exact o
  obtain ⟨f,L⟩:=Deep.choose_lt q;refine ⟨(List.range a).map f,by simp;omega,some w,I,by simp,by simpa using B,D,fun h=>absurd h (by simp),fun A=>?_⟩;have S:0 < a:=by
   rcases Nat.eq_zero_or_pos a with h | h
   ·subst h;simp at A
   ·exact h
  have O:∃ b off,w=⟨b,off,none⟩:=by
   obtain ⟨cs,K,e,-⟩:=L 0 S;obtain ⟨u,k⟩:∃ u,cs[0]? = some u:=⟨cs[0]'(by omega),List.getElem?_eq_getElem (by omega)⟩;have o:=e 0 u k;have l:w.spot=none:=by simpa [Addr.add] using World.cell?_spot o
   obtain ⟨b,off,U⟩:=w;simp only at l;subst l;exact ⟨b,off,rfl⟩
  obtain ⟨T,off,rfl⟩:=O;refine ⟨T,off,rfl,fun i d r=>?_⟩;have z:i < a:=by
   have:=(List.getElem?_eq_some_iff.1 r).1;simpa using this
  have C:d=f i:=by
   rw [List.getElem?_map,List.getElem?_range z] at r;simpa using r.symm
  subst C;obtain ⟨cs,K,e,N⟩:=L i z;exact ⟨cs,K,fun j u k=>by have:=e j u k;rw [Addr.add_lit] at this;simpa [Nat.add_assoc] using this,N⟩
theorem Jy {v:Value} {l:List Int} (h:LAt 1 (fun cs x=>cs=[zd U x]) W v l):AN W v l:=by
 obtain ⟨-,n,f,g,-,-,-,k⟩:=h;refine ⟨n,f,g,fun c=>?_⟩;obtain ⟨b,a,m,d⟩:=k c;refine ⟨b,a,m,fun i j=>?_⟩;obtain ⟨cs,-,e,rfl⟩:=d i l[i] (List.getElem?_eq_getElem j);have:=e 0 _ rfl;simpa using this
theorem CD {m:Nat} {cs:List Value} {y:DataW H × List MemPlace} (h:DataW.trod enc Tryz.prog W 0 (fun _=>true) true m 3 cs=some y):∃ n:Int,cs=[zd U n]/\Cu n:=by
 obtain ⟨n,e,-,hw⟩:=DataW.trod_int Tryz.underlying3 h;exact ⟨n,e,RK hw⟩
theorem DQ {fuel:Nat} {v:Value} {x:DataW H × List MemPlace} (h:DataW.trod enc Tryz.prog W 0 (fun _=>true) true fuel 25 [v]=some x):∃ l:List Int,LAt 1 (fun cs x=>cs=[zd U x]) W v l:=
 BX Tryz.underlying25 Tryz.cells3' (by omega) h 0 _ fun m cs y _ hy=>by obtain ⟨n,e,-⟩:=CD hy;exact ⟨n,e⟩
theorem Jr {fuel:Nat} {v:Value} {x:DataW H × List MemPlace} (h:DataW.trod enc Tryz.prog W 0 (fun _=>true) true fuel 22 [v]=some x):∃ l:List (Int × Int),AA W v l:=by
 obtain ⟨l,d⟩:=BX Tryz.underlying22 Tryz.cells101 (by omega) h (0,0) (fun e (x:Int × Int)=>e=[zd U x.1,zd U x.2]) fun m e y _ w=>by
  obtain ⟨u,n,rfl,-,d,g,p⟩:=DataW.trod_struct Tryz.underlying169 w;rw [Tryz.cells101] at d
  match e,d,u,g with
  | [c0,c1],_,[y0,y1],_=>
   have r:=p 0 _ rfl;have q:=p 1 _ rfl;simp [Tryz.cells3'] at r q;obtain ⟨a,t,-⟩:=CD r;obtain ⟨b,s,-⟩:=CD q;simp at t s;subst t;subst s;exact ⟨(a,b),rfl⟩
 obtain ⟨-,D,o,z,-,-,-,B⟩:=d;refine ⟨l,D,o,z,fun j=>?_⟩;obtain ⟨b,f,C,k⟩:=B j;refine ⟨b,f,C,fun i A=>?_⟩;obtain ⟨e,-,c,rfl⟩:=k i l[i] (List.getElem?_eq_getElem A);exact ⟨c 0 _ rfl,c 1 _ rfl⟩
theorem He {fuel:Nat} {v:Value} {x:DataW H × List MemPlace} (h:DataW.trod enc Tryz.prog W 0 (fun _=>true) true fuel 37 [v]=some x):∃ l:List Pol,AL W v l:=by
 obtain ⟨l,d⟩:=BX Tryz.underlying37 Tryz.cells122 (by omega) h ⟨0,[]⟩ (fun e (x:Pol)=>∃ u,e=[zd U x.owner,u]/\AN W u x.names) fun m e y _ A=>by
  obtain ⟨w,n,rfl,-,d,g,q⟩:=DataW.trod_struct Tryz.underlying87 A;rw [Tryz.cells122] at d
  match e,d,w,g with
  | [c0,c1],_,[y0,y1],_=>
   have s:=q 0 _ rfl;have r:=q 1 _ rfl;simp [Tryz.cells3',Tryz.cells25] at s r;obtain ⟨a,t,-⟩:=CD s;simp at t;subst t;obtain ⟨z,j⟩:=DQ r;exact ⟨⟨a,z⟩,c1,rfl,Jy j⟩
 obtain ⟨-,G,p,B,-,-,-,E⟩:=d;refine ⟨l,G,p,B,fun k=>?_⟩;obtain ⟨b,f,F,o⟩:=E k;refine ⟨b,f,F,fun i D=>?_⟩;obtain ⟨e,-,c,u,rfl,C⟩:=o i l[i] (List.getElem?_eq_getElem D);exact ⟨c 0 _ rfl,u,c 1 _ rfl,C⟩
theorem Kc {m:Nat} {cs:List Value} {y:DataW H × List MemPlace} (h:DataW.trod enc Tryz.prog W 0 (fun _=>true) true m 39 cs=some y):∃ (l:Lab) (pr pw:Value),cs=[pr,pw]/\AL W pr l.r/\AL W pw l.w:=by
 obtain ⟨i,n,rfl,-,d,c,e⟩:=DataW.trod_struct Tryz.underlying39 h;rw [Tryz.cells67] at d
 match cs,d,i,c with
 | [c0,c1],_,[y0,y1],_=>
  have g:=e 0 _ rfl;have f:=e 1 _ rfl;simp [Tryz.cells65] at g f;obtain ⟨a,k⟩:=He g;obtain ⟨b,j⟩:=He f;exact ⟨⟨a,b⟩,c0,c1,rfl,k,j⟩
theorem Hf {fuel:Nat} {ao:Option Addr} {n cap:Nat} {x:DataW H × List MemPlace} (h:DataW.trod enc Tryz.prog W 0 (fun _=>true) true fuel 26 [O ao n cap]=some x):∃ l:List Lab,AW W (O ao n cap) l/\(ao=none->cap=0):=by
 obtain ⟨l,q⟩:=BX Tryz.underlying26 Tryz.cells67 (by omega) h ⟨[],[]⟩ (fun f (l:Lab)=>∃ pr pw,f=[pr,pw]/\AL W pr l.r/\AL W pw l.w) fun m f y _ k=>Kc k;obtain ⟨p,D,g,o,-,-,j,t⟩:=q;injection o with C B A;subst C B A;refine ⟨l,⟨p,ao,cap,rfl,fun d=>?_⟩,j⟩;obtain ⟨b,c,u,e⟩:=t d;refine ⟨b,c,u,fun i s=>?_⟩;obtain ⟨f,-,a,pr,pw,rfl,z,v⟩:=e i l[i] (List.getElem?_eq_getElem s);exact ⟨pr,pw,a 0 _ rfl,a 1 _ rfl,z,v⟩
theorem LI {fuel:Nat} {v:Value} {x:DataW H × List MemPlace} (h:DataW.trod enc Tryz.prog W 0 (fun _=>true) true fuel 27 [v]=some x):∃ l:List (Bool × Lab),Bs W v l:=by
 obtain ⟨l,c⟩:=BX Tryz.underlying27 Tryz.cells69 (by omega) h (false,⟨[],[]⟩) (fun e (l:Bool × Lab)=>∃ pr pw,e=[zg l.1,pr,pw]/\AL W pr l.2.r/\AL W pw l.2.w) fun m e y _ B=>by
  obtain ⟨z,n,rfl,-,c,g,q⟩:=DataW.trod_struct Tryz.underlying41 B;rw [Tryz.cells69] at c
  match e,c,z,g with
  | [c0,c1,c2],_,[y0,y1],_=>
   have s:=q 0 _ rfl;have d:=q 1 _ rfl;simp [Tryz.cells4,Tryz.cells67] at s d;obtain ⟨b,u,-⟩:=DataW.trod_bool Tryz.underlying4 s;simp at u;subst u;obtain ⟨A,pr,pw,t,o,I⟩:=Kc d;simp at t;obtain ⟨rfl,rfl⟩:=t;exact ⟨(b,A),c1,c2,rfl,o,I⟩
 obtain ⟨D,J,p,C,-,-,-,F⟩:=c;refine ⟨l,D,J,p,C,fun j=>?_⟩;obtain ⟨b,f,G,k⟩:=F j;refine ⟨b,f,G,fun i E=>?_⟩;obtain ⟨e,-,a,pr,pw,rfl,d,o⟩:=k i l[i] (List.getElem?_eq_getElem E);exact ⟨pr,pw,a 0 _ rfl,a 1 _ rfl,a 2 _ rfl,d,o⟩
theorem PU {s:Nat} {R:List Value->D->Prop} {v:Value} {l:List D} (h:LAt s R W v l):XS s R W v l:=by
 obtain ⟨c,e,a,b,-,-,-,d⟩:=h;exact ⟨c,e,a,b,d⟩
theorem Nt (K:Nat):∀ (fuel:Nat) (cs:List Value) (x:DataW H × List MemPlace),fuel<=K->DataW.trod enc Tryz.prog W 0 (fun _=>true) true fuel 130 cs=some x->∃ d,RS W K fuel cs d:=by
 intro fuel
 induction fuel using Nat.strongRecOn with
 | ind fuel ih=>
  intro cs x N h;obtain ⟨D,n,rfl,-,p,g,a⟩:=DataW.trod_struct Tryz.underlying130 h;rw [Tryz.cells71] at p
  match cs,p,D,g with
  | [c0,c1,c2,c3,c4,c5,c6,c7,c8],_,[y0,y1,y2,y3,y4,y5,y6],_=>
   have w:=a 0 _ rfl;have v:=a 1 _ rfl;have u:=a 2 _ rfl;have t:=a 3 _ rfl;have s:=a 4 _ rfl;have r:=a 5 _ rfl;have q:=a 6 _ rfl;simp [Tryz.cells3',Tryz.cells54,Tryz.cells52,Tryz.cells29] at w v u t s r q;obtain ⟨l,C,G⟩:=CD w;obtain ⟨i,B,F⟩:=CD v;obtain ⟨k,A,E⟩:=CD u;simp at C B A;subst C;subst B;subst A;obtain ⟨e,I⟩:=FX n _ _ t;obtain ⟨f,M⟩:=BX Tryz.underlying92 Tryz.cells54 (by omega) s (.agg []) (RX W K) fun m cs y o b=>by
    obtain ⟨d,c⟩:=FX m _ _ b;exact ⟨d,RX.mono (fun _ _ h=>h) m K _ _ (by omega) c⟩
   obtain ⟨j,J⟩:=BX Tryz.underlying29 Tryz.cells71 (by omega) r (.agg []) (RS W K n) fun m cs y o b=>by
    obtain ⟨d,c⟩:=ih m (by omega) cs y (by omega) b;exact ⟨d,RS.mono (fun _ _ h=>h) m n _ _ (by omega) c⟩
   obtain ⟨z,L⟩:=BX Tryz.underlying29 Tryz.cells71 (by omega) q (.agg []) (RS W K n) fun m cs y o b=>by
    obtain ⟨d,c⟩:=ih m (by omega) cs y (by omega) b;exact ⟨d,RS.mono (fun _ _ h=>h) m n _ _ (by omega) c⟩
   exact ⟨sD l i k e f j z,l,i,k,c3,c4,c5,e,c6,f,c7,j,c8,z,rfl,rfl,G,F,E,RX.mono (fun _ _ h=>h) n K _ _ (by omega) I,PU M,PU J,PU L⟩
theorem Gu (K:Nat) {fuel:Nat} {v:Value} {x:DataW H × List MemPlace} (hK:fuel<=K) (h:DataW.trod enc Tryz.prog W 0 (fun _=>true) true fuel 29 [v]=some x):∃ l,Bj W K K v l:=by
 obtain ⟨l,b⟩:=BX Tryz.underlying29 Tryz.cells71 (by omega) h (.agg []) (RS W K K) fun m e y f a=>by
  obtain ⟨d,c⟩:=Nt K m e y (by omega) a;exact ⟨d,RS.mono (fun _ _ h=>h) m K _ _ (by omega) c⟩
 exact ⟨l,PU b⟩
theorem Kd (K:Nat) {fuel:Nat} {v:Value} {x:DataW H × List MemPlace} (hK:fuel<=K) (h:DataW.trod enc Tryz.prog W 0 (fun _=>true) true fuel 28 [v]=some x):∃ l,Bv W K K v l:=by
 obtain ⟨l,g⟩:=BX Tryz.underlying28 Tryz.cells80 (by omega) h ⟨[],[],.agg []⟩ (fun o (f:FnD)=>∃ vP vB x0 x1 x2,o=[vP,vB,x0,x1,x2]/\AN W vP f.ps/\Tm vP f.ps/\Bj W K K vB f.body/\RX W K [x0,x1,x2] f.res) fun m o y B E=>by
  obtain ⟨D,n,rfl,-,g,q,u⟩:=DataW.trod_struct Tryz.underlying105 E;rw [Tryz.cells80] at g
  match o,g,D,q with
  | [c0,c1,c2,c3,c4],_,[y0,y1,y2],_=>
   have C:=u 0 _ rfl;have k:=u 1 _ rfl;have j:=u 2 _ rfl;simp [Tryz.cells25,Tryz.cells29,Tryz.cells54] at C k j;obtain ⟨ps,d⟩:=DQ C;obtain ⟨P,z⟩:=Gu K (by omega) k;obtain ⟨e,G⟩:=FX n _ _ j;refine ⟨⟨ps,P,e⟩,c0,c1,c2,c3,c4,rfl,Jy d,?_,z,RX.mono (fun _ _ h=>h) n K _ _ (by omega) G⟩;obtain ⟨t,A,c,r,M,L,-⟩:=d;exact ⟨t,A,c,r,M,L⟩
 obtain ⟨B,A,c,r,-,-,-,I⟩:=g;refine ⟨l,B,A,c,r,fun s=>?_⟩;obtain ⟨b,p,J,w⟩:=I s;refine ⟨b,p,J,fun i F=>?_⟩;obtain ⟨o,-,a,vP,vB,x0,x1,x2,rfl,k,j,O,N⟩:=w i l[i] (List.getElem?_eq_getElem F);exact ⟨vP,vB,x0,x1,x2,a 0 _ rfl,a 1 _ rfl,a 2 _ rfl,a 3 _ rfl,a 4 _ rfl,k,j,O,N⟩
end
section
variable {H:Type} {enc:TypeId × Value->H} {W:World}
theorem Cg {TS E:Nat} (hU:Tryz.prog.underlying TS=some (.slice E)) {fuel:Nat} {v:Value} {x:DataW H × List MemPlace} (h:DataW.trod enc Tryz.prog W 0 (fun _=>true) true fuel TS [v]=some x):∃ a n c,v=O a n c:=by
 rcases DataW.trod_slice hU h with ⟨b,-⟩ | ⟨i,f,g,d,e,m,rfl,b,-⟩
 ·simp at b
  exact ⟨_,_,_,b⟩
 ·simp at b
  exact ⟨_,_,_,b⟩
theorem Nu {fuel:Nat} {cs:List Value} {x:DataW H × List MemPlace} (h:DataW.trod enc Tryz.prog W 0 (fun _=>true) true fuel 31 cs=some x) :
  ∃ (m:Int) (ga:Option Addr) (gn gc:Nat) (sa:Option Addr) (sn sc:Nat) (ya:Option Addr) (yn yc:Nat) (oa:Option Addr) (on oc:Nat) (va:Option Addr) (vn vc:Nat) (fa:Option Addr) (fn fc:Nat) (ba:Option Addr) (bn bc:Nat) (gs:List (Int × Int)) (sp:List Int) (ls ms:List Lab) (vs:List (Bool × Lab)) (fs:List FnD) (l:List D),cs=[zd U m,O ga gn gc,O sa sn sc,O ya yn yc,O oa on oc,O va vn vc,O fa fn fc,O ba bn bc]/\BD fuel fuel m ga gn gc sa sn sc ya yn yc oa on oc va vn vc fa fn fc ba bn bc gs sp ls ms vs fs l W:=by
 obtain ⟨F,n,rfl,-,d,f,a⟩:=DataW.trod_struct Tryz.underlying31 h;rw [Tryz.cells31] at d
 match cs,d,F,f with
 | [c0,c1,c2,c3,c4,c5,c6,c7],_,[y0,y1,y2,y3,y4,y5,y6],_=>
  have A:=a 0 _ rfl;have w:=a 1 _ rfl;have v:=a 2 _ rfl;have u:=a 3 _ rfl;have t:=a 4 _ rfl;have s:=a 5 _ rfl;have r:=a 6 _ rfl;simp [Tryz.cells24,Tryz.cells25,Tryz.cells26,Tryz.cells27,Tryz.cells28,Tryz.cells29] at A w v u t s r;obtain ⟨E,z,rfl,-,I,e,c⟩:=DataW.trod_struct Tryz.underlying24 A
  match E,e with
  | [z0,z1],_=>
   have B:=c 0 _ rfl;have y:=c 1 _ rfl;simp [Tryz.cells3',Tryz.cells22] at B y;obtain ⟨m,C,G⟩:=CD B;simp at C;subst C;obtain ⟨ga,gn,gc,rfl⟩:=Cg Tryz.underlying22 y;obtain ⟨sa,sn,sc,rfl⟩:=Cg Tryz.underlying25 w;obtain ⟨ya,yn,yc,rfl⟩:=Cg Tryz.underlying26 v;obtain ⟨oa,on,oc,rfl⟩:=Cg Tryz.underlying26 u;obtain ⟨va,vn,vc,rfl⟩:=Cg Tryz.underlying27 t;obtain ⟨fa,fn,fc,rfl⟩:=Cg Tryz.underlying28 s;obtain ⟨ba,bn,bc,rfl⟩:=Cg Tryz.underlying29 r;obtain ⟨gs,p⟩:=Jr y;obtain ⟨sp,b⟩:=DQ w;obtain ⟨ls,k,o⟩:=Hf v;obtain ⟨ms,i,j⟩:=Hf u;obtain ⟨vs,g⟩:=LI t;obtain ⟨fs,q⟩:=Kd (z+1+1) (by omega) s;obtain ⟨l,d⟩:=Gu (z+1+1) (by omega) r;exact ⟨m,ga,gn,gc,sa,sn,sc,ya,yn,yc,oa,on,oc,va,vn,vc,fa,fn,fc,ba,bn,bc,gs,sp,ls,ms,vs,fs,l,rfl,G,p,Jy b,by have:=b.1;unfold maxLen at this;omega,k,i,g,q,d,o,j⟩
theorem open_program {r:Go.Reach} {b0:Nat} {v:Value} {d:DataW H} {p:List MemPlace} (hv:Value.okWide Tryz.prog W r b0 31 v) (h:DataW.Trod enc Tryz.prog W 0 (fun _=>true) true 31 v d p) :
  ∃ (K:Nat) (m:Int) (ga:Option Addr) (gn gc:Nat) (sa:Option Addr) (sn sc:Nat) (ya:Option Addr) (yn yc:Nat) (oa:Option Addr) (on oc:Nat) (va:Option Addr) (vn vc:Nat) (fa:Option Addr) (fn fc:Nat) (ba:Option Addr) (bn bc:Nat) (gs:List (Int × Int)) (sp:List Int) (ls ms:List Lab) (vs:List (Bool × Lab)) (fs:List FnD) (l:List D),v=zh #[zd U m,O ga gn gc,O sa sn sc,O ya yn yc,O oa on oc,O va vn vc,O fa fn fc,O ba bn bc]/\BD K K m ga gn gc sa sn sc ya yn yc oa on oc va vn vc fa fn fc ba bn bc gs sp ls ms vs fs l W:=by
 obtain ⟨c,rfl,e⟩:=okWide_struct Tryz.underlying31 hv;obtain ⟨a,g⟩:=h;have b:DataW.trod enc Tryz.prog W 0 (fun _=>true) true a 31 c.toList=some (d,p):=by simpa [Value.cells] using g
 obtain ⟨m,ga,gn,gc,sa,sn,sc,ya,yn,yc,oa,on,oc,va,vn,vc,fa,fn,fc,ba,bn,bc,gs,sp,ls,ms,vs,fs,l,i,f⟩:=Nu b;refine ⟨a,m,ga,gn,gc,sa,sn,sc,ya,yn,yc,oa,on,oc,va,vn,vc,fa,fn,fc,ba,bn,bc,gs,sp,ls,ms,vs,fs,l,?_,f⟩;have:c=#[zd U m,O ga gn gc,O sa sn sc,O ya yn yc,O oa on oc,O va vn vc,O fa fn fc,O ba bn bc]:=by
  cases c
  simp_all
 rw [this]
end
end Go.Proofs.YtfffpjkcfnekaaaGreat.Ex
namespace Go.Proofs.YtfffpjkcfnekaaaGreat.Ex
open Go.RowKit
open Go.Value renaming slice -> O, int -> zd, bool -> zg, agg -> zh, pointer -> zi, tuple -> zk
open Go.IntKind renaming i64 -> U
open Go.Obj renaming cells -> ze
open Go.Ending renaming returned -> zj
theorem SG (args:Array Value) (w:World):(callFunc 178 args).run Tryz.prog w=.ok (.enter 178 args) w:=by simp [go_sem]
theorem Mr (args:Array Value) (w:World):(callFunc 179 args).run Tryz.prog w=.ok (.enter 179 args) w:=by simp [go_sem]
theorem Ad.set {cs:List Value} {w:World} {b j:Nat} {v:Value} (h:Ad cs w b) (hj:j < cs.length):Ad (cs.set j v) (w.setCell ⟨b,j,none⟩ v) b:=by
 have c:=h j _ (List.getElem?_eq_getElem hj);have d:=bL c;intro k u a;by_cases hk:k=j
 ·subst hk
  rw [List.getElem?_set_self hj] at a;simp at a;subst a;simp [go_sem,c]
 ·rw [List.getElem?_set_ne (by omega)] at a
  have:=h k u a;simp [go_sem,this]
theorem Ad.other {cs:List Value} {w:World} {b b' j:Nat} {v:Value} (h:Ad cs w b) (hb:b≠b'):Ad cs (w.setCell ⟨b',j,none⟩ v) b:=fun k u hu=>by
 have:=h k u hu;simp [go_sem,this]
theorem Ad.drew {cs:List Value} {w:World} {b:Nat} (h:Ad cs w b):Ad cs w.drew b:=fun k u hu=>h k u hu
theorem Pv {w w0 w1:World} {a0 a1 a2 a3 a4 a5 a6 a7:Addr} {v0 v1 v2 v3 v4 v5 v6 v7:Value}
  (h:w0.cell? a0=some v0/\w0.cell? a1=some v1/\w0.cell? a2=some v2/\w0.cell? a3=some v3/\w0.cell? a4=some v4/\w0.cell? a5=some v5/\w0.cell? a6=some v6/\w0.cell? a7=some v7/\Ov w w0) (hb:Ov w0 w1) :
  w1.cell? a0=some v0/\w1.cell? a1=some v1/\w1.cell? a2=some v2/\w1.cell? a3=some v3/\w1.cell? a4=some v4/\w1.cell? a5=some v5/\w1.cell? a6=some v6/\w1.cell? a7=some v7/\Ov w w1:=by
 obtain ⟨j,i,g,f,e,d,c,b,a⟩:=h;exact ⟨Ab hb _ _ j,Ab hb _ _ i,Ab hb _ _ g,Ab hb _ _ f,Ab hb _ _ e,Ab hb _ _ d,Ab hb _ _ c,Ab hb _ _ b,a.trans (hb.mono a.size)⟩
theorem Bo {w w':World} {r b j:Nat} {u:Value} (hg:w.grownBy w' (some r)) (h:w.cell? ⟨b,j,none⟩=some u) (hne:b≠r):w'.cell? ⟨b,j,none⟩=some u:=by
 have a:=bL h;rw [World.cell?_of_block (w:=w) (hg.block b a (fun e=>hne (Option.some.inj e)))];exact h
theorem C3 {w:World} {r n j:Nat} {u:Value}:w.grownBy ((w.drewN n).setCell ⟨r,j,none⟩ u) (some r):=by
 have h:=Below.heap_setCell (w.drewN n) ⟨r,j,none⟩ u;refine ⟨rfl,rfl,rfl,by simp [World.setCell],fun k b a=>?_⟩;rw [h k (fun e=>a (by rw [e]))];rfl
theorem Pw {w w0 w1:World} {a0 a1 a2 a3:Addr} {v0 v1 v2 v3:Value}
  (h:w0.cell? a0=some v0/\w0.cell? a1=some v1/\w0.cell? a2=some v2/\w0.cell? a3=some v3/\Ov w w0) (hb:Ov w0 w1) :
  w1.cell? a0=some v0/\w1.cell? a1=some v1/\w1.cell? a2=some v2/\w1.cell? a3=some v3/\Ov w w1:=by
 obtain ⟨e,d,c,b,a⟩:=h;exact ⟨Ab hb _ _ e,Ab hb _ _ d,Ab hb _ _ c,Ab hb _ _ b,a.trans (hb.mono a.size)⟩
theorem Tryz.infoE:(Tryz.prog.info? 136).map (fun i=>(i.zero,i.size,i.bytes))=some (some (zh #[zd U 0,zd U 0,zd U 0,zd U 0]),4,32):=by kernel_rfl
theorem Ad.newA (cs:Array Value) (t:Nat) (w:World):Ad cs.toList (w.alloc (.cells cs t)) w.heap.size:=fun j u hu=>by
 rw [Lib.cell_of_heap (heap_alloc_new w _)];simpa using hu
theorem Po {w w':World} {r a b j k l:Nat} {x y z:Value} (h:w.cell? ⟨a,j,none⟩=some x/\w.cell? ⟨b,k,none⟩=some y/\w.cell? ⟨b,l,none⟩=some z) (hg:w.grownBy w' (some r)) (ha:a≠r) (hb:b≠r) :
  w'.cell? ⟨a,j,none⟩=some x/\w'.cell? ⟨b,k,none⟩=some y/\w'.cell? ⟨b,l,none⟩=some z:=⟨Bo hg h.1 ha,Bo hg h.2.1 hb,Bo hg h.2.2 hb⟩
theorem Sy {w w':World} {b j k l m:Nat} {x y z u:Value} (h:w.cell? ⟨b,j,none⟩=some x/\w.cell? ⟨b,k,none⟩=some y/\w.cell? ⟨b,l,none⟩=some z/\w.cell? ⟨b,m,none⟩=some u) (hg:Ov w w') :
  w'.cell? ⟨b,j,none⟩=some x/\w'.cell? ⟨b,k,none⟩=some y/\w'.cell? ⟨b,l,none⟩=some z/\w'.cell? ⟨b,m,none⟩=some u:=⟨Ab hg _ _ h.1,Ab hg _ _ h.2.1,Ab hg _ _ h.2.2.1,Ab hg _ _ h.2.2.2⟩
def A8 (w:World) (v:Value) (ls:List (List Int)):Prop:=
 ls.length<=maxLen/\∃ ao cap,v=O ao ls.length cap/\(ls≠[]->∃ b off,ao=some ⟨b,off,none⟩/\∀ i (h:i < ls.length),∃ u,w.cell? ⟨b,off+i,none⟩=some u/\AN w u ls[i]/\ls[i].length<=9223372036854775807)
theorem A8.over {w w':World} {v:Value} {ls:List (List Int)} (h:A8 w v ls) (hb:Ov w w'):A8 w' v ls:=by
 obtain ⟨j,p,f,g,l⟩:=h;refine ⟨j,p,f,g,fun c=>?_⟩;obtain ⟨b,a,e,d⟩:=l c;refine ⟨b,a,e,fun i k=>?_⟩;obtain ⟨u,o,n,m⟩:=d i k;exact ⟨u,Ab hb _ _ o,n.over hb,m⟩
theorem LT (a n c) (w:World):Calls Tryz.prog 178 #[O a n c] w fun e w'=>e=zj (zg (decide (100 < n)))/\w'=w:=by
 by_cases h:100 < n
 ·go_enter Tryz.func178,Tryz.ntmps178
  go_wp2_with fail;go_ret;exact ⟨by simp;omega,rfl⟩
 ·go_enter Tryz.func178,Tryz.ntmps178
  go_wp2_with fail;go_ret;exact ⟨by simp;omega,rfl⟩
theorem It (l) (v:Value) (w:World) (h:AN w v l) (hl:l.length<=9223372036854775807):Calls Tryz.prog 179 #[v] w fun e w'=>e=zj (zg (!l.all D9))/\w'=w:=by
 have K:=Aa (Ga l _ w h hl);obtain ⟨a,c,rfl,-⟩:=h;go_enter Tryz.func179,Tryz.ntmps179;go_wp2_with fail;refine (K.o).mono ?_;rintro e b ⟨rfl,rfl⟩;go_wp2_with fail;go_ret;exact ⟨rfl,rfl⟩
theorem Ht (F:FuncId) (p:List Int->Bool) (ls) (v:Value) (w:World) (h:A8 w v ls)
  (hF:Hx (∀ (l:List Int) (u:Value),AN w u l->l.length<=9223372036854775807->Calls Tryz.prog F #[u] w fun e w'=>e=zj (zg (p l))/\w'=w)) (hC:∀ (args:Array Value) (w:World),(callFunc F args).run Tryz.prog w=.ok (.enter F args) w) :
  Calls Tryz.prog 221 #[v,.func (.func F) #[] #[]] w fun e w'=>∃ r:Int,e=zj (zd U r)/\decide (0<=r)=ls.any p/\w'=w:=by
 obtain ⟨B,L,G,rfl,m⟩:=h;have E:ls.length<=9223372036854775807:=B;have y:=Aa m;clear m B;go_enter Tryz.func221,Tryz.ntmps221;go_wp2_with fail;go_loopw [8] (fun i wr=>∃ k:Nat,k<=ls.length/\i=zd U k/\(ls.take k).any p=false/\wr=w) (fun i _=>ls.length - (intOf i).toNat)
 case atStart=>exact ⟨0,Nat.zero_le _,rfl,rfl,rfl⟩
 case round=>
  obtain ⟨k,J,rfl,d,rfl⟩:=hrel;have n:=Aa d;clear d;by_cases hkl:k < ls.length
  ·obtain ⟨b,D,rfl,j⟩:=y.o (by rintro rfl;simp at hkl)
   obtain ⟨u,I,z,q⟩:=j k hkl;have f:p ls[k]=true->ls.any p=true:=fun h=>by rw [List.any_eq_true];exact ⟨ls[k],List.getElem_mem hkl,h⟩
   have g:p ls[k]=false->(ls.take (k+1)).any p=false:=fun h=>by rw [List.take_succ_eq_append_getElem hkl,List.any_append,n.o];simp [h]
   have a:=hF.o ls[k] u z q;obtain ⟨r,A⟩:=nm (p ls[k]);rw [<-A] at a f g;have c:=Aa a;have t:=Aa f;have x:=Aa g;obtain ⟨M,K,rfl,-⟩:=z;clear a f g A j n hF;cases r with
   | false=>
    go_wp2_with fail;refine (c.o).mono ?_;rintro e C ⟨rfl,rfl⟩;go_wp2_with fail;exact ⟨⟨k+1,by omega,by go_num,x.o (by first | rfl | trivial),by first | rfl | trivial⟩,by simp [intOf];omega⟩
   | true=>
    go_wp2_with fail;refine (c.o).mono ?_;rintro e C ⟨rfl,rfl⟩;go_wp2_with fail;go_ret;refine ⟨(k:Int),by first | rfl | trivial,?_,by first | rfl | trivial⟩;rw [t.o (by first | rfl | trivial)];simp
  ·have s:=n.o
   rw [List.take_of_length_le (by omega)] at s;have H:=Aa s;clear s n hF;go_wp2_with fail;go_ret;refine ⟨-1,by first | rfl | trivial,?_,by first | rfl | trivial⟩;rw [H.o];rfl
theorem Dv (F:FuncId) (p:List Int->Bool) (ls) (v:Value) (w:World) (h:A8 w v ls)
  (hF:Hx (∀ (l:List Int) (u:Value),AN w u l->l.length<=9223372036854775807->Calls Tryz.prog F #[u] w fun e w'=>e=zj (zg (p l))/\w'=w)) (hC:∀ (args:Array Value) (w:World),(callFunc F args).run Tryz.prog w=.ok (.enter F args) w) :
  Calls Tryz.prog 180 #[v,.func (.func F) #[] #[]] w fun e w'=>e=zj (zg (ls.any p))/\w'=w:=by
 have K:=Aa (Ht F p ls v w h hF hC);obtain ⟨i,j,d,rfl,a⟩:=h;obtain ⟨q,c⟩:=nm (ls.any p);rw [<-c] at K ⊢;clear a c hF;go_enter Tryz.func180,Tryz.ntmps180;go_wp2_with fail;refine (K.o).mono ?_;rintro e g ⟨r,rfl,b,rfl⟩;have f:=Aa b;clear b;go_wp2_with fail;go_ret;exact ⟨by rw [<-f.o];simp,rfl⟩
structure okR (K kf:Nat) (m:Int) (vn yn on sn:Nat) (gs:List (Int × Int)) (sp:List Int) (ls ms:List Lab) (vs:List (Bool × Lab)) (fs:List FnD) (l:List D) (ins:List (List Int)) (fuel:Int):Prop where
 prog:Ey.xP K kf m vn yn on sn gs sp ls ms vs fs l
 many:ins.length=yn
 long:∀ x∈ins,x.length<=100
 num:∀ x∈ins,∀ y∈x,I32 y
 f0:0<=fuel
 f1:fuel<=2000
theorem Jl (K kf:Nat) (m:Int) (ga gn gc sa sn sc ya yn yc oa on oc va vn vc fa fn fc ba bn bc) (xa xn xc) (ins) (fuel:Int) (gs sp ls ms vs fs l) (w:World) (h:BD K kf m ga gn gc sa sn sc ya yn yc oa on oc va vn vc fa fn fc ba bn bc gs sp ls ms vs fs l w) (hx:A8 w (O xa xn xc) ins) :
  Calls Tryz.prog 117 #[zh #[zd U m,O ga gn gc,O sa sn sc,O ya yn yc,O oa on oc,O va vn vc,O fa fn fc,O ba bn bc],O xa xn xc,zd U fuel] w (Ey.Said (okR K kf m vn yn on sn gs sp ls ms vs fs l ins fuel) w fun why=>zd U why):=by
 have N:∀ (fn:Fn) (first cap:Array Value) (w:World),(Instr.makeFunc fn first cap).run Tryz.prog w=.ok (.func fn first cap) w:=fun _ _ _ _=>rfl;have b:Ov w (w.alloc (ze #[zd U m,O ga gn gc,O sa sn sc,O ya yn yc,O oa on oc,O va vn vc,O fa fn fc,O ba bn bc] 31)):=bA w _;have F:=Aa (Ey.scopeCheck_any K kf m ga gn gc sa sn sc ya yn yc oa on oc va vn vc fa fn fc ba bn bc gs sp ls ms vs fs l _ (h.over b));have G:=Aa (hx.over b);have g:xn=ins.length:=by obtain ⟨-,a,c,A,-⟩:=hx;injection A
 have L:xn<=9223372036854775807:=by rw [g];exact hx.1
 have J:yn<=9223372036854775807:=by obtain ⟨P,a,c,A,-⟩:=h.ins;injection A with Z S Y;rw [S];exact P
 have p:=Aa g;have E:=Aa fun W (hw:A8 W (O xa xn xc) ins)=>Dv 178 (fun l=>decide (100 < l.length)) ins (O xa xn xc) W hw (Aa fun l u z _=>by
  obtain ⟨a,c,rfl,-⟩:=z;exact LT a l.length c W) SG
 have D:=Aa fun W (hw:A8 W (O xa xn xc) ins)=>Dv 179 (fun l=>!l.all D9) ins (O xa xn xc) W hw (Aa fun l u z n=>It l u W z n) Mr;obtain ⟨I,j⟩:=nm (ins.any (fun l=>decide (100 < l.length)));obtain ⟨H,i⟩:=nm (ins.any (fun l=>!l.all D9));rw [<-j] at E;rw [<-i] at D;have s:=Aa j;have r:=Aa i;have C:(w.alloc (ze #[zd U m,O ga gn gc,O sa sn sc,O ya yn yc,O oa on oc,O va vn vc,O fa fn fc,O ba bn bc] 31)).cell? ⟨w.heap.size,3,none⟩=some (O ya yn yc):=by simp [go_sem]
 clear h hx g j i;go_enter Tryz.func117,Tryz.ntmps117;go_wp2_with fail;refine (F.o).mono ?_;rintro e X ⟨why,rfl,k,f⟩;have d3:=Ab f _ _ C;have q:=Aa (G.o.over f);have d:=b.trans (f.mono b.size);have t:=Aa k;clear b f F G C k;by_cases hw:why=0;rotate_left
 ·have M:(why == 0)=false:=by simpa using hw
  go_wp2_with fail;go_ret;exact ⟨why,rfl,⟨fun h=>absurd h hw,fun h=>absurd (t.o.2 h.prog) hw⟩,d⟩
 subst hw;by_cases hxy:xn=yn;rotate_left
 ·have Q:((xn:Int) == (yn:Int))=false:=by simp;omega
  go_wp2_with fail;go_ret;exact ⟨1,rfl,⟨fun h=>absurd h (by decide),fun h=>absurd (p.o.trans h.many) hxy⟩,d⟩
 have Q:((xn:Int) == (yn:Int))=true:=by simp;omega
 have B:=Aa hxy;clear hxy;go_wp2_with fail;refine (E.o _ q.o).mono ?_;rintro e V ⟨rfl,rfl⟩;cases I with
 | true=>
  go_wp2_with fail;go_ret;refine ⟨2,rfl,⟨fun h=>absurd h (by decide),fun h=>?_⟩,d⟩;obtain ⟨x,hx,n⟩:=List.any_eq_true.1 s.o.symm;exact absurd (h.long x hx) (by simpa using n)
 | false=>
 go_wp2_with fail;refine (D.o _ q.o).mono ?_;rintro e T ⟨rfl,rfl⟩;cases H with
 | true=>
  go_wp2_with fail;go_ret;refine ⟨3,rfl,⟨fun h=>absurd h (by decide),fun h=>?_⟩,d⟩;obtain ⟨x,hx,n⟩:=List.any_eq_true.1 r.o.symm;have R:x.all D9=true:=List.all_eq_true.2 fun y v=>by simpa [D9,I32] using h.num x hx y v
  simp [R] at n
 | false=>
 by_cases hf0:fuel < 0
 ·go_wp2_with fail
  go_ret;exact ⟨3,rfl,⟨fun h=>absurd h (by decide),fun h=>by have:=h.f0;omega⟩,d⟩
 by_cases hf1:2000 < fuel
 ·go_wp2_with fail
  go_ret;exact ⟨3,rfl,⟨fun h=>absurd h (by decide),fun h=>by have:=h.f1;omega⟩,d⟩
 go_wp2_with fail;go_ret;refine ⟨0,rfl,⟨fun _=>⟨t.o.1 (by first | rfl | trivial),by rw [<-p.o];exact B.o,fun x hx=>?_,fun x hx y v=>?_,by omega,by omega⟩,fun _=>rfl⟩,d⟩
 ·have:=List.any_eq_false.1 s.o.symm x hx
  simpa using this
 ·have:=List.any_eq_false.1 r.o.symm x hx
  simp only [Bool.not_eq_true,Bool.not_eq_false'] at this;have:=List.all_eq_true.1 this y v;simpa [D9,I32] using this
end Go.Proofs.YtfffpjkcfnekaaaGreat.Ex
namespace Go.Proofs.YtfffpjkcfnekaaaGreat.Ex
open Go.RowKit
open Go.Value renaming slice -> O, int -> zd, bool -> zg, agg -> zh, pointer -> zi, tuple -> zk
open Go.IntKind renaming i64 -> U
open Go.Obj renaming cells -> ze
open Go.Ending renaming returned -> zj
open Go.ChangeShapes Go.WideShapes Go.ChangeAt
section
variable {H:Type} {enc:TypeId × Value->H} {W:World}
theorem Kb {fuel:Nat} {v:Value} {x:DataW H × List MemPlace} (h:DataW.trod enc Tryz.prog W 0 (fun _=>true) true fuel 52 [v]=some x):∃ l:List (List Int),A8 W v l/\LAt 1 (fun cs x=>∃ u,cs=[u]/\LAt 1 (fun cs x=>cs=[zd U x]) W u x) W v l:=by
 obtain ⟨l,e⟩:=BX Tryz.underlying52 Tryz.cells25 (by omega) h [] (fun cs (x:List Int)=>∃ u,cs=[u]/\LAt 1 (fun cs x=>cs=[zd U x]) W u x) fun m cs y _ o=>by
  have c:cs.length=1:=by
   rcases DataW.trod_slice Tryz.underlying25 o with ⟨a,-⟩ | ⟨B,q,d,k,n,m,rfl,a,-⟩
   ·rw [a];rfl
   ·rw [a];rfl
  match cs,c with
  | [u],_=>
   obtain ⟨l,e⟩:=DQ o;exact ⟨l,u,rfl,e⟩
 refine ⟨l,?_,e⟩;obtain ⟨s,A,d,r,-,-,-,w⟩:=e;refine ⟨s,A,d,r,fun g=>?_⟩;obtain ⟨b,f,z,j⟩:=w g;refine ⟨b,f,z,fun i t=>?_⟩;obtain ⟨cs,-,a,u,rfl,p⟩:=j i l[i] (List.getElem?_eq_getElem t);refine ⟨u,by have:=a 0 _ rfl;simpa using this,Jy p,?_⟩;have:=p.1;unfold maxLen at this;omega
theorem open_lists {r:Go.Reach} {b0:Nat} {v:Value} {d:DataW H} {p:List MemPlace} (hv:Value.okWide Tryz.prog W r b0 52 v) (h:DataW.Trod enc Tryz.prog W 0 (fun _=>true) true 52 v d p) :
  ∃ (a:Option Addr) (n c:Nat) (l:List (List Int)),v=O a n c/\A8 W (O a n c) l/\LAt 1 (fun cs x=>∃ u,cs=[u]/\LAt 1 (fun cs x=>cs=[zd U x]) W u x) W (O a n c) l:=by
 obtain ⟨a,n,c,rfl⟩:=okWide_slice Tryz.underlying52 hv;obtain ⟨b,f⟩:=h;have e:DataW.trod enc Tryz.prog W 0 (fun _=>true) true b 52 [O a n c]=some (d,p):=by simpa [Value.cells] using f
 obtain ⟨l,i,g⟩:=Kb e;exact ⟨a,n,c,l,rfl,i,g⟩
end
end Go.Proofs.YtfffpjkcfnekaaaGreat.Ex
namespace Go.Proofs.YtfffpjkcfnekaaaGreat.Ex
open Go.RowKit
open Go.Value renaming slice -> O, int -> zd, bool -> zg, agg -> zh, pointer -> zi, tuple -> zk
open Go.IntKind renaming i64 -> U
open Go.Obj renaming cells -> ze
open Go.Ending renaming returned -> zj
theorem Tryz.infoFt:(Tryz.prog.info? 89).map (fun i=>(i.zero,i.size,i.bytes))=some (some (zh #[zd U 0,zd U 0]),2,16):=by kernel_rfl
theorem Db {ops:Array Oper} {o:Oper} {a:Act} {W:World} {K:Act->World->Prop} {Q:Exit->Act->World->Prop} {E:Prop} (hg:o.guard=none) (s x:Operand) (t:TypeId) (hop:o.op=Op.call { callee:=Callee.builtin Builtin.append,args:=#[s,x],argTypes:=#[t,t] }) (v u v':Value) (W':World) (hs:a.eval s=v) (hx:a.eval x=u)
  (hr:(Builtin.append_ #[t,t] o.type #[v,u]).run Tryz.prog W=.ok v' W') (h:K (a.put o.dst v') W'):if Region.wanted o (yielded ops a.tmps)=true then Oper.wp Tryz.prog o a W K Q else E:=by
 have hw:Region.wanted o (yielded ops a.tmps)=true:=by simp [Region.wanted,hg]
 rw [if_pos hw];unfold Oper.wp execOp;simp only [hop,resolve,invoke,builtin,Sem.run_bind,Sem.run_pure,Result.andThen_ok,List.map_toArray,List.map_cons,List.map_nil,hs,hx,hr];exact h
theorem BK {cs:List Value} {w:World} {b j:Nat} {v:Value} (h:Ad cs w b) (hj:j < cs.length):Ad (cs.set j v) (w.setCell ⟨b,j,none⟩ v) b:=by
 intro i u a;by_cases hij:j=i
 ·subst hij
  rw [List.getElem?_set_self hj] at a;injection a with a;subst a;exact World.cell?_setCell_same _ _ _ (h j _ (List.getElem?_eq_getElem hj))
 ·rw [List.getElem?_set_ne hij] at a
  rw [World.cell?_setCell_other _ _ _ _ (by intro e;injection e with d c;exact hij c)];exact h i u a
theorem Au {w:World} {b i k:Nat} (h:b≠k) (u:Value):(w.setCell ⟨b,i,none⟩ u).heap[k]? = w.heap[k]?:=by
 simp [World.setCell,Array.getElem?_modify,h]
theorem L5 {w:World} {b j:Nat} {u:Value}:w.grownBy (w.setCell ⟨b,j,none⟩ u) (some b):=
 ⟨rfl,rfl,rfl,by simp [World.setCell],fun k hk hne=>Au (fun e=>hne (by rw [e])) u⟩
theorem Ek {w w':World} {v:Value} {B:Nat} (h:w.grownBy w' v.ownBlock) (hv:∀ g,v.ownBlock=some g->B<=g) (hB:B<=w.heap.size):Below B w w':=
 ⟨h.os,h.tape,h.output,h.size,fun k hk=>h.block k (by omega) (fun e=>by have:=hv k e.symm;omega)⟩
def Cc (l:List (Int × Int)):List Value:=l.flatMap fun x=>[zd U x.1,zd U x.2]
theorem K0 (l:List (Int × Int)) (a k:Int):Cc (l++[(a,k)])=Cc l++[zd U a,zd U k]:=by simp [Cc]
def addF (a k:Int) (fl:List (Int × Int)):Bool->List (Int × Int)
 | true=>fl++[(a,k)]
 | false=>fl
def XJ (bj:Nat) (W:World) (k:Nat):Prop:=W.heap.size<=bj\/k=bj\/∃ v,W.cell? ⟨bj,11,none⟩=some v/\v.ownBlock=some k
theorem Al (bj:Nat):XOk (XJ bj):=⟨fun W W' hb k h=>by
 by_cases hlt:W.heap.size<=bj
 ·exact Or.inl hlt
 ·rcases h with h | h | ⟨v,hv,ho⟩
  ·exact absurd (Nat.le_trans hb.size h) hlt
  ·exact Or.inr (Or.inl h)
  ·refine Or.inr (Or.inr ⟨v,?_,ho⟩)
   rw [<-hv];exact (World.cell?_of_block (a:=⟨bj,11,none⟩) (hb.block bj (by omega))).symm⟩
structure AM (cs:List Value) (w0:World) (bj:Nat) (av:Value) (fl:List (Int × Int)) (fv:Value) (W:World):Prop where
 below:Ov w0 W
 row:Ad (cs++[av,fv]) W bj
 fz:∀ j,W.frozen? ⟨bj,j,none⟩=false
 own:W.ownsRow w0.heap.size 89 2 fv fl.length (Cc fl)
 ap:fv.ownBlock≠some bj
 lo:w0.heap.size<=bj/\bj < W.heap.size
 len:cs.length=10
theorem AM.c11 {cs:List Value} {w0:World} {bj:Nat} {av:Value} {fl:List (Int × Int)} {fv:Value} {W:World} (h:AM cs w0 bj av fl fv W):W.cell? ⟨bj,11,none⟩=some fv:=h.row 11 _ (by rw [List.getElem?_append_right (by rw [h.len];omega),h.len];rfl)
theorem AM.c10 {cs:List Value} {w0:World} {bj:Nat} {av:Value} {fl:List (Int × Int)} {fv:Value} {W:World} (h:AM cs w0 bj av fl fv W):W.cell? ⟨bj,10,none⟩=some av:=h.row 10 _ (by rw [List.getElem?_append_right (by rw [h.len];omega),h.len];rfl)
theorem AM.cw {cs:List Value} {w0:World} {bj:Nat} {av:Value} {fl:List (Int × Int)} {fv:Value} {W:World} (h:AM cs w0 bj av fl fv W):Ad cs W bj:=fun j u hu=>h.row j u (by rw [List.getElem?_append_left (List.getElem?_eq_some_iff.1 hu).1];exact hu)
theorem AM.over {cs:List Value} {w0:World} {bj:Nat} {av:Value} {fl:List (Int × Int)} {fv:Value} {W W':World} (h:AM cs w0 bj av fl fv W) (hb:Ov W W'):AM cs w0 bj av fl fv W':=
 ⟨h.below.trans (hb.mono h.below.size),h.row.over hb,fun j=>((An hb).2 _ _ h.lo.2).trans (h.fz j),h.own.kept (row:=none) ⟨hb.os,hb.tape,hb.output,hb.size,fun k hk _=>hb.block k hk⟩ (by cases fv.ownBlock <;> simp),h.ap,⟨h.lo.1,Nat.lt_of_lt_of_le h.lo.2 hb.size⟩,h.len⟩
theorem Pd {W:World} {B e s n:Nat} {v:Value} {xs:List Value} (h:W.ownsRow B e s v n xs):∀ g,v.ownBlock=some g->B<=g/\g < W.heap.size:=by
 intro g a;rcases h.2 with ⟨h,-⟩ | ⟨i,f,d,h,c,b,-⟩
 ·rw [h] at a;cases a
 ·rw [h] at a
  simp [Value.ownBlock] at a;subst a;exact ⟨c,(Array.getElem?_eq_some_iff.1 b).1⟩
theorem AM.xlt {cs:List Value} {w0:World} {bj:Nat} {av:Value} {fl:List (Int × Int)} {fv:Value} {W:World} (h:AM cs w0 bj av fl fv W):∀ k,XJ bj W k->w0.heap.size<=k/\k < W.heap.size:=by
 rintro k (c | rfl | ⟨v,a,b⟩)
 ·have:=h.lo.2;omega
 ·exact h.lo
 ·rw [h.c11] at a
  injection a with a;subst a;exact Pd h.own k b
theorem AM.add {cs:List Value} {w0:World} {bj:Nat} {av:Value} {fl:List (Int × Int)} {fv v':Value} {W W':World} {a k:Int} (h:AM cs w0 bj av fl fv W) (ho':W'.ownsRow w0.heap.size 89 2 v' (fl.length+1) (Cc fl++[zd U a,zd U k])) (hg:W.grownBy W' fv.ownBlock) (hat:v'.ownBlock=fv.ownBlock\/v'.ownBlock=some W.heap.size) :
  AM cs w0 bj av (fl++[(a,k)]) v' (W'.setCell ⟨bj,11,none⟩ v')/\FrW (XJ bj) W (W'.setCell ⟨bj,11,none⟩ v'):=by
 have i:W'.heap[bj]? = W.heap[bj]?:=hg.block bj h.lo.2 (fun e=>h.ap e.symm);have d:Ad (cs++[av,fv]) W' bj:=fun j u s=>(World.cell?_of_block (a:=⟨bj,j,none⟩) i).trans (h.row j u s);have q:Below w0.heap.size W W':=Ek hg (fun g e=>(Pd h.own g e).1) h.below.size;have f:v'.ownBlock≠some bj:=by
  rcases hat with e | e
  ·rw [e];exact h.ap
  ·rw [e];intro e;injection e with e;have:=h.lo.2;omega
 have c:(W'.setCell ⟨bj,11,none⟩ v').heap.size=W'.heap.size:=by simp [World.setCell]
 have b:Ad (cs++[av,v']) (W'.setCell ⟨bj,11,none⟩ v') bj:=by
  have:=BK (j:=11) (v:=v') d (by simp [h.len]);rw [List.set_append,if_neg (by rw [h.len];omega),h.len] at this;simpa using this
 have p:CE (W'.setCell ⟨bj,11,none⟩ v') bj 11 v':=b 11 _ (by rw [List.getElem?_append_right (by rw [h.len];omega),h.len];rfl);refine ⟨⟨(h.below.trans q).setCell h.lo.1 _,b,fun j=>?_,?_,f,⟨h.lo.1,?_⟩,h.len⟩,⟨?_,?_,?_,?_,?_,?_⟩⟩
 ·have t:(W'.setCell ⟨bj,11,none⟩ v').frozen? ⟨bj,j,none⟩=W'.frozen? ⟨bj,j,none⟩:=by simp [go_sem]
  rw [t,World.frozen?_of_block (a:=⟨bj,j,none⟩) i];exact h.fz j
 ·rw [K0,List.length_append]
  exact ho'.kept (row:=some bj) L5 (Or.inr f)
 ·rw [c];exact Nat.lt_of_lt_of_le h.lo.2 hg.size
 ·exact hg.os
 ·exact hg.tape
 ·exact hg.output
 ·rw [c];exact hg.size
 ·intro k r l
  have o:k≠bj:=fun e=>l (Or.inr (Or.inl e));rw [Au (Ne.symm o) v'];exact hg.block k r (fun e=>l (Or.inr (Or.inr ⟨fv,h.c11,e.symm⟩)))
 ·rintro k r (l | rfl | ⟨v,m,n⟩)
  ·rw [c] at l;have:=hg.size;have:=h.lo.2;omega
  ·exact Or.inr (Or.inl rfl)
  ·rw [p] at m
   injection m with m;subst m;rcases hat with e | e
   ·exact Or.inr (Or.inr ⟨fv,h.c11,by rw [<-e];exact n⟩)
   ·rw [e] at n;injection n with n;omega
theorem Ge (cs:List Value) (w0:World) (bj:Nat) (av:Value) (fl) (fv:Value) (a k:Int) (is:Bool) (bx ba:Nat) (W:World) (h:AM cs w0 bj av fl fv W) (hx:W.cell? ⟨bx,0,none⟩=some (zi (some ⟨bj,0,none⟩))) (ha:W.cell? ⟨ba,0,none⟩=some (zd U a)) (nx:¬ XJ bj W bx) (na:¬ XJ bj W ba) (hl:fl.length<=1000) :
  Calls Tryz.prog 149 #[zd U k,zg is,zi (some ⟨bx,0,none⟩),zi (some ⟨ba,0,none⟩)] W fun e W'=>e=zj (zk #[])/\(∃ fv',AM cs w0 bj av (addF a k fl is) fv' W')/\FrW (XJ bj) W W':=by
 cases is with
 | false=>
  go_enter Tryz.func149,Tryz.ntmps149;go_wp2_with fail;go_end0;exact ⟨rfl,⟨fv,h⟩,FrW.refl _⟩
 | true=>
  obtain ⟨N,H,A,z,y⟩:=info_parts Tryz.infoFt;obtain ⟨V,S,T,rfl⟩:=AE h.own;have j:Ov W (W.drew.alloc (ze #[zd U a,zd U k] 89)):=(bD W).alloc (Nat.le_refl _) _;have d:=h.over j;have I:=Ad.new [zd U a,zd U k] 89 W.drew;have E:w0.heap.size<=(W.drew.alloc (ze #[zd U a,zd U k] 89)).heap.size:=d.below.size;obtain ⟨R,t,s,i,f,-,B⟩:=run_append_own_at (P:=Tryz.prog) (w:=W.drew.alloc (ze #[zd U a,zd U k] 89)) w0.heap.size 79 79 89 N (zh #[zd U 0,zd U 0]) 2 16 Tryz.underlying79 H A z y rfl (by decide) _ _ _ d.own ⟨W.drew.heap.size,0,none⟩ 1 1 [zd U a,zd U k] rfl (fun M u Q=>by rw [Addr.add_lit,Nat.zero_add];exact I M u Q) (by simp [Value.oneCell']) (by unfold maxLen;omega) (by omega) E;obtain ⟨r,p,q,rfl⟩:=AE i;have g:=d.add i f B;have G:=h.c11;have F:=d.c11;have L:=Ab (bA W (ze #[zd U a,zd U k] 89)) _ _ G;have Y:=f.cell F (fun hx=>d.ap hx.symm);have X:t.frozen? ⟨bj,11,none⟩=false:=(World.frozen?_of_block (a:=⟨bj,11,none⟩) (f.block bj d.lo.2 (fun hx=>d.ap hx.symm))).trans (d.fz 11);have v:¬ XJ bj (W.drew.alloc (ze #[zd U a,zd U k] 89)) bx:=fun e=>nx ((Al bj).below _ _ j _ e);have x:¬ XJ bj (W.drew.alloc (ze #[zd U a,zd U k] 89)) ba:=fun e=>na ((Al bj).below _ _ j _ e);have D:CE W.drew bx 0 (zi (some ⟨bj,0,none⟩))/\CE W.drew ba 0 (zd U a):=⟨hx,ha⟩;have l:CE (W.drew.alloc (ze #[zd U a,zd U k] 89)) bx 0 (zi (some ⟨bj,0,none⟩))/\CE (W.drew.alloc (ze #[zd U a,zd U k] 89)) ba 0 (zd U a):=⟨Ab j _ _ hx,Ab j _ _ ha⟩;have n:CE t bx 0 (zi (some ⟨bj,0,none⟩))/\CE t ba 0 (zd U a):=⟨f.cell l.1 (fun e=>v (Or.inr (Or.inr ⟨_,d.c11,e.symm⟩))),f.cell l.2 (fun e=>x (Or.inr (Or.inr ⟨_,d.c11,e.symm⟩)))⟩;have C:CE (t.setCell ⟨bj,11,none⟩ (O r p q)) bx 0 (zi (some ⟨bj,0,none⟩))/\CE (t.setCell ⟨bj,11,none⟩ (O r p q)) ba 0 (zd U a):=⟨g.2.cell l.1 v,g.2.cell l.2 x⟩;have m:Hx (AM cs w0 bj av (fl++[(a,k)]) (O r p q) (t.setCell ⟨bj,11,none⟩ (O r p q))/\FrW (XJ bj) W (t.setCell ⟨bj,11,none⟩ (O r p q))):=⟨g.1,(FrW.of_below (Al bj) j).trans g.2⟩;clear g i f B I E d h nx na v x j H A z y;go_enter Tryz.func149,Tryz.ntmps149;go_wp2_with fail;refine gS (fun J=>CE J bx 0 (zi (some ⟨bj,0,none⟩))/\CE J ba 0 (zd U a)) (D) fun b=>?_;refine kT 0 ?_;refine kT 1 ?_;refine kT 2 ?_;refine kT 3 ?_;refine kT 5 ?_;refine kT 6 ?_;refine kT 7 ?_;refine rdB 4 8 rfl (fun K c=>?_) rfl fun K c=>?_
  ·go_simp
   refine xK c (D) fun b=>?_;refine rdA 8 rfl fun K c=>?_;go_simp;refine xK c (l) fun b=>?_;refine rdA 9 rfl fun K c=>?_;refine Db rfl _ _ _ rfl _ _ _ _ rfl rfl s ?_;refine xK c (n) fun b=>?_;refine rdA 10 rfl fun K c=>?_;go_simp;refine xK c (n) fun b=>?_;refine rdA 11 rfl fun K c=>?_;go_simp;refine xK c (n) fun b=>?_;refine rdA 12 rfl fun K c=>?_;go_simp;refine xK c (C) fun b=>?_;refine gE ?_;go_end0;exact ⟨rfl,⟨_,m.o.1⟩,m.o.2⟩
  ·go_simp
   refine xK c (l) fun b=>?_;refine rdA 4 rfl fun K c=>?_;go_simp;refine xK c (l) fun b=>?_;refine rdA 9 rfl fun K c=>?_;refine Db rfl _ _ _ rfl _ _ _ _ rfl rfl s ?_;refine xK c (n) fun b=>?_;refine rdA 10 rfl fun K c=>?_;go_simp;refine xK c (n) fun b=>?_;refine rdA 11 rfl fun K c=>?_;go_simp;refine xK c (n) fun b=>?_;refine rdA 12 rfl fun K c=>?_;go_simp;refine xK c (C) fun b=>?_;refine gE ?_;go_end0;exact ⟨rfl,⟨_,m.o.1⟩,m.o.2⟩
structure JSt (c:WC) (w0:World) (gs:List (Int × Int)) (Ls Fs:List Lev):Prop where
 n1:1<=c.n
 n6:c.n<=6
 gr:AA w0 (O c.ga c.gn c.gc) gs
 chk:AR c.n gs=0
 levs:BW w0 (O c.la c.ln c.lc) Ls
 lens:∀ x∈Ls,x.len c.n
 flevs:BW w0 (O c.ka c.kn c.kc) Fs
 flens:∀ x∈Fs,x.len c.n
 l16:Ls.length<=16
theorem DY (c:WC) (gs) (v u:Value) (l k) (w:World) (hg:AA w (O c.ga c.gn c.gc) gs) (hE:AR c.n gs=0) (hl:A3 w v l) (hll:l.len c.n) (hk:A3 w u k) (hkl:k.len c.n) :
  Calls Tryz.prog 57 #[c.v,v,u] w fun e w'=>e=zj (zg (Av l k c.n))/\Ov w w':=by
 obtain ⟨x,y,rfl,-⟩:=id hl;obtain ⟨b,a,rfl,-⟩:=id hk;exact PC (c.n:Int) c.ga c.gn c.gc c.sa c.sn c.sc c.ya c.yn c.yc c.oa c.on c.oc c.va c.vn c.vc c.fa c.fn c.fc c.ba c.bn c.bc c.la c.ln c.lc c.ka c.kn c.kc gs x y b a l k w hg hl hk (EP hE hll hkl)
theorem RC (c:WC) (gs) (v u:Value) (l k) (w:World) (hg:AA w (O c.ga c.gn c.gc) gs) (hE:AR c.n gs=0) (hl:A3 w v l) (hll:l.len c.n) (hk:A3 w u k) (hkl:k.len c.n) :
  Calls Tryz.prog 58 #[c.v,v,u] w fun e w'=>∃ vj,e=zj vj/\A1 w w' vj (BA l k c.n)/\Ov w w':=by
 obtain ⟨x,y,rfl,-⟩:=id hl;obtain ⟨b,a,rfl,-⟩:=id hk;exact MY (c.n:Int) c.ga c.gn c.gc c.sa c.sn c.sc c.ya c.yn c.yc c.oa c.on c.oc c.va c.vn c.vc c.fa c.fn c.fc c.ba c.bn c.bc c.la c.ln c.lc c.ka c.kn c.kc gs x y b a l k w hg hl hk (EP hE hll hkl)
theorem Hh (c:WC) (gs) (pr pw:Value) (b:Lab) (w:World) (hg:AA w (O c.ga c.gn c.gc) gs) (hl:AL w pr b.r) (hk:AL w pw b.w) (h2:Bb c.n gs b=0) :
  Calls Tryz.prog 114 #[c.v,zh #[pr,pw]] w fun e w'=>∃ vj,e=zj vj/\A1 w w' vj (Ar (Ax gs) c.n b)/\Ov w w':=
 LN (c.n:Int) c.ga c.gn c.gc c.sa c.sn c.sc c.ya c.yn c.yc c.oa c.on c.oc c.va c.vn c.vc c.fa c.fn c.fc c.ba c.bn c.bc c.la c.ln c.lc c.ka c.kn c.kc gs pr pw b w hg hl hk h2
theorem Fh {w0:World} {ao:Option Addr} {an ac:Nat} {Ls:List Lev} {i:Nat} (h:BW w0 (O ao an ac) Ls) (hi:i < Ls.length):∃ b o a1 a2 a3 a4 a5 a6,ao=some ⟨b,o,none⟩/\an=Ls.length/\w0.cell? ⟨b,o+i*2,none⟩=some (O a1 a2 a3)/\w0.cell? ⟨b,o+i*2+1,none⟩=some (O a4 a5 a6)/\A3 w0 (zh #[O a1 a2 a3,O a4 a5 a6]) Ls[i]:=by
 obtain ⟨m,j,e,a⟩:=h;injection e with g f q;obtain ⟨b,o,c,a⟩:=a (by rintro rfl;simp at hi);obtain ⟨p,n,l,k,d⟩:=a i hi;obtain ⟨a1,a2,a3,a4,a5,a6,rfl,rfl⟩:=AX d;exact ⟨b,o,a1,a2,a3,a4,a5,a6,g.trans c,f,l,k,d⟩
abbrev OC (bj:Nat) (c:WC) (bl ol:Nat) (W:World) (p1:Option Addr) (q1 r1:Nat) (p2:Option Addr) (q2 r2 i:Nat) (a1:Option Addr) (a2 a3:Nat) (a4:Option Addr) (a5 a6:Nat) (Wz:World):Prop:=Wz.cell? ⟨bj,0,none⟩=some (zd U (c.n:Int))/\CE Wz bj 1 (O c.ga c.gn c.gc)/\CE Wz bj 2 (O c.sa c.sn c.sc)/\CE Wz bj 3 (O c.ya c.yn c.yc)/\CE Wz bj 4 (O c.oa c.on c.oc)/\CE Wz bj 5 (O c.va c.vn c.vc)/\CE Wz bj 6 (O c.fa c.fn c.fc)/\CE Wz bj 7 (O c.ba c.bn c.bc)/\CE Wz bj 8 (O (some ⟨bl,ol,none⟩) c.ln c.lc)/\CE Wz bj 9 (O c.ka c.kn c.kc)/\CE Wz W.heap.size 0 (O p1 q1 r1)/\CE Wz W.heap.size 1 (O p2 q2 r2)/\CE Wz bl (ol+i*2) (O a1 a2 a3)/\CE Wz bl (ol+i*2+1) (O a4 a5 a6)
theorem FA (c) (w0:World) (bj:Nat) (av:Value) (fl) (fv:Value) (gs Ls Fs) (J:JSt c w0 gs Ls Fs) (v:Value) (l) (i:Nat) (W:World) (h:AM c.cs w0 bj av fl fv W) (hl:A3 W v l) (hll:l.len c.n) (hi:i < Ls.length) :
  Calls Tryz.prog 150 #[zi (some ⟨bj,0,none⟩),v,zd U (i:Int)] W fun e W'=>e=zj (zg (Av l Ls[i] c.n))/\Ov W W':=by
 obtain ⟨C,z,L,I,H,G,F,E,t,s,T,S,V⟩:=Fh J.levs hi;obtain ⟨p,k,g,m,j,f,rfl⟩:∃ p k g m j f,v=D #[O p k g,O m j f]:=by
  obtain ⟨x,y,rfl,-⟩:=id hl;obtain ⟨p,k,g,m,j,f,rfl,rfl⟩:=AX hl;exact ⟨_,_,_,_,_,_,rfl⟩
 have u:Ov W (W.alloc (ze #[O p k g,O m j f] 50)):=bA W _;have b:=h.over u;have q:=Ad.new [O p k g,O m j f] 50 W;have d:=b.below;have A:c.v=D #[zd U (c.n:Int),O c.ga c.gn c.gc,O c.sa c.sn c.sc,O c.ya c.yn c.yc,O c.oa c.on c.oc,O c.va c.vn c.vc,O c.fa c.fn c.fc,O c.ba c.bn c.bc,O (some ⟨C,z,none⟩) c.ln c.lc,O c.ka c.kn c.kc]:=by show Value.agg #[zd U (c.n:Int),O c.ga c.gn c.gc,O c.sa c.sn c.sc,O c.ya c.yn c.yc,O c.oa c.on c.oc,O c.va c.vn c.vc,O c.fa c.fn c.fc,O c.ba c.bn c.bc,O c.la c.ln c.lc,O c.ka c.kn c.kc]=_;rw [t]
 have X:Hx (∀ (W2:World),Ov (W.alloc (ze #[O p k g,O m j f] 50)) W2->Calls Tryz.prog 57 #[D #[zd U (c.n:Int),O c.ga c.gn c.gc,O c.sa c.sn c.sc,O c.ya c.yn c.yc,O c.oa c.on c.oc,O c.va c.vn c.vc,O c.fa c.fn c.fc,O c.ba c.bn c.bc,O (some ⟨C,z,none⟩) c.ln c.lc,O c.ka c.kn c.kc],D #[O p k g,O m j f],D #[O L I H,O G F E]] W2 fun e Y=>e=zj (zg (Av l Ls[i] c.n))/\Ov W2 Y):=fun W2 a=>by
  have:=DY c gs _ _ l Ls[i] W2 (Af J.gr (d.trans (a.mono d.size))) J.chk (AK (AK hl u) a) hll (AK V (d.trans (a.mono d.size))) (J.lens _ (List.getElem_mem hi));rw [A] at this;exact this
 have w:OC bj c C z W p k g m j f i L I H G F E (W.alloc (ze #[O p k g,O m j f] 50)):=⟨b.cw 0 _ rfl,b.cw 1 _ rfl,b.cw 2 _ rfl,b.cw 3 _ rfl,b.cw 4 _ rfl,b.cw 5 _ rfl,b.cw 6 _ rfl,b.cw 7 _ rfl,by rw [<-t];exact b.cw 8 _ rfl,b.cw 9 _ rfl,q 0 _ rfl,q 1 _ rfl,Ab d _ _ T,Ab d _ _ S⟩;have HS:Hx (∀ W2,Ov (W.alloc (ze #[O p k g,O m j f] 50)) W2->OC bj c C z W p k g m j f i L I H G F E W2):=fun W2 a=>by
  obtain ⟨s0,s1,s2,s3,s4,s5,s6,s7,s8,s9,Q,P,N,M⟩:=w;exact ⟨Ab a _ _ s0,Ab a _ _ s1,Ab a _ _ s2,Ab a _ _ s3,Ab a _ _ s4,Ab a _ _ s5,Ab a _ _ s6,Ab a _ _ s7,Ab a _ _ s8,Ab a _ _ s9,Ab a _ _ Q,Ab a _ _ P,Ab a _ _ N,Ab a _ _ M⟩
 have ao:(i:Int) < (c.ln:Int):=by rw [s];omega
 have an:c.ln<=16:=by rw [s];exact J.l16
 obtain ⟨t0,t1,t2,t3,t4,t5,t6,t7,t8,t9,ac,ab,aa,Z⟩:=id w;generalize hfb:Av l Ls[i] c.n=fb at X ⊢;clear J h b hl hll q d V T S hfb A t s;go_enter Tryz.func150,Tryz.ntmps150;go_wp2_with fail;refine gS (OC bj c C z W p k g m j f i L I H G F E) (w) fun r=>?_;refine kT 0 ?_;refine kT 1 ?_;refine kT 2 ?_;refine kT 3 ?_;refine kT 4 ?_;refine kT 5 ?_;refine kT 6 ?_;refine kT 7 ?_;refine kT 8 ?_;refine kT 9 ?_;refine kT 10 ?_;refine kT 11 ?_;refine kT 12 ?_;refine kT 13 ?_;refine rdA 14 rfl fun K R=>?_;go_simp;refine (X.o _ (bD _)).mono ?_;rintro e W2 ⟨rfl,a⟩;have B:=HS.o W2 (Ac (bD _) a);go_simp;refine xK R (B) fun r=>?_;refine rdA 15 rfl fun K R=>?_;go_simp;refine xK R (B) fun r=>?_;refine gE ?_;go_wp2_with fail;go_ret;exact ⟨rfl,Ac u (Ac (bD _) a)⟩
section
variable {α:Type}
def GH (p:α->Bool) (l:List α):Int:=match l.findIdx? p with | some i=>i | none=>-1
theorem JB {p:α->Bool} {l:List α} {k:Nat} (hk:k < l.length) (h:(l.take k).all (fun g=>!p g)=true) (hp:p l[k]=true):GH p l=k:=by
 have:l.findIdx? p=some k:=by
  rw [List.findIdx?_eq_some_iff_getElem];refine ⟨hk,hp,fun j a=>?_⟩;have:=List.all_eq_true.1 h l[j] (List.mem_take_iff_getElem.2 ⟨j,by omega,rfl⟩);simpa using this
 simp [GH,this]
theorem F6 {p:α->Bool} {l:List α} (h:l.all (fun g=>!p g)=true):GH p l=-1:=by
 have:l.findIdx? p=none:=by
  rw [List.findIdx?_eq_none_iff];intro x a;have:=List.all_eq_true.1 h x a;simpa using this
 simp [GH,this]
theorem Hu (p:α->Bool) (l:List α):decide (0<=GH p l)=l.any p:=by
 unfold GH;cases h:l.findIdx? p with
 | none=>
  have:l.any p=false:=by rw [List.any_eq_false];intro x a;have:=(List.findIdx?_eq_none_iff.1 h) x a;simpa using this
  rw [this];rfl
 | some i=>
  obtain ⟨c,b,_⟩:=List.findIdx?_eq_some_iff_getElem.1 h;have:l.any p=true:=List.any_eq_true.2 ⟨_,List.getElem_mem c,b⟩;rw [this];simp
end
theorem Qo (F:FuncId) (cap:List Value) (p:Int->Bool) (v:Value) (l) (w:World) (hv:AN w v l) (hn:l.length<=6)
  (hF:Hx (∀ (i:Nat) (h:i < l.length) (w1:World),Ov w w1->Calls Tryz.prog F (zd U l[i]::cap).toArray w1 fun e w2=>e=zj (zg (p l[i]))/\Ov w1 w2))
  (hC:∀ (args:Array Value) (w:World),(callFunc F args).run Tryz.prog w=.ok (.enter F args) w) :
  Calls Tryz.prog 190 #[v,.func (.func F) #[] cap.toArray] w fun e w'=>e=zj (zd U (GH p l))/\Ov w w':=by
 obtain ⟨K,J,rfl,m⟩:=hv;go_enter Tryz.func190,Tryz.ntmps190;go_wp2_with fail;go_loopw [8] (fun i wr=>∃ k:Nat,k<=l.length/\i=zd U k/\(l.take k).all (fun g=>!p g)=true/\Ov w wr) (fun i _=>l.length - (intOf i).toNat)
 case atStart=>exact ⟨0,Nat.zero_le _,rfl,rfl,Below.refl _ w⟩
 case round=>
  obtain ⟨k,H,rfl,d,a⟩:=hrel;by_cases hkl:k < l.length
  ·obtain ⟨b,C,rfl,t⟩:=m (by rintro rfl;simp at hkl)
   have u:=t k hkl;have y:=bL u;rw [<-(An a).1 _ _ y] at u;have c:=hF.o k hkl;have q:=fun (x:p l[k]=true)=>JB hkl d x;have j:p l[k]=false->(l.take (k+1)).all (fun g=>!p g)=true:=fun x=>by
    rw [List.take_succ_eq_append_getElem hkl,List.all_append,d];simp [x]
   obtain ⟨r,A⟩:=nm (p l[k]);rw [<-A] at c q j;obtain ⟨I,s⟩:=nm (l[k]);rw [<-s] at u c;clear s;have B:=Aa c;have G:=Aa q;have E:=Aa j;clear A c q j t m hF;cases r with
   | true=>
    go_wp2_with fail;refine (B.o _ a).mono ?_;rintro e w2 ⟨rfl,n⟩;have f:Ov w w2:=a.trans (n.mono a.size);go_wp2_with fail;go_ret;exact ⟨by rw [G.o (by first | rfl | trivial)];rfl,f⟩
   | false=>
    go_wp2_with fail;refine (B.o _ a).mono ?_;rintro e w2 ⟨rfl,n⟩;have f:Ov w w2:=a.trans (n.mono a.size);go_wp2_with fail;exact ⟨⟨k+1,by omega,by go_num,E.o (by first | rfl | trivial),f⟩,by simp [intOf];omega⟩
  ·have z:k=l.length:=by omega
   rw [z,List.take_length] at d;have D:=F6 d;clear d m hF;go_wp2_with fail;go_ret;exact ⟨by rw [D];rfl,a⟩
theorem H5 (F:FuncId) (cap:List Value) (p:Int->Bool) (v:Value) (l) (w:World) (hv:AN w v l) (hn:l.length<=6)
  (hF:Hx (∀ (i:Nat) (h:i < l.length) (w1:World),Ov w w1->Calls Tryz.prog F (zd U l[i]::cap).toArray w1 fun e w2=>e=zj (zg (p l[i]))/\Ov w1 w2))
  (hC:∀ (args:Array Value) (w:World),(callFunc F args).run Tryz.prog w=.ok (.enter F args) w) :
  Calls Tryz.prog 124 #[v,.func (.func F) #[] cap.toArray] w fun e w'=>e=zj (zg (l.any p))/\Ov w w':=by
 have c:=Qo F cap p v l w hv hn hF hC;have a:=Hu p l;obtain ⟨r,d⟩:=nm (GH p l);rw [<-d] at c a;rw [<-a];have f:=Aa c;clear c a d hv hC hF;go_enter Tryz.func124,Tryz.ntmps124;go_wp2_with fail;refine (f.o).mono ?_;rintro e w1 ⟨rfl,b⟩;go_wp2_with fail;go_ret;exact ⟨by simp,b⟩
theorem Qm (F:FuncId) (cap:List Value) (p:Pol->Bool) (v:Value) (l:List Pol) (w:World) (hv:AL w v l) (hn:l.length<=6)
  (hF:Hx (∀ (i:Nat) (h:i < l.length) (w1:World),Ov w w1->∀ nv,AN w1 nv l[i].names->Calls Tryz.prog F (zh #[zd U l[i].owner,nv]::cap).toArray w1 fun e w2=>e=zj (zg (p l[i]))/\Ov w1 w2))
  (hC:∀ (args:Array Value) (w:World),(callFunc F args).run Tryz.prog w=.ok (.enter F args) w) :
  Calls Tryz.prog 247 #[v,.func (.func F) #[] cap.toArray] w fun e w'=>e=zj (zd U (GH p l))/\Ov w w':=by
 obtain ⟨P,O,rfl,m⟩:=hv;go_enter Tryz.func247,Tryz.ntmps247;go_wp2_with fail;go_loopw [8] (fun i wr=>∃ k:Nat,k<=l.length/\i=zd U k/\(l.take k).all (fun g=>!p g)=true/\Ov w wr) (fun i _=>l.length - (intOf i).toNat)
 case atStart=>exact ⟨0,Nat.zero_le _,rfl,rfl,Below.refl _ w⟩
 case round=>
  obtain ⟨k,M,rfl,d,a⟩:=hrel;by_cases hkl:k < l.length
  ·obtain ⟨b,G,rfl,u⟩:=m (by rintro rfl;simp at hkl)
   obtain ⟨x,nv,B,s⟩:=u k hkl;obtain ⟨x,B⟩:=co2 a x B;obtain ⟨L,K,z,-⟩:=id s;subst z;have c:=fun (w1:World) (D:Ov w w1)=>hF.o k hkl w1 D _ (BT s D);have q:=fun (y:p l[k]=true)=>JB hkl d y;have j:p l[k]=false->(l.take (k+1)).all (fun g=>!p g)=true:=fun y=>by
    rw [List.take_succ_eq_append_getElem hkl,List.all_append,d];simp [y]
   obtain ⟨r,C⟩:=nm (p l[k]);rw [<-C] at c q j;obtain ⟨N,t⟩:=nm (l[k].owner);rw [<-t] at x c;clear t;have E:=Aa c;have J:=Aa q;have I:=Aa j;clear C c q j u m hF;cases r with
   | true=>
    go_wp2_with fail;refine (E.o _ a).mono ?_;rintro e w2 ⟨rfl,n⟩;have f:Ov w w2:=a.trans (n.mono a.size);go_wp2_with fail;go_ret;exact ⟨by rw [J.o (by first | rfl | trivial)];rfl,f⟩
   | false=>
    go_wp2_with fail;refine (E.o _ a).mono ?_;rintro e w2 ⟨rfl,n⟩;have f:Ov w w2:=a.trans (n.mono a.size);go_wp2_with fail;exact ⟨⟨k+1,by omega,by go_num,I.o (by first | rfl | trivial),f⟩,by simp [intOf];omega⟩
  ·have A:k=l.length:=by omega
   rw [A,List.take_length] at d;have H:=F6 d;clear d m hF;go_wp2_with fail;go_ret;exact ⟨by rw [H];rfl,a⟩
theorem Mg (F:FuncId) (cap:List Value) (p:Pol->Bool) (v:Value) (l:List Pol) (w:World) (hv:AL w v l) (hn:l.length<=6)
  (hF:Hx (∀ (i:Nat) (h:i < l.length) (w1:World),Ov w w1->∀ nv,AN w1 nv l[i].names->Calls Tryz.prog F (zh #[zd U l[i].owner,nv]::cap).toArray w1 fun e w2=>e=zj (zg (p l[i]))/\Ov w1 w2))
  (hC:∀ (args:Array Value) (w:World),(callFunc F args).run Tryz.prog w=.ok (.enter F args) w) :
  Calls Tryz.prog 235 #[v,.func (.func F) #[] cap.toArray] w fun e w'=>e=zj (zg (l.any p))/\Ov w w':=by
 have c:=Qm F cap p v l w hv hn hF hC;have a:=Hu p l;obtain ⟨r,d⟩:=nm (GH p l);rw [<-d] at c a;rw [<-a];have f:=Aa c;clear c a d hv hC hF;go_enter Tryz.func235,Tryz.ntmps235;go_wp2_with fail;refine (f.o).mono ?_;rintro e w1 ⟨rfl,b⟩;go_wp2_with fail;go_ret;exact ⟨by simp,b⟩
end Go.Proofs.YtfffpjkcfnekaaaGreat.Ex
