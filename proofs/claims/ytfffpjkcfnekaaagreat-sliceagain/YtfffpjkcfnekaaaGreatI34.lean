/- A program that passes is right by the document's answer, too. -/
import Derived.Test.YtfffpjkcfnekaaaGreatI32
import Derived.Test.YtfffpjkcfnekaaaGreatI33
set_option linter.unusedVariables false
set_option maxHeartbeats 8000000
set_option maxRecDepth 100000
namespace Go.Proofs.YtfffpjkcfnekaaaGreat.Ex
open Go.RowKit
open Go.Value renaming slice -> O, int -> zd, bool -> zg, agg -> zh, pointer -> zj, tuple -> zm
open Go.IntKind renaming i64 -> U
open Go.Obj renaming cells -> ze
open Go.Ending renaming returned -> zk
theorem Nw (K kf:Nat) (m:Int) (ga gn gc sa sn sc ya yn yc oa on oc va vn vc fa fn fc ba bn bd gs sp ls ms vs fs l) (w:World) (h:Bg K kf m ga gn gc sa sn sc ya yn yc oa on oc va vn vc fa fn fc ba bn bd gs sp ls ms vs fs l w) (hX:Ey.xP K kf m vn yn on sn gs sp ls ms vs fs l) :
  Calls Tryz.prog 37 #[zh #[zd U m,O ga gn gc,O sa sn sc,O ya yn yc,O oa on oc,O va vn vc,O fa fn fc,O ba bn bd]] w fun e w'=>e=zk (zd U 0)/\Ov w w':=by
 obtain ⟨n0,hp,ho,hn,-⟩:=Fh hX.chk;have dk:1<=m/\m<=6:=by omega
 obtain ⟨i0,hi,g0,bp,bo⟩:=info_parts Tryz.infoLaN;have B:=Aa (Cr h);have c8:=hX.lim;have Z:=Aa c8;have fh:Hx (∀ X,Ov w X->Calls Tryz.prog 93 #[zh #[zd U m,O ga gn gc]] X fun e w'=>e=zk (zd U 0)/\Ov X w'):=fun X hb=>by
  have A:=I1 m (O ga gn gc) gs X (Aj h.grants hb);rw [hX.chk] at A;exact A
 have ig:Hx (∀ X x,0<=x->x < m->Calls Tryz.prog 25 #[zh #[zd U m,O ga gn gc],zd U x] X fun e w'=>e=zk (zg true)/\Ov X w'):=fun X x h0 A=>by
  have h2:=Dy m x dk (O ga gn gc) X;rw [show A9 m x=true by unfold A9;simp [h0,A]] at h2;exact h2
 have ie:Hx (∀ X (b:Lab) (a:Option Addr) (c:Nat) (a2:Option Addr) (c2:Nat),Ov w X->Bs m gs b=0->Au w (O a b.r.length c) b.r->Au w (O a2 b.w.length c2) b.w->Calls Tryz.prog 94 #[zh #[zd U m,O ga gn gc],zh #[O a b.r.length c,O a2 b.w.length c2]] X fun e w'=>e=zk (zd U 0)/\Ov X w'):=fun X b a c a2 c2 e7 hb A h2=>by
  have h3:=Hp m dk (O ga gn gc) (O a b.r.length c) (O a2 b.w.length c2) b X (Ah A e7) (Ah h2 e7);have h4:F2 m b=0:=by unfold Bs at hb;rw [if_pos hX.chk] at hb;exact hb
  rw [h4] at h3;exact h3
 have ff:Hx (∀ X,Ov w X->∀ v l,AI w K kf v l->Ey.dps kf 1 l->Ai kf l<=50->Calls Tryz.prog 95 #[v,zd U 1] X fun e w'=>e=zk (zd U (Ai kf l:Nat))/\Ov X w'):=fun X hb v l A h2 h3=>RC K kf v l 1 X (A.over hb) h2 h3 (by omega) (by omega);have fe:Hx (∀ X,Ov w X->∀ funcs:Int,0<=funcs->funcs<=fs.length->∀ v l,AI w K kf v l->(∀ s∈l,Ey.xS K vn yn on funcs fs kf s)->Calls Tryz.prog 96 #[zh #[zd U m,O ga gn gc,O sa sn sc,O ya yn yc,O oa on oc,O va vn vc,O fa fn fc,O ba bn bd],zd U funcs,v] X fun e w'=>e=zk (zd U 0)/\Ov X w'):=fun X hb funcs h0 A v l h2 h3=>
  LU K kf m ga gn gc sa sn sc ya yn yc oa on oc va vn vc fa fn fc ba bn bd fs funcs ⟨h0,A,by omega⟩ ⟨by omega,by omega,by omega⟩ (fun f hf=>by obtain ⟨i,hi,rfl⟩:=List.getElem_of_mem hf;exact (hX.body i hi).1) w h.funcs kf v l X h2 hb h3
 obtain ⟨v1,eo⟩:=nm ((vn:Int) - 1);have kp:IntKind.i64.wrap ((vn:Int) - 1)=v1:=by rw [IntKind.wrap_i64];omega
 have ip:=Aa eo;have fw:=Aa h.funcs;have cf:=Aa h.vars;have fv:=Aa h.ins;have dz:=Aa h.outs;have ir:=Aa h.speak;have ch:=Aa h.main;have fi:=Aa hX.speak;have i3:=Aa hX.labs.2.2;have d0:Hx (∀ b∈ls++ms++vs.map Prod.snd,Bs m gs b=0):=fun b hb=>by
  rcases List.mem_append.1 hb with hb | hb
  ·exact hX.labs.1 b hb
  ·obtain ⟨v,hv,rfl⟩:=List.mem_map.1 hb
   exact hX.labs.2.1 v hv
 have ii:=Aa hX.body;have ih:=Aa hX.main;have fy:=Aa hX.many.2;have a1:Hx (Ap kf fs+Ai kf l<=50):=by have A:=hX.many.1;show _<=_;omega
 have g1:decide ((16:Int) < (vn:Int))=false:=by simp;omega
 have g2:decide ((5:Int) < (yn:Int))=false:=by simp;omega
 have g3:decide ((5:Int) < (on:Int))=false:=by simp;omega
 have g4:decide ((5:Int) < (fn:Int))=false:=by have A:=B.o;simp;omega
 have g5:decide (m < (sn:Int))=false:=by simp;omega
 have C:Ov w (w.alloc (ze #[zd U m,O ga gn gc,O sa sn sc,O ya yn yc,O oa on oc,O va vn vc,O fa fn fc,O ba bn bd] 31)):=bA w _;obtain ⟨V,hV⟩:=nm (w.alloc (ze #[zd U m,O ga gn gc,O sa sn sc,O ya yn yc,O oa on oc,O va vn vc,O fa fn fc,O ba bn bd] 31));have dg:Ad [zd U m,O ga gn gc,O sa sn sc,O ya yn yc,O oa on oc,O va vn vc,O fa fn fc,O ba bn bd] V w.heap.size:=by rw [hV];exact AP w [zd U m,O ga gn gc,O sa sn sc,O ya yn yc,O oa on oc,O va vn vc,O fa fn fc,O ba bn bd] 31
 rw [<-hV] at C;obtain ⟨p0,p1,p2,p3,p4,p5,p6,p7⟩:=rc8 dg;have it:=Aa dg;have d5:=Aa C;have g8:vn<=16:=by omega
 have jp:fn<=5:=by have A:=B.o;omega
 have jl:sn<=6:=by omega
 clear h hX hp ho hn dk c8 eo C dg;go_enter Tryz.func37,Tryz.ntmps37;go_wp2_with fail;rw [<-hV];clear hV;refine (fh.o _ d5.o).mono ?_;rintro e W1 ⟨rfl,C⟩;have fp:=Aa (it.o.over C);have jf:Hx (Ov w W1):=d5.o.trans (C.mono d5.o.size);obtain ⟨p0,p1,p2,p3,p4,p5,p6,p7⟩:=rc8 fp.o;clear C fh;go_wp2_with fail;go_loopw [4] (fun i wr=>∃ j:Nat,j<=sn/\i=zd U j/\Ad [zd U m,O ga gn gc,O sa sn sc,O ya yn yc,O oa on oc,O va vn vc,O fa fn fc,O ba bn bd] wr w.heap.size/\Ov w wr) (fun i _=>sn - (intOf i).toNat)
 case atStart=>exact ⟨0,Nat.zero_le _,rfl,fp.o,jf.o⟩
 case round=>
  obtain ⟨j,hj,rfl,t,z⟩:=hrel;obtain ⟨p0,p1,p2,p3,p4,p5,p6,p7⟩:=rc8 t;by_cases hlt:j < sn
  ·have cp:j < sp.length:=by have A:=B.o;omega
   obtain ⟨j9,ji,hc,c5⟩:=ir.o;injection hc with f1 f2 f3;obtain ⟨sb,eh,c6,b4⟩:=c5 (by intro hh;rw [hh] at cp;simp at cp);have hd:sa=some ⟨sb,eh,none⟩:=f1.trans c6;subst hd;have Y:=Ab z _ _ (b4 j cp);have hx:=fi.o _ (List.getElem_mem cp);obtain ⟨xs,el⟩:=nm sp[j];rw [<-el] at Y hx;have g7:=hx.1;have g6:=hx.2;have b8:(j:Int) < (sn:Int):=by omega
   have dx:=Aa t;have bt:=Aa z;clear f2 f3 c6 f1 c5 b4 el hx t z;go_wp2_with fail;refine gS (fun Wz=>Below wr.heap.size wr Wz) (Below.refl _ _).drew fun d=>?_;generalize wr.drew=W at d ⊢;refine kO 0 ?_;refine kO 1 ?_;refine kO 2 ?_;refine kO 3 ?_;refine kO 4 ?_;refine kO 5 ?_;refine kO 6 ?_;refine rdA 7 rfl fun K hK=>?_;go_simp;refine (ig.o _ _ g7 g6).mono ?_;rintro e W8 ⟨rfl,cc⟩;have an:Hx (Ov wr W8):=d.trans (cc.mono d.size);clear cc d;go_simp;refine xK hK (an.o) fun d=>?_;clear hK K;refine kO 8 ?_;refine gE ?_;have cg:=Aa (dx.o.over an.o);have d4:Hx (Ov w W8):=bt.o.trans (an.o.mono bt.o.size);go_wp2_with fail;exact ⟨⟨j+1,by omega,by go_num,cg.o,d4.o⟩,by simp [intOf];omega⟩
  ·have I:sn=j:=by omega
   subst I;have cx:=Aa t;have c3:=Aa z;clear t z hlt hj;go_wp2_with fail;refine gS (fun Wz=>Below wr.heap.size wr Wz) (Below.refl _ _).drew fun d=>?_;generalize wr.drew=W at d ⊢;refine kO 1 ?_;refine kO 2 ?_;refine kO 4 ?_;refine kO 5 ?_;refine rdA 0 rfl fun K hK=>?_;obtain ⟨Wd,rfl⟩:=nm W;obtain ⟨W,ct⟩:=nm (Wd.alloc (ze #[] 39));have hb:Ov Wd W:=by rw [ct];exact bA _ _
   obtain ⟨b3,hq⟩:∃ b:Nat,b=Wd.heap.size:=⟨_,rfl⟩;have fu:Hx (W.ownsRow b3 39 2 (O (some ⟨b3,0,none⟩) 0 0) 0 []):=by rw [ct,hq];exact World.ownsRow_made (base:=Wd.heap.size) (e:=39) (size:=2) Wd #[] 0 (Nat.le_refl _) (by unfold maxLen;omega) rfl
   have cz:Hx (wr.heap.size<=b3):=by rw [hq];exact d.size
   have G:Hx (b3<=W.heap.size):=by rw [hq];exact hb.size
   have F:Ov wr W:=Ac d hb;go_simp;rw [<-ct,<-hq];clear ct hq hb;refine xK hK (F) fun d=>?_;clear hK K;refine rdA 3 rfl fun K hK=>?_;obtain ⟨Wd,rfl⟩:=nm W;obtain ⟨j4,v5,W,ae,R,y,au⟩:=ML fv.o (Ac c3.o d) fu.o (by have A:=Z.o;have h2:=B.o;omega) G.o;have cb:=Bz fu.o au G.o;have F:Ov wr W:=d.trans (cb.mono cz.o);have G:Hx (b3<=W.heap.size):=Nat.le_trans G.o au.size;have ft:=Aa y;have i8:=Aa (R);obtain ⟨g1,g2,g3,rfl⟩:=AG y;refine Cb rfl _ _ _ rfl _ _ _ _ rfl rfl ae ?_;clear ae y au cb R;refine xK hK (F) fun d=>?_;clear hK K;refine rdA 6 rfl fun K hK=>?_;obtain ⟨Wd,rfl⟩:=nm W;obtain ⟨j3,v6,W,ae,R,y,au⟩:=ML dz.o (Ac c3.o d) ft.o (by have A:=Z.o;have h2:=B.o;omega) G.o;have cb:=Bz ft.o au G.o;have F:Ov wr W:=d.trans (cb.mono cz.o);have G:Hx (b3<=W.heap.size):=Nat.le_trans G.o au.size;have i2:=Aa y;have i7:=Aa (i8.o.app R);obtain ⟨g1,g2,g3,rfl⟩:=AG y;refine Cb rfl _ _ _ rfl _ _ _ _ rfl rfl ae ?_;clear ae y au cb R;refine xK hK (F) fun d=>?_;clear hK K;refine kO 7 ?_;refine gE ?_;have fm:=Aa (cx.o.over d);have jc:Hx (Ov w W):=Ac c3.o d;have jz:Hx (∀ X,Ov w X->True):=fun _ _=>trivial;have f9:Hx (w.heap.size<=b3):=Nat.le_trans c3.o.size cz.o;have ea:Hx (w.heap.size < b3):=Nat.lt_of_lt_of_le (bL (cx.o 0 _ rfl)) cz.o;clear d;obtain ⟨p0,p1,p2,p3,p4,p5,p6,p7⟩:=rc8 fm.o;go_wp2_with fail;go_loopw [5,6] (fun u i wr=>∃ j:Nat,j<=vn/\i=zd U j/\Ad [zd U m,O ga gn gc,O sa sn sc,O ya yn yc,O oa on oc,O va vn vc,O fa fn fc,O ba bn bd] wr w.heap.size/\Ov w wr/\b3<=wr.heap.size/\∃ xs,wr.ownsRow b3 39 2 u (ls.length+ms.length+j) xs/\Ev w (ls++ms++(vs.take j).map Prod.snd) xs) (fun _ i _=>vn - (intOf i).toNat)
   case atStart=>exact ⟨0,Nat.zero_le _,rfl,fm.o,jc.o,G.o,_,by simpa using i2.o,by simpa using i7.o⟩
   case round=>
    obtain ⟨j,hj,rfl,t,z,e2,xs,y,R⟩:=hrel;obtain ⟨p0,p1,p2,p3,p4,p5,p6,p7⟩:=rc8 t;by_cases hlt:j < vn
    ·have P:j < vs.length:=by have A:=B.o;omega
     obtain ⟨-,gw,ef,dc,ab⟩:=cf.o;injection dc with f1 f2 f3;obtain ⟨vb,a4,ac,M⟩:=ab (by intro hh;rw [hh] at P;simp at P);have dd:va=some ⟨vb,a4,none⟩:=f1.trans ac;subst dd;obtain ⟨pr,pw,-,S,k2,hr,L⟩:=M j P;obtain ⟨ra,rc,er,-⟩:=id hr;obtain ⟨wa,wc,ew,-⟩:=id L;subst er ew;replace S:=Ab z _ _ S;replace k2:=Ab z _ _ k2;have fj:=Aa (Ev.single hr L);have iq:Hx ((vs.take (j+1)).map Prod.snd=(vs.take j).map Prod.snd++[vs[j].2]):=by show _=_;rw [List.take_succ_eq_append_getElem P,List.map_append];rfl
     obtain ⟨rl,E⟩:=nm vs[j].2.r.length;obtain ⟨wl,J⟩:=nm vs[j].2.w.length;rw [<-E,<-J] at fj;rw [<-E] at S;rw [<-J] at k2;have b8:(j:Int) < (vn:Int):=by omega
     obtain ⟨na,dj⟩:=nm (ls.length+ms.length+j);have i4:=Aa dj;rw [<-dj] at y;have cd:Ov wr (wr.alloc (ze #[O ra rl rc,O wa wl wc] 39)):=bA _ _;have ar:=GN y cd;obtain ⟨kj,kh,ki,rfl⟩:=AG y;have HN:=Aa (AP wr [O ra rl rc,O wa wl wc] 39);have cu:b3<=(wr.alloc (ze #[O ra rl rc,O wa wl wc] 39)).heap.size:=Nat.le_trans e2 cd.size;have cy:=Aa (t.over cd);have c4:Hx (Ov w (wr.alloc (ze #[O ra rl rc,O wa wl wc] 39))):=z.trans (cd.mono z.size);have i6:=Aa R;have jo:na<=100:=by have A:=Z.o;have h2:=B.o;omega
     clear ab M f2 f3 ac f1 E J hr L cd t z y R dj;go_wp2_with (at_builtin;refine wpList_append_own_at _ rfl _ _ 26 rfl b3 39 i0 (zh #[O none 0 0,O none 0 0]) 2 48 Tryz.underlying26 hi g0 bp bo rfl (by decide) _ _ _ rfl ar ⟨wr.heap.size,0,none⟩ 1 1 [O ra rl rc,O wa wl wc] rfl rfl (fun jj u hu=>by rw [Addr.add_lit,Nat.zero_add];exact HN.o jj u hu) (by simp [Value.oneCell']) (by unfold maxLen;omega) (by omega) cu ?_);intro v2 w2 aq ca _ h6;have b7:=Bz ar ca cu;have ev:Ov w w2:=c4.o.trans (b7.mono f9.o);have eq:Ad _ w2 w.heap.size:=fun q u hu=>(b7.cell (by have A:=ea.o;exact A)).trans (cy.o q u hu);obtain ⟨gx,gu,gv,rfl⟩:=AG aq;have fx:Hx (∃ xs,w2.ownsRow b3 39 2 (O gx gu gv) (ls.length+ms.length+(j+1)) xs/\Ev w (ls++ms++(vs.take (j+1)).map Prod.snd) xs):=⟨_,by rw [<-Nat.add_assoc,<-i4.o];exact aq,by rw [iq.o,<-List.append_assoc];exact i6.o.app fj.o⟩;have i1:=Aa ev;have cg:=Aa eq;have ja:Hx (b3<=w2.heap.size):=Nat.le_trans cu ca.size;clear ar aq ca h6 cu b7 ev eq;go_wp2_with fail;exact ⟨⟨j+1,by omega,by go_num,cg.o,i1.o,ja.o,fx.o⟩,by simp [intOf];omega⟩
    ·have P:vn=j:=by omega
     subst P;have I:vn=vs.length:=B.o.2.2.2.2.1;obtain ⟨N,hN⟩:=nm (ls.length+ms.length+vn);have ds:N=(ls++ms++vs.map Prod.snd).length:=by simp only [List.length_append,List.length_map];omega
     rw [<-hN] at y;rw [I,List.take_length] at R;have ku:N<=100:=by have A:=Z.o;have h2:=B.o;omega
     obtain ⟨la,lc,rfl,av⟩:=OG y ds R;obtain ⟨A1,dt⟩:=nm wr;rw [<-dt] at av t z ⊢;rw [<-dt] at p0 p1 p2 p3 p4 p5 p6 p7;have d3:=Aa av;have HN:=Aa ds;have fl:=Aa t;have f7:=Aa z;clear y R av ds t z I hlt hj hN dt;go_wp2_with fail;go_loopw [7] (fun i wr=>∃ j:Nat,j<=N/\i=zd U j/\Ad [zd U m,O ga gn gc,O sa sn sc,O ya yn yc,O oa on oc,O va vn vc,O fa fn fc,O ba bn bd] wr w.heap.size/\Ov w wr/\Ov A1 wr) (fun i _=>N - (intOf i).toNat)
     case atStart=>exact ⟨0,Nat.zero_le _,rfl,fl.o,f7.o,Below.refl _ _⟩
     case round=>
      obtain ⟨j,hj,rfl,t,z,hA⟩:=hrel;obtain ⟨p0,p1,p2,p3,p4,p5,p6,p7⟩:=rc8 t;by_cases hlt:j < N
      ·have ey:j < (ls++ms++vs.map Prod.snd).length:=by rw [<-HN.o];exact hlt
       obtain ⟨g,hy,ra,rc,wa,wc,Y,S,hr,L⟩:=d3.o j ey;subst hy;have Y:=Ab hA _ _ Y;have S:=Ab hA _ _ S;have co:=d0.o _ (List.getElem_mem ey);obtain ⟨bl,e3⟩:=nm ((ls++ms++vs.map Prod.snd)[j]);rw [<-e3] at Y S hr L co;obtain ⟨rl,E⟩:=nm bl.r.length;obtain ⟨wl,J⟩:=nm bl.w.length;have ld:=Aa hr;have lb:=Aa L;have lg:=Aa co;rw [<-E] at Y;rw [<-J] at S;have fg:Hx (∀ X,Ov w X->Calls Tryz.prog 94 #[zh #[zd U m,O ga gn gc],zh #[O ra rl rc,O wa wl wc]] X fun e w'=>e=zk (zd U 0)/\Ov X w'):=fun X hX=>by rw [E,J];exact ie.o X bl ra rc wa wc hX co hr L
       have b8:(j:Int) < (N:Int):=by omega
       have dx:=Aa t;have bt:=Aa z;have gb:=Aa hA;clear e3 E J hr L co t z hA;go_wp2_with fail;refine gS (fun Wz=>Below wr.heap.size wr Wz) (Below.refl _ _).drew fun d=>?_;generalize wr.drew=W at d ⊢;refine kO 0 ?_;refine kO 1 ?_;refine kO 2 ?_;refine kO 3 ?_;refine kO 4 ?_;refine kO 5 ?_;refine rdA 6 rfl fun K hK=>?_;go_simp;refine (fg.o _ (Ac bt.o d)).mono ?_;rintro e W8 ⟨rfl,cc⟩;have an:Hx (Ov wr W8):=d.trans (cc.mono d.size);clear cc d;go_simp;refine xK hK (an.o) fun d=>?_;clear hK K;refine kO 7 ?_;refine gE ?_;have cg:=Aa (dx.o.over an.o);have d4:Hx (Ov w W8):=bt.o.trans (an.o.mono bt.o.size);have jg:Hx (Ov A1 W8):=gb.o.trans (an.o.mono gb.o.size);go_wp2_with fail;exact ⟨⟨j+1,by omega,by go_num,cg.o,d4.o,jg.o⟩,by simp [intOf];omega⟩
      ·have I:N=j:=by omega
       subst I;have iy:=Aa t;have je:=Aa z;clear t z hA hlt hj;go_wp2_with fail;go_loopw [9] (fun i wr=>∃ j:Nat,j<=vn/\i=zd U j/\Ad [zd U m,O ga gn gc,O sa sn sc,O ya yn yc,O oa on oc,O va vn vc,O fa fn fc,O ba bn bd] wr w.heap.size/\Ov w wr) (fun i _=>vn - (intOf i).toNat)
       case atStart=>exact ⟨0,Nat.zero_le _,rfl,iy.o,je.o⟩
       case round=>
        obtain ⟨j,hj,rfl,t,z⟩:=hrel;obtain ⟨p0,p1,p2,p3,p4,p5,p6,p7⟩:=rc8 t;by_cases hlt:j < vn
        ·have P:j < vs.length:=by have A:=B.o;omega
         obtain ⟨-,gw,ef,dc,ab⟩:=cf.o;injection dc with f1 f2 f3;obtain ⟨vb,a4,ac,M⟩:=ab (by intro hh;rw [hh] at P;simp at P);have dd:va=some ⟨vb,a4,none⟩:=f1.trans ac;subst dd;obtain ⟨pr,pw,Y,S,k2,hr,L⟩:=M j P;obtain ⟨ra,rc,er,-⟩:=id hr;obtain ⟨wa,wc,ew,-⟩:=id L;subst er ew;obtain ⟨Y,S,k2⟩:=co3 z Y S k2;replace Y:wr.cell? ⟨vb,a4+j*3,none⟩=_:=Y;have di:=i3.o vs[j] (List.getElem_mem P);obtain ⟨kb,ex⟩:=nm vs[j].1;obtain ⟨rl,E⟩:=nm vs[j].2.r.length;obtain ⟨wl,J⟩:=nm vs[j].2.w.length;rw [<-ex] at Y di;rw [<-E] at S;rw [<-J] at k2;have b8:(j:Int) < (vn:Int):=by omega
         have C:Ov wr (wr.alloc (ze #[zg kb,O ra rl rc,O wa wl wc] 41)):=bA _ _;have cy:=Aa (t.over C);have c4:Hx (Ov w (wr.alloc (ze #[zg kb,O ra rl rc,O wa wl wc] 41))):=z.trans (C.mono z.size);have hz:kb=false->rl=0/\wl=0:=fun e=>by obtain ⟨A,h2⟩:=di e;rw [E,J,A,h2];exact ⟨rfl,rfl⟩
         clear ab M f2 f3 ac f1 di ex E J hr L C t z
         cases kb with
         | true=>
          clear hz;go_wp2_with fail;exact ⟨⟨j+1,by omega,by go_num,cy.o,c4.o⟩,by simp [intOf];omega⟩
         | false=>
          obtain ⟨bp,bo⟩:=hz rfl;subst bp bo;go_wp2_with fail;exact ⟨⟨j+1,by omega,by go_num,cy.o,c4.o⟩,by simp [intOf];omega⟩
        ·have I:vn=j:=by omega
         subst I;have cx:=Aa t;have dv:=Aa z;clear t z hlt hj;go_wp2_with fail;have hq:=ff.o _ dv.o (O ba bn bd) l ch.o fy.o.2 (by have A:=a1.o;omega);refine hq.mono ?_;rintro e W5 ⟨rfl,dr⟩;have fo:=Aa (cx.o.over dr);have jd:Hx (Ov w W5):=dv.o.trans (dr.mono dv.o.size);obtain ⟨p0,p1,p2,p3,p4,p5,p6,p7⟩:=rc8 fo.o;clear dr hq;go_wp2_with fail;go_loopw [11,12] (fun n i wr=>∃ j:Nat,j<=fn/\i=zd U j/\n=zd U ((Ai kf l+Ap kf (fs.take j):Nat):Int)/\Ad [zd U m,O ga gn gc,O sa sn sc,O ya yn yc,O oa on oc,O va vn vc,O fa fn fc,O ba bn bd] wr w.heap.size/\Ov w wr) (fun _ i _=>fn - (intOf i).toNat)
         case atStart=>exact ⟨0,Nat.zero_le _,rfl,by simp [Ap],fo.o,jd.o⟩
         case round=>
          obtain ⟨j,hj,rfl,rfl,t,z⟩:=hrel;obtain ⟨p0,p1,p2,p3,p4,p5,p6,p7⟩:=rc8 t;by_cases hlt:j < fn
          ·have H:j < fs.length:=by have A:=B.o;omega
           obtain ⟨-,h9,e9,dl,ag⟩:=fw.o;injection dl with f1 f2 f3;obtain ⟨fb,a6,ah,Q⟩:=ag (by intro hh;rw [hh] at H;simp at H);have dm:fa=some ⟨fb,a6,none⟩:=f1.trans ah;subst dm;obtain ⟨vP,vB,gq,gp,gm,-,S,-,-,-,-,-,T,-⟩:=Q j H;obtain ⟨a0,az,de,-⟩:=id T.2;subst de;replace S:=Ab z _ _ S;have e1:=B4 (k:=kf) H;have ht:=(Ho (k:=kf) H).2;have b6:=a1.o;obtain ⟨ay,ai⟩:=nm fs[j].body.length;obtain ⟨t1,ck⟩:=nm (Ai kf fs[j].body);obtain ⟨t0,ad⟩:=nm (Ai kf l+Ap kf (fs.take j));rw [<-ai] at S T;have KM:Hx (∀ X,Ov w X->Calls Tryz.prog 95 #[O a0 ay az,zd U 1] X fun e w'=>e=zk (zd U (t1:Nat))/\Ov X w'):=fun X hX=>by
            rw [ck];exact ff.o X hX _ _ T (fy.o.1 _ (List.getElem_mem H)) (by omega)
           have d2:Hx (Ai kf l+Ap kf (fs.take (j+1))=t0+t1/\t0+t1<=50):=⟨by rw [ad,ck,e1];omega,by rw [ad,ck];omega⟩;have jr:t0<=50:=by have A:=d2.o.2;omega
           have jq:t1<=50:=by have A:=d2.o.2;omega
           have b8:(j:Int) < (fn:Int):=by omega
           have iv:=Aa t;have d9:=Aa z;rw [<-ad];clear ag Q f2 f3 ah f1 e1 ht b6 ai ck ad T t z;go_wp2_with fail;refine (KM.o _ d9.o).mono ?_;rintro e WM ⟨rfl,dq⟩;have iw:=Aa (iv.o.over dq);have d7:Hx (Ov w WM):=d9.o.trans (dq.mono d9.o.size);clear dq;go_wp2_with fail;exact ⟨⟨j+1,by omega,by go_num,by rw [d2.o.1];go_num,iw.o,d7.o⟩,by simp [intOf];omega⟩
          ·have H:fn=j:=by omega
           subst H;have I:fn=fs.length:=B.o.2.2.2.2.2.1;rw [I,List.take_length];have b6:=a1.o;obtain ⟨t0,ad⟩:=nm (Ai kf l+Ap kf fs);have ky:decide ((50:Int) < (t0:Int))=false:=by rw [ad];simp;omega
           rw [<-ad];have ez:fs.length=fn:=B.o.2.2.2.2.2.1.symm;rw [ez];have iu:=Aa t;have i9:=Aa z;clear ad b6 t z I hlt hj ez;go_wp2_with fail;go_loopw [13] (fun i wr=>∃ j:Nat,j<=fn/\i=zd U j/\Ad [zd U m,O ga gn gc,O sa sn sc,O ya yn yc,O oa on oc,O va vn vc,O fa fn fc,O ba bn bd] wr w.heap.size/\Ov w wr) (fun i _=>fn - (intOf i).toNat)
           case atStart=>exact ⟨0,Nat.zero_le _,rfl,iu.o,i9.o⟩
           case round=>
            obtain ⟨j,hj,rfl,t,z⟩:=hrel;by_cases hlt:j < fn
            ·obtain ⟨p0,p1,p2,p3,p4,p5,p6,p7⟩:=rc8 t
             have H:j < fs.length:=by have A:=B.o;omega
             obtain ⟨-,h9,e9,dl,ag⟩:=fw.o;injection dl with f1 f2 f3;obtain ⟨fb,a6,ah,Q⟩:=ag (by intro hh;rw [hh] at H;simp at H);have dm:fa=some ⟨fb,a6,none⟩:=f1.trans ah;subst dm;obtain ⟨vP,vB,gq,gp,gm,Y,S,k2,k3,k4,h7,-,T,aw⟩:=Q j H;obtain ⟨pa,pc,g9,b5⟩:=h7;obtain ⟨a0,az,de,-⟩:=id T.2;obtain ⟨a9,a8,ep⟩:=aw.form;simp only [List.cons.injEq,and_true] at ep;obtain ⟨rfl,rfl,rfl⟩:=ep;subst g9 de;obtain ⟨Y,S,k2,k3,k4⟩:=co5 z Y S k2 k3 k4;replace Y:wr.cell? ⟨fb,a6+j*5,none⟩=_:=Y;have en:=ii.o j H;obtain ⟨ps,dh⟩:=nm fs[j].ps;obtain ⟨ax,dn⟩:=nm fs[j].body;obtain ⟨al,df⟩:=nm fs[j].res;rw [<-dh] at Y b5;rw [<-dn] at S T;rw [<-df] at k2 k3 k4 aw;obtain ⟨pn,cm⟩:=nm ps.length;obtain ⟨ay,ai⟩:=nm ax.length;obtain ⟨rk,et⟩:=nm (AD al);obtain ⟨rn,es⟩:=nm (A5 al);obtain ⟨rl,E⟩:=nm (AC al).length;rw [<-cm] at Y;rw [<-ai] at S T;rw [<-et] at k2 aw;rw [<-es] at k3 aw;rw [<-E] at k4 aw;have ce:Hx (pn<=4/\(∀ p∈ps,0<=p/\p < vn)/\(∀ i (h:i < ps.length),ps[i] ∉ ps.take i)/\(∀ s∈ax,Ey.xS K vn yn on (j:Int) fs kf s)/\AF vn K al=0):=by
              rw [cm,dh,dn,df];exact en
             have kt:pn<=4:=ce.o.1;have kx:decide ((4:Int) < (pn:Int))=false:=by simp;omega
             have C:Ov wr (wr.alloc (ze #[O pa pn pc,O a0 ay az,zd U rk,zd U rn,O a9 rl a8] 105)):=bA _ _;obtain ⟨X1,cr⟩:=nm (wr.alloc (ze #[O pa pn pc,O a0 ay az,zd U rk,zd U rn,O a9 rl a8] 105));have e0:Ad [O pa pn pc,O a0 ay az,zd U rk,zd U rn,O a9 rl a8] X1 wr.heap.size:=by rw [cr];exact AP wr [O pa pn pc,O a0 ay az,zd U rk,zd U rn,O a9 rl a8] 105
             rw [<-cr] at C;have a3:Hx (Ov w X1):=z.trans (C.mono z.size);have dw:=Aa (t.over C);have d1:=Aa e0;have d6:=Aa T;have fk:=Aa aw;have fq:=Aa b5;have iz:=Aa cm;have b8:(j:Int) < (fn:Int):=by omega
             clear ag Q f2 f3 ah f1 en dh dn df ai et es E C e0 t z T aw b5 cm;go_wp2_with fail;rw [<-cr];clear cr Y S k2 k3 k4;go_loopw [15] (fun ik wz=>∃ qk:Nat,qk<=pn/\ik=zd U qk/\Ov X1 wz) (fun ik _=>pn - (intOf ik).toNat)
             case atStart=>exact ⟨0,Nat.zero_le _,rfl,Below.refl _ _⟩
             case round=>
              obtain ⟨qk,ks,rfl,ak⟩:=hrel;obtain ⟨f0,f1,f2,f3,f4⟩:=rc5 (d1.o.over ak);obtain ⟨p0,p1,p2,p3,p4,p5,p6,p7⟩:=rc8 (dw.o.over ak);by_cases hql:qk < pn
              ·have af:qk < ps.length:=by rw [<-iz.o];exact hql
               obtain ⟨pb,ei,hm,eu⟩:=fq.o (by rintro rfl;simp at af);subst hm;have dy:Hx (∀ i (h:i < ps.length),X1.cell? ⟨pb,ei+i,none⟩=some (zd U ps[i])):=fun i h=>Ab a3.o _ _ (eu i h);have x1:=Ab ak _ _ (dy.o qk af);have hr:=ce.o.2.1 ps[qk] (List.getElem_mem af);have BP:Hx (∀ W,Calls Tryz.prog 76 #[zd U ps[qk],zd U 0,zd U v1] W fun e w'=>e=zk (zg true)/\w'=W):=btw (by rw [decide_eq_true_iff];have A:=ip.o;omega);obtain ⟨xq,em⟩:=nm (ps[qk]);rw [<-em] at x1 BP;have he:(qk:Int) < (pn:Int):=by omega
               clear eu hr em;go_wp2_with fail;refine gS (fun Wz=>Below wr.heap.size wr Wz) (Below.refl _ _).drew fun d=>?_;generalize wr.drew=W at d ⊢;refine kO 0 ?_;refine kO 1 ?_;refine kO 2 ?_;refine kO 3 ?_;refine kO 4 ?_;refine kO 5 ?_;refine kO 6 ?_;refine kO 7 ?_;refine kO 8 ?_;refine rdA 9 rfl fun K hK=>?_;go_simp;refine (BP.o _).mono ?_;rintro e w' ⟨rfl,rfl⟩;go_simp;refine xK hK (d) fun d=>?_;clear hK K;refine kO 10 ?_;refine gE ?_;have f8:Hx (Ov X1 w'):=Ac ak d;clear d ak;go_wp2_with fail;go_loopw [16] (fun im wz=>∃ qm:Nat,qm<=qk/\im=zd U qm/\Ov X1 wz) (fun im _=>qk - (intOf im).toNat)
               case atStart=>exact ⟨0,Nat.zero_le _,rfl,f8.o⟩
               case round=>
                obtain ⟨qm,kr,rfl,bs⟩:=hrel;obtain ⟨f0,f1,f2,f3,f4⟩:=rc5 (d1.o.over bs);by_cases hmk:qm < qk
                ·have y1:=Ab bs _ _ (dy.o qk af)
                 have y2:=Ab bs _ _ (dy.o qm (by omega));have cn:ps[qm]'(by omega)≠ps[qk]:=fun e=>ce.o.2.2.1 qk af (by rw [<-e];exact List.mem_take_iff_getElem.2 ⟨qm,by omega,rfl⟩);obtain ⟨z1,bp⟩:=nm (ps[qk]);obtain ⟨z2,bo⟩:=nm (ps[qm]'(by omega));rw [<-bp] at y1 cn;rw [<-bo] at y2 cn;have ko:(z2 == z1)=false:=by simpa using cn
                 have he:(qm:Int) < (qk:Int):=by omega
                 have jn:(qm:Int) < (pn:Int):=by omega
                 have jm:(qk:Int) < (pn:Int):=by omega
                 clear bp bo cn;go_wp2_with fail;refine gS (fun Wz=>Below wr.heap.size wr Wz) (Below.refl _ _).drew fun d=>?_;generalize wr.drew=W at d ⊢;refine kO 0 ?_;refine kO 1 ?_;refine kO 2 ?_;refine kO 3 ?_;refine kO 4 ?_;refine kO 5 ?_;refine kO 6 ?_;refine kO 7 ?_;refine kO 8 ?_;refine kO 9 ?_;refine kO 10 ?_;refine gE ?_;go_wp2_with fail;exact ⟨⟨qm+1,by omega,by go_num,Ac bs d⟩,by simp [intOf];omega⟩
                ·have hs:qm=qk:=by omega
                 subst hs;have d7:=Aa bs;clear bs;go_wp2_with fail;exact ⟨⟨qm+1,by omega,by go_num,d7.o⟩,by simp [intOf];omega⟩
              ·have hg:pn=qk:=by omega
               subst hg;have f5:=Aa ak;have il:Hx (Ov w wr):=a3.o.trans (ak.mono a3.o.size);clear ak hql;go_wp2_with fail;refine (fe.o _ il.o (j:Int) (by omega) (by omega) (O a0 ay az) ax d6.o ce.o.2.2.2.1).mono ?_;rintro e WT ⟨rfl,e4⟩;have cj:Hx (Ov X1 WT):=f5.o.trans (e4.mono f5.o.size);have ij:Hx (Ov w WT):=a3.o.trans (cj.o.mono a3.o.size);obtain ⟨f0,f1,f2,f3,f4⟩:=rc5 (d1.o.over cj.o);obtain ⟨p0,p1,p2,p3,p4,p5,p6,p7⟩:=rc8 (dw.o.over cj.o);have KX:Hx (Calls Tryz.prog 97 #[zh #[zd U rk,zd U rn,O a9 rl a8],zd U (vn:Int)] WT fun e w'=>e=zk (zd U 0)/\Ov WT w'):=by
                have A:=BL K [zd U rk,zd U rn,O a9 rl a8] al WT (vn:Int) (by omega) (by have h2:=Z.o;omega) (RX.over fk.o ij.o);rw [ce.o.2.2.2.2] at A;exact A
               clear e4;go_wp2_with fail;refine KX.o.mono ?_;rintro e WE ⟨rfl,e5⟩;have f6:Hx (Ov X1 WE):=cj.o.trans (e5.mono cj.o.size);have io:Hx (Ov w WE):=a3.o.trans (f6.o.mono a3.o.size);have ix:=Aa (dw.o.over f6.o);clear e5;go_wp2_with fail;exact ⟨⟨j+1,by omega,by go_num,ix.o,io.o⟩,by simp [intOf];omega⟩
            ·have I:fn=j:=by omega
             subst I;clear hlt hj;obtain ⟨p0,p1,p2,p3,p4,p5,p6,p7⟩:=rc8 t;have d8:=Aa z;clear t z;go_wp2_with fail;refine (fe.o _ d8.o (fn:Int) (by have A:=B.o;omega) (by have A:=B.o;have h2:=Z.o;omega) (O ba bn bd) l ch.o (by have A:=B.o.2.2.2.2.2.1;rw [A];exact ih.o)).mono ?_;rintro e W9 ⟨rfl,e6⟩;have jb:Hx (Ov w W9):=d8.o.trans (e6.mono d8.o.size);clear e6;go_wp2_with fail;go_ret;exact ⟨rfl,jb.o⟩
end Go.Proofs.YtfffpjkcfnekaaaGreat.Ex
