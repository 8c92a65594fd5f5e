/- The document's reader in memory: expressions in brackets. -/
import Derived.Test.YtipngnjffjajpaaGreatDoorJ26
set_option linter.unusedVariables false
set_option maxHeartbeats 8000000
set_option maxRecDepth 100000
namespace Go.Proofs.YtipngnjffjajpaaGreatDoor.Tx
open Go.RowKit
open Go.Value renaming int -> I, slice -> zc, bool -> zd, pointer -> zf, agg -> zg, tuple -> zi
open Go.IntKind renaming i64 -> O
open Go.Obj renaming cells -> ze
open Go.Ending renaming returned -> zh
section
variable {rb:Nat} {tv:Value} {ts:List Tok} {en:Nat}
theorem Qp (hall:ts.all Ao=true) (f deep:Nat) (s:Sg) (w:World) (h:Sd rb tv ts en s w) (h1:tl ts s 0=[40]/\deep < 60) (ih:PY rb tv ts en f (deep+1)):Calls Tryz.prog 60 #[zf (some ⟨rb,0,none⟩),I O (deep:Int)] w (C3 rb tv ts en (f+1) w s (BJ ts en (f+1) deep s)):=by
 obtain ⟨fu,dh⟩:=nm (BJ ts en (f+1) deep s);rw [<-dh];have V:Hx (fu=(fun p1:D × Sg=>(fun p2:D × Sg=>(eD (A0 (tl ts p1.2 0)) (Av ts en s.1) 0 noS [p1.1,p2.1],AB ts [41] p2.2)) (BJ ts en f (deep+1) (if A0 (tl ts p1.2 0)=0 then Dy p1.2 else AB ts (tl ts p1.2 0) p1.2))) (BJ ts en f (deep+1) (AB ts [40] s))):=by show _=_;rw [dh,BJ];rw [if_pos h1]
 obtain ⟨m0,d5⟩:=nm s.1;have g:Hx (Rq rb tv ts en w m0 (s) w):=by show Rq _ _ _ _ _ _ _ _;rw [d5];exact Rq.start h
 have fm:=Aa d5;clear dh d5 h;obtain ⟨V1,dz⟩:=nm (w.alloc (ze #[I O 0,I O 0,I O 0,.string ⟨#[]⟩,zc none 0 0] 49));obtain ⟨x,c0⟩:=nm w.heap.size;have dg:=c0;have bk:Hx (w.heap.size<=x):=by show _<=_;rw [dg];exact g.o.size
 have c:Hx (Bx x [I O 0,I O 0,I O 0,.string ⟨#[]⟩,zc none 0 0] V1):=by show Bx _ _ _;rw [dz,dg];exact Bx.new w [I O 0,I O 0,I O 0,.string ⟨#[]⟩,zc none 0 0] 49
 replace g:Hx (Rq rb tv ts en w m0 (s) V1):=by show Rq _ _ _ _ _ _ _ _;rw [dz];exact g.o.over (bA _ _)
 go_enter Tryz.func60,Tryz.ntmps60;obtain ⟨p,hp⟩:=nm (Av ts en (s).1);have KH:Hx (Ro 28 #[zf (some ⟨rb,0,none⟩)] V1 (I O p)):=by rw [hp];exact DZ s _ g.o.st
 go_wp2_with fail;rw [<-dz,<-c0];clear dg;clear c0 dz;refine KH.o.mono ?_;rintro e w2 ⟨rfl,R⟩;clear KH;replace c:=Aa (c.o.over R);replace g:Hx (Rq rb tv ts en w m0 (s) w2):=g.o.over R;clear R;rw [<-hp] at V;clear hp;obtain ⟨V3,dk⟩:=nm (w2.alloc (ze #[I O 1,I O p,I O 0,.string ⟨#[]⟩,zc none 0 0] 49));obtain ⟨A,c2⟩:=nm w2.heap.size;have cz:=c2;have ag:Hx (w.heap.size<=A):=by show _<=_;rw [cz];exact g.o.size
 have M:Hx (x < A):=by show _ < _;rw [cz];exact c.o.lt
 have a:Hx (Bx A [I O 1,I O p,I O 0,.string ⟨#[]⟩,zc none 0 0] V3):=by show Bx _ _ _;rw [dk,cz];exact Bx.new w2 [I O 1,I O p,I O 0,.string ⟨#[]⟩,zc none 0 0] 49
 replace c:Hx (Bx x [I O 0,I O 0,I O 0,.string ⟨#[]⟩,zc none 0 0] V3):=by show Bx _ _ _;rw [dk];exact c.o.over (bA _ _)
 replace g:Hx (Rq rb tv ts en w m0 (s) V3):=by show Rq _ _ _ _ _ _ _ _;rw [dk];exact g.o.over (bA _ _)
 obtain ⟨t,ht⟩:=nm (tx ts s 0);have KT:Hx (Ro 57 #[zf (some ⟨rb,0,none⟩),I O 0] V3 (.string t)):=by rw [ht];exact BO 0 (by omega) s _ g.o.st
 have Ht:=Aa ht;clear ht;go_wp2_with fail;rw [<-dk,<-c2];clear cz;clear c2 dk;refine KT.o.mono ?_;rintro e w4 ⟨rfl,R⟩;clear KT;replace c:=Aa (c.o.over R);replace a:=Aa (a.o.over R);replace g:Hx (Rq rb tv ts en w m0 (s) w4):=g.o.over R;clear R;have q1:(t.toList == [40])=true:=G7 Ht.o h1.1;have f6:(deep:Int) < 60:=by have:=h1.2;omega
 have gy:(deep:Int)+1<=60:=by omega
 have eo:Hx (∀ (s:Sg) (w:World),Sd rb tv ts en s w->Calls Tryz.prog 60 #[zf (some ⟨rb,0,none⟩),I O ((deep:Int)+1)] w (C3 rb tv ts en f w s (BJ ts en f (deep+1) s))):=fun s w h=>ih s w h;clear h1 ih;obtain ⟨s1,dv⟩:=nm (AB ts [40] s);have KN:=Aa (BX ⟨#[40]⟩ [40] rfl (by decide) s _ g.o.st);rw [<-dv] at KN;rw [<-dv] at V;have g1:=Aa dv;clear dv;go_wp2_with fail;refine KN.o.mono ?_;rintro e w5 ⟨rfl,Q⟩;clear KN;have C:=Q.1;replace c:=bkp c g.o.rlt bk C;replace a:=bkp a g.o.rlt ag C;replace g:Hx (Rq rb tv ts en w m0 (s1) w5):=Qo.rq g.o Q;clear C Q;clear q1 f6;obtain ⟨fy,di⟩:=nm (BJ ts en f (deep+1) s1);obtain ⟨da,s2⟩:=fy;have KE:=Aa (eo.o s1 _ g.o.st);rw [<-di] at KE V;dsimp only at V;have gw:=Aa di;clear di;go_wp2_with fail;obtain ⟨za,df⟩:=nm w5.heap.size;have ae:Hx (w.heap.size<=za):=by show _<=_;rw [df];exact g.o.size
 have dp:Hx (x < za):=by show _ < _;rw [df];exact c.o.lt
 have b7:Hx (A < za):=by show _ < _;rw [df];exact a.o.lt
 refine KE.o.mono ?_;rintro e w6 ⟨a0,a1,a2,a3,a4,a5,a6,rfl,L,Q⟩;dsimp only at L Q;rw [<-df] at L;have b:=Aa L;clear KE L df;have C:=Q.1;replace c:=bkp c g.o.rlt bk C;replace a:=bkp a g.o.rlt ag C;replace g:Hx (Rq rb tv ts en w m0 (s2) w6):=Qo.rq g.o Q;clear C Q;obtain ⟨V7,ct⟩:=nm (w6.alloc (ze #[I O a0,I O a1,I O a2,.string a3,zc a4 a5 a6] 49));obtain ⟨H,c3⟩:=nm w6.heap.size;have ce:=c3;have c6:Hx (w.heap.size<=H):=by show _<=_;rw [ce];exact g.o.size
 have ab:Hx (x < H):=by show _ < _;rw [ce];exact c.o.lt
 have S:Hx (A < H):=by show _ < _;rw [ce];exact a.o.lt
 have l:Hx (Bx H [I O a0,I O a1,I O a2,.string a3,zc a4 a5 a6] V7):=by show Bx _ _ _;rw [ct,ce];exact Bx.new w6 [I O a0,I O a1,I O a2,.string a3,zc a4 a5 a6] 49
 replace c:Hx (Bx x [I O 0,I O 0,I O 0,.string ⟨#[]⟩,zc none 0 0] V7):=by show Bx _ _ _;rw [ct];exact c.o.over (bA _ _)
 replace a:Hx (Bx A [I O 1,I O p,I O 0,.string ⟨#[]⟩,zc none 0 0] V7):=by show Bx _ _ _;rw [ct];exact a.o.over (bA _ _)
 replace g:Hx (Rq rb tv ts en w m0 (s2) V7):=by show Rq _ _ _ _ _ _ _ _;rw [ct];exact g.o.over (bA _ _)
 replace b:Hx (Off za none V7 (fun W=>XE W f [I O a0,I O a1,I O a2,.string a3,zc a4 a5 a6] da)):=by show Off _ _ _ _;rw [ct];exact b.o.over (bA _ _)
 go_upto_region 8 with fail
 rw [<-ct,<-c3];clear ce;clear c3 ct;have b8:x≠A:=by have:=M.o;omega
 have ca:A≠x:=by have:=M.o;omega
 have b9:x≠H:=by have:=ab.o;omega
 have cc:H≠x:=by have:=ab.o;omega
 have cb:A≠H:=by have:=S.o;omega
 have cd:H≠A:=by have:=S.o;omega
 obtain ⟨bj,ce1,bi,bh,bg⟩:=rc5 a.o.row;obtain ⟨bf,bd,bc,a9,a8⟩:=fz5 a.o.fz;obtain ⟨V8,dy⟩:=nm (V7.setCell ⟨A,0,none⟩ (I O 0));have n:V7.grownBy V8 (some A):=by rw [dy];exact (gst (Ah _ _))
 replace a:Hx (Bx A [I O 0,I O p,I O 0,.string ⟨#[]⟩,zc none 0 0] V8):=by show Bx _ _ _;rw [dy];exact (a.o.se 0)
 replace c:=Aa (c.o.keep n (by have:=M.o;omega));replace l:=Aa (l.o.keep n (by have:=S.o;omega));replace g:=Aa (g.o.box n ag.o);replace b:=Aa (b.o.keep n b7.o);clear n
 go_upto_region 9 with fail
 rw [<-dy];clear a8 a9 bc bd bf bg bh bi ce1 bj cd cb cc b9 ca b8;clear dy;obtain ⟨V9,cg⟩:=nm (V8.alloc (ze #[.string ⟨#[43]⟩,.string ⟨#[45]⟩,.string ⟨#[42]⟩,.string ⟨#[60]⟩,.string ⟨#[61,61]⟩] 9));obtain ⟨N,c1⟩:=nm V8.heap.size;have bm:=c1;have c5:Hx (w.heap.size<=N):=by show _<=_;rw [bm];exact g.o.size
 have af:Hx (x < N):=by show _ < _;rw [bm];exact c.o.lt
 have ad:Hx (A < N):=by show _ < _;rw [bm];exact a.o.lt
 have bn:Hx (H < N):=by show _ < _;rw [bm];exact l.o.lt
 have r:Hx (Bx N [.string ⟨#[43]⟩,.string ⟨#[45]⟩,.string ⟨#[42]⟩,.string ⟨#[60]⟩,.string ⟨#[61,61]⟩] V9):=by show Bx _ _ _;rw [cg,bm];exact Bx.new V8 [.string ⟨#[43]⟩,.string ⟨#[45]⟩,.string ⟨#[42]⟩,.string ⟨#[60]⟩,.string ⟨#[61,61]⟩] 9
 replace c:Hx (Bx x [I O 0,I O 0,I O 0,.string ⟨#[]⟩,zc none 0 0] V9):=by show Bx _ _ _;rw [cg];exact c.o.over (bA _ _)
 replace a:Hx (Bx A [I O 0,I O p,I O 0,.string ⟨#[]⟩,zc none 0 0] V9):=by show Bx _ _ _;rw [cg];exact a.o.over (bA _ _)
 replace l:Hx (Bx H [I O a0,I O a1,I O a2,.string a3,zc a4 a5 a6] V9):=by show Bx _ _ _;rw [cg];exact l.o.over (bA _ _)
 replace g:Hx (Rq rb tv ts en w m0 (s2) V9):=by show Rq _ _ _ _ _ _ _ _;rw [cg];exact g.o.over (bA _ _)
 replace b:Hx (Off za none V9 (fun W=>XE W f [I O a0,I O a1,I O a2,.string a3,zc a4 a5 a6] da)):=by show Off _ _ _ _;rw [cg];exact b.o.over (bA _ _)
 skip
 go_wp2_with fail;rw [<-cg,<-c1];clear bm;clear c1 cg;go_loopw [9] (fun i wr=>∃ (j:Nat) (kk:Int),j<=5/\i=I O (j:Int)/\kk=opU j (tl ts s2 0)/\Rq rb tv ts en w m0 (s2) wr/\Bx x [I O 0,I O 0,I O 0,.string ⟨#[]⟩,zc none 0 0] wr/\Bx A [I O kk,I O p,I O 0,.string ⟨#[]⟩,zc none 0 0] wr/\Bx H [I O a0,I O a1,I O a2,.string a3,zc a4 a5 a6] wr/\Bx N [.string ⟨#[43]⟩,.string ⟨#[45]⟩,.string ⟨#[42]⟩,.string ⟨#[60]⟩,.string ⟨#[61,61]⟩] wr/\Off za none wr (fun W=>XE W f [I O a0,I O a1,I O a2,.string a3,zc a4 a5 a6] da)) (fun i _=>5 - (intOf i).toNat)
 case atStart=>exact ⟨0,0,Nat.zero_le _,rfl,(Q7 _).symm,g.o,c.o,a.o,l.o,r.o,b.o⟩
 case round=>
  obtain ⟨j,kk,hj,rfl,fd,hd,c0,c2,c3,c1,fb⟩:=hrel;replace g:=Aa hd;replace c:=Aa c0;replace a:=Aa c2;replace l:=Aa c3;replace r:=Aa c1;replace b:=Aa fb;have em:=Aa fd;clear hd c0 c2 c3 c1 fb fd;by_cases hjl:j < 5
  ·have f5:(j:Int) < 5:=by omega
   obtain ⟨y,hy,fa,e9⟩:=P9 (tl ts s2 0) j hjl;have dl:wr.cell? ⟨N,j,none⟩=some (.string y):=r.o.row j _ hy;have HY:=Aa (And.intro fa e9);obtain ⟨t2,cr⟩:=nm (tx ts s2 0);have KT:Hx (∀ X,Ov wr X->Ro 57 #[zf (some ⟨rb,0,none⟩),I O 0] X (.string t2)):=fun X hX=>by rw [cr];exact BO 0 (by omega) s2 X (g.o.st.below hX)
   have d1:=Aa cr;clear hy fa e9 cr;by_cases Q:t2.data.toList=y.data.toList
   ·have f3:(t2.toList == y.toList)=true:=by rw [teq];simpa using Q
    have HN:Hx (3+(j:Int)=opU (j+1) (tl ts s2 0)):=by show _=_;exact (HY.o.1 (by unfold tl;rw [<-d1.o];exact Q)).symm
    clear Q;go_wp2_with fail;refine gS (fun Wz=>Below wr.heap.size wr Wz) (Below.refl _ _).drew fun B=>?_;generalize wr.drew=W at B ⊢;refine kO 0 ?_;refine kO 2 ?_;refine kO 3 ?_;refine kO 4 ?_;refine kO 5 ?_;refine rdA 1 rfl fun K hK=>?_;go_simp;refine (KT.o _ B).mono ?_;rintro e W8 ⟨rfl,R⟩;have cy:=Aa (Ac B R);clear R B KT;go_simp;refine xK hK (cy.o) fun B=>?_;clear hK K;refine kO 6 ?_;refine gE ?_
    skip
    have R:=cy.o;clear cy B dl;replace c:=Aa (c.o.over R);replace a:=Aa (a.o.over R);replace l:=Aa (l.o.over R);replace r:=Aa (r.o.over R);replace b:=Aa (b.o.over R);replace g:Hx (Rq rb tv ts en w m0 (s2) W8):=g.o.over R;clear R;obtain ⟨bj,ce1,bi,bh,bg⟩:=rc5 a.o.row;obtain ⟨bf,bd,bc,a9,a8⟩:=fz5 a.o.fz;obtain ⟨c4,al⟩:=nm (W8.setCell ⟨A,0,none⟩ (I O (3+(j:Int))));have n:W8.grownBy c4 (some A):=by rw [al];exact (gst (Ah _ _))
    replace a:Hx (Bx A [I O (3+(j:Int)),I O p,I O 0,.string ⟨#[]⟩,zc none 0 0] c4):=by show Bx _ _ _;rw [al];exact (a.o.se 0)
    replace c:=Aa (c.o.keep n (by have:=M.o;omega));replace l:=Aa (l.o.keep n (by have:=S.o;omega));replace r:=Aa (r.o.keep n (by have:=ad.o;omega));replace g:=Aa (g.o.box n ag.o);replace b:=Aa (b.o.keep n b7.o);clear n;go_wp2_with fail;rw [<-al];exact ⟨⟨j+1,_,by omega,by go_num,HN.o,g.o,c.o,a.o,l.o,r.o,b.o⟩,by simp [intOf];omega⟩
   ·have f3:(t2.toList == y.toList)=false:=by rw [teq];simpa using Q
    have HN:Hx (kk=opU (j+1) (tl ts s2 0)):=by show _=_;rw [em.o];exact (HY.o.2 (by unfold tl;rw [<-d1.o];exact Q)).symm
    clear Q;go_wp2_with fail;refine gS (fun Wz=>Below wr.heap.size wr Wz) (Below.refl _ _).drew fun B=>?_;generalize wr.drew=W at B ⊢;refine kO 0 ?_;refine kO 2 ?_;refine kO 3 ?_;refine kO 4 ?_;refine kO 5 ?_;refine rdA 1 rfl fun K hK=>?_;go_simp;refine (KT.o _ B).mono ?_;rintro e W8 ⟨rfl,R⟩;have cy:=Aa (Ac B R);clear R B KT;go_simp;refine xK hK (cy.o) fun B=>?_;clear hK K;refine kO 6 ?_;refine gE ?_
    skip
    have R:=cy.o;clear cy B dl;replace c:=Aa (c.o.over R);replace a:=Aa (a.o.over R);replace l:=Aa (l.o.over R);replace r:=Aa (r.o.over R);replace b:=Aa (b.o.over R);replace g:Hx (Rq rb tv ts en w m0 (s2) W8):=g.o.over R;clear R;go_wp2_with fail;exact ⟨⟨j+1,_,by omega,by go_num,HN.o,g.o,c.o,a.o,l.o,r.o,b.o⟩,by simp [intOf];omega⟩
  ·have f5:¬ (j:Int) < 5:=by omega
   have ff:j=5:=by omega
   have dx:=em.o;rw [ff,Q6] at dx;rw [<-dx] at V;have gm:=Aa dx;clear ff dx em;by_cases hk0:kk=0
   ·subst hk0
    rw [if_pos rfl] at V;have b8:x≠A:=by have:=M.o;omega
    have ca:A≠x:=by have:=M.o;omega
    have b9:x≠H:=by have:=ab.o;omega
    have cc:H≠x:=by have:=ab.o;omega
    have c7:x≠N:=by have:=af.o;omega
    have c8:N≠x:=by have:=af.o;omega
    have cb:A≠H:=by have:=S.o;omega
    have cd:H≠A:=by have:=S.o;omega
    have dd:A≠N:=by have:=ad.o;omega
    have c9:N≠A:=by have:=ad.o;omega
    have de:H≠N:=by have:=bn.o;omega
    have dc:N≠H:=by have:=bn.o;omega
    obtain ⟨bj,ce1,bi,bh,bg⟩:=rc5 a.o.row;obtain ⟨bf,bd,bc,a9,a8⟩:=fz5 a.o.fz;obtain ⟨fx,fw,rc2,fv,ft,fs⟩:=g.o.st.cells;have dw:=g.o.st.fail;obtain ⟨c4,al⟩:=nm (wr.setCell ⟨rb,3,none⟩ (zd true));rw [<-al] at dw;have Q:Qo rb tv ts en wr s2 (Dy s2) c4:=⟨dw.2,dw.1,Nat.le_refl _⟩;clear dw;obtain ⟨s3,cf⟩:=nm (Dy s2);rw [<-cf] at Q;have fk:=Aa cf;clear cf;have C:=Q.1;replace c:=bkp c g.o.rlt bk C;replace a:=bkp a g.o.rlt ag C;replace l:=bkp l g.o.rlt c6 C;replace r:=bkp r g.o.rlt c5 C;replace b:=Aa (b.o.keep C (by have:=g.o.rlt;have:=ae.o;omega));replace g:Hx (Rq rb tv ts en w m0 (s3) c4):=Qo.rq g.o Q;clear C Q;rw [<-fk.o] at V;obtain ⟨d4,aj⟩:=nm (BJ ts en f (deep+1) s3);obtain ⟨db,s4⟩:=d4;have KE:=Aa (eo.o s3 _ g.o.st);rw [<-aj] at KE V;dsimp only at V;have fl:=Aa aj;clear aj;go_wp2_with fail;rw [<-al];clear fs ft fv rc2 fw fx a8 a9 bc bd bf bg bh bi ce1 bj dc de c9 dd cd cb c8 c7 cc b9 ca b8;clear al;obtain ⟨zb,ac⟩:=nm c4.heap.size;have cj:Hx (w.heap.size<=zb):=by show _<=_;rw [ac];exact g.o.size
    have cw:Hx (x < zb):=by show _ < _;rw [ac];exact c.o.lt
    have cx:Hx (A < zb):=by show _ < _;rw [ac];exact a.o.lt
    have ej:Hx (H < zb):=by show _ < _;rw [ac];exact l.o.lt
    have ei:Hx (N < zb):=by show _ < _;rw [ac];exact r.o.lt
    refine KE.o.mono ?_;rintro e cq ⟨b0,b1,b2,b3,b4,b5,b6,rfl,L,Q⟩;dsimp only at L Q;rw [<-ac] at L;have u:=Aa L;clear KE L ac;have C:=Q.1;replace c:=bkp c g.o.rlt bk C;replace a:=bkp a g.o.rlt ag C;replace l:=bkp l g.o.rlt c6 C;replace r:=bkp r g.o.rlt c5 C;replace b:=Aa (b.o.keep C (by have:=g.o.rlt;have:=ae.o;omega));replace g:Hx (Rq rb tv ts en w m0 (s4) cq):=Qo.rq g.o Q;clear C Q;obtain ⟨ci,aa⟩:=nm (cq.alloc (ze #[I O b0,I O b1,I O b2,.string b3,zc b4 b5 b6] 49));obtain ⟨T,cs⟩:=nm cq.heap.size;have F:=cs;have el:Hx (w.heap.size<=T):=by show _<=_;rw [F];exact g.o.size
    have ao:Hx (x < T):=by show _ < _;rw [F];exact c.o.lt
    have aq:Hx (A < T):=by show _ < _;rw [F];exact a.o.lt
    have co:Hx (H < T):=by show _ < _;rw [F];exact l.o.lt
    have cl:Hx (N < T):=by show _ < _;rw [F];exact r.o.lt
    have P:Hx (Bx T [I O b0,I O b1,I O b2,.string b3,zc b4 b5 b6] ci):=by show Bx _ _ _;rw [aa,F];exact Bx.new cq [I O b0,I O b1,I O b2,.string b3,zc b4 b5 b6] 49
    replace c:Hx (Bx x [I O 0,I O 0,I O 0,.string ⟨#[]⟩,zc none 0 0] ci):=by show Bx _ _ _;rw [aa];exact c.o.over (bA _ _)
    replace a:Hx (Bx A [I O 0,I O p,I O 0,.string ⟨#[]⟩,zc none 0 0] ci):=by show Bx _ _ _;rw [aa];exact a.o.over (bA _ _)
    replace l:Hx (Bx H [I O a0,I O a1,I O a2,.string a3,zc a4 a5 a6] ci):=by show Bx _ _ _;rw [aa];exact l.o.over (bA _ _)
    replace r:Hx (Bx N [.string ⟨#[43]⟩,.string ⟨#[45]⟩,.string ⟨#[42]⟩,.string ⟨#[60]⟩,.string ⟨#[61,61]⟩] ci):=by show Bx _ _ _;rw [aa];exact r.o.over (bA _ _)
    replace g:Hx (Rq rb tv ts en w m0 (s4) ci):=by show Rq _ _ _ _ _ _ _ _;rw [aa];exact g.o.over (bA _ _)
    replace b:Hx (Off za none ci (fun W=>XE W f [I O a0,I O a1,I O a2,.string a3,zc a4 a5 a6] da)):=by show Off _ _ _ _;rw [aa];exact b.o.over (bA _ _)
    replace u:Hx (Off zb none ci (fun W=>XE W f [I O b0,I O b1,I O b2,.string b3,zc b4 b5 b6] db)):=by show Off _ _ _ _;rw [aa];exact u.o.over (bA _ _)
    obtain ⟨s5,bo⟩:=nm (AB ts [41] s4);have KN:=Aa (BX ⟨#[41]⟩ [41] rfl (by decide) s4 _ g.o.st);rw [<-bo] at KN;rw [<-bo] at V;have gj:=Aa bo;clear bo;go_wp2_with fail;rw [<-aa,<-cs];clear F;clear cs aa;refine KN.o.mono ?_;rintro e ds ⟨rfl,Q⟩;clear KN;have C:=Q.1;replace c:=bkp c g.o.rlt bk C;replace a:=bkp a g.o.rlt ag C;replace l:=bkp l g.o.rlt c6 C;replace r:=bkp r g.o.rlt c5 C;replace P:=bkp P g.o.rlt el C;replace b:=Aa (b.o.keep C (by have:=g.o.rlt;have:=ae.o;omega));replace u:=Aa (u.o.keep C (by have:=g.o.rlt;have:=cj.o;omega));replace g:Hx (Rq rb tv ts en w m0 (s5) ds):=Qo.rq g.o Q;clear C Q;obtain ⟨gg,gf,ge,gd,gc⟩:=rc5 l.o.row;obtain ⟨gb,ga,f9,f8,f7⟩:=rc5 P.o.row;obtain ⟨am,U⟩:=nm (ds.alloc (ze #[I O a0,I O a1,I O a2,.string a3,zc a4 a5 a6,I O b0,I O b1,I O b2,.string b3,zc b4 b5 b6] 49));obtain ⟨J,dj⟩:=nm ds.heap.size;have E:=dj;have ek:Hx (w.heap.size<=J):=by show _<=_;rw [E];exact g.o.size
    have an:Hx (x < J):=by show _ < _;rw [E];exact c.o.lt
    have ap:Hx (A < J):=by show _ < _;rw [E];exact a.o.lt
    have cn:Hx (H < J):=by show _ < _;rw [E];exact l.o.lt
    have ck:Hx (N < J):=by show _ < _;rw [E];exact r.o.lt
    have cm:Hx (T < J):=by show _ < _;rw [E];exact P.o.lt
    have ar:Hx (Bx J [I O a0,I O a1,I O a2,.string a3,zc a4 a5 a6,I O b0,I O b1,I O b2,.string b3,zc b4 b5 b6] am):=by show Bx _ _ _;rw [U,E];exact Bx.new ds [I O a0,I O a1,I O a2,.string a3,zc a4 a5 a6,I O b0,I O b1,I O b2,.string b3,zc b4 b5 b6] 49
    replace c:Hx (Bx x [I O 0,I O 0,I O 0,.string ⟨#[]⟩,zc none 0 0] am):=by show Bx _ _ _;rw [U];exact c.o.over (bA _ _)
    replace a:Hx (Bx A [I O 0,I O p,I O 0,.string ⟨#[]⟩,zc none 0 0] am):=by show Bx _ _ _;rw [U];exact a.o.over (bA _ _)
    replace l:Hx (Bx H [I O a0,I O a1,I O a2,.string a3,zc a4 a5 a6] am):=by show Bx _ _ _;rw [U];exact l.o.over (bA _ _)
    replace r:Hx (Bx N [.string ⟨#[43]⟩,.string ⟨#[45]⟩,.string ⟨#[42]⟩,.string ⟨#[60]⟩,.string ⟨#[61,61]⟩] am):=by show Bx _ _ _;rw [U];exact r.o.over (bA _ _)
    replace P:Hx (Bx T [I O b0,I O b1,I O b2,.string b3,zc b4 b5 b6] am):=by show Bx _ _ _;rw [U];exact P.o.over (bA _ _)
    replace g:Hx (Rq rb tv ts en w m0 (s5) am):=by show Rq _ _ _ _ _ _ _ _;rw [U];exact g.o.over (bA _ _)
    replace b:Hx (Off za none am (fun W=>XE W f [I O a0,I O a1,I O a2,.string a3,zc a4 a5 a6] da)):=by show Off _ _ _ _;rw [U];exact b.o.over (bA _ _)
    replace u:Hx (Off zb none am (fun W=>XE W f [I O b0,I O b1,I O b2,.string b3,zc b4 b5 b6] db)):=by show Off _ _ _ _;rw [U];exact u.o.over (bA _ _)
    have b8:x≠A:=by have:=M.o;omega
    have ca:A≠x:=by have:=M.o;omega
    have b9:x≠H:=by have:=ab.o;omega
    have cc:H≠x:=by have:=ab.o;omega
    have c7:x≠N:=by have:=af.o;omega
    have c8:N≠x:=by have:=af.o;omega
    have es:x≠T:=by have:=ao.o;omega
    have e2:T≠x:=by have:=ao.o;omega
    have er:x≠J:=by have:=an.o;omega
    have et:J≠x:=by have:=an.o;omega
    have cb:A≠H:=by have:=S.o;omega
    have cd:H≠A:=by have:=S.o;omega
    have dd:A≠N:=by have:=ad.o;omega
    have c9:N≠A:=by have:=ad.o;omega
    have e1:A≠T:=by have:=aq.o;omega
    have e5:T≠A:=by have:=aq.o;omega
    have e0:A≠J:=by have:=ap.o;omega
    have ev:J≠A:=by have:=ap.o;omega
    have de:H≠N:=by have:=bn.o;omega
    have dc:N≠H:=by have:=bn.o;omega
    have e8:H≠T:=by have:=co.o;omega
    have e6:T≠H:=by have:=co.o;omega
    have e7:H≠J:=by have:=cn.o;omega
    have ex:J≠H:=by have:=cn.o;omega
    have ez:N≠T:=by have:=cl.o;omega
    have e4:T≠N:=by have:=cl.o;omega
    have ey:N≠J:=by have:=ck.o;omega
    have eu:J≠N:=by have:=ck.o;omega
    have e3:T≠J:=by have:=cm.o;omega
    have ew:J≠T:=by have:=cm.o;omega
    obtain ⟨bj,ce1,bi,bh,bg⟩:=rc5 a.o.row;obtain ⟨bf,bd,bc,a9,a8⟩:=fz5 a.o.fz;obtain ⟨eg,ef,ee,ed,ec⟩:=rc5 c.o.row;obtain ⟨ea,d9,d8,d7,d6⟩:=fz5 c.o.fz;rw [U] at bj ce1 bi bh bg bf bd bc a9 a8 eg ef ee ed ec ea d9 d8 d7 d6;obtain ⟨Y,G⟩:=nm (am.setCell ⟨A,4,none⟩ (zc (some ⟨J,0,none⟩) 2 2));have n:am.grownBy Y (some A):=by rw [G];exact (gst (Ah _ _))
    replace a:Hx (Bx A [I O 0,I O p,I O 0,.string ⟨#[]⟩,zc (some ⟨J,0,none⟩) 2 2] Y):=by show Bx _ _ _;rw [G];exact (a.o.se 4)
    replace c:=Aa (c.o.keep n (by have:=M.o;omega));replace l:=Aa (l.o.keep n (by have:=S.o;omega));replace r:=Aa (r.o.keep n (by have:=ad.o;omega));replace P:=Aa (P.o.keep n (by have:=aq.o;omega));replace ar:=Aa (ar.o.keep n (by have:=ap.o;omega));replace g:=Aa (g.o.box n ag.o);replace b:=Aa (b.o.keep n b7.o);replace u:=Aa (u.o.keep n cx.o);clear n;obtain ⟨cu,ak⟩:=nm (((((Y.setCell ⟨x,0,none⟩ (I O 0)).setCell ⟨x,1,none⟩ (I O p)).setCell ⟨x,2,none⟩ (I O 0)).setCell ⟨x,3,none⟩ (.string ⟨#[]⟩)).setCell ⟨x,4,none⟩ (zc (some ⟨J,0,none⟩) 2 2));have n:Y.grownBy cu (some x):=by rw [ak];exact (gst (gst (gst (gst (gst (Ah _ _))))))
    replace c:Hx (Bx x [I O 0,I O p,I O 0,.string ⟨#[]⟩,zc (some ⟨J,0,none⟩) 2 2] cu):=by show Bx _ _ _;rw [ak];exact (((((c.o.se 0).se 1).se 2).se 3).se 4)
    replace a:=Aa (a.o.keep n (by have:=M.o;omega));replace l:=Aa (l.o.keep n (by have:=ab.o;omega));replace r:=Aa (r.o.keep n (by have:=af.o;omega));replace P:=Aa (P.o.keep n (by have:=ao.o;omega));replace ar:=Aa (ar.o.keep n (by have:=an.o;omega));replace g:=Aa (g.o.box n bk.o);replace b:=Aa (b.o.keep n dp.o);replace u:=Aa (u.o.keep n cw.o);clear n;go_wp2_with fail;refine bodyPost_ret (v:=zg #[I O 0,I O p,I O 0,.string ⟨#[]⟩,zc (some ⟨J,0,none⟩) 2 2]) (by simp [results,Tryz.results60,go_sem, *]) rfl ?_;rw [<-U,<-dj,<-G,<-ak];rw [V.o];refine ⟨_,_,_,_,_,_,_,rfl,fun W hW=>?_,g.o.gr,g.o.st,by rw [<-fm.o];exact g.o.le⟩;have o1:=(b.o.base ae.o) W hW;have o2:=(u.o.base cj.o) W hW;exact ⟨0,p,0,⟨#[]⟩,_,[da,db],rfl,rfl,LS.two ((Off.bx ar.o ek.o) W hW) o1 o2⟩
   ·rw [if_neg hk0] at V
    have fc:tl ts s2 0≠[]:=DN _ (by rw [<-gm.o];exact hk0);have fe:(kk == 0)=false:=by simpa using hk0
    have gk:=Aa fc;clear fc;obtain ⟨t2,cr⟩:=nm (tx ts s2 0);have KT:Hx (Ro 57 #[zf (some ⟨rb,0,none⟩),I O 0] wr (.string t2)):=by rw [cr];exact BO 0 (by omega) s2 _ g.o.st
    have d1:=Aa cr;clear cr;obtain ⟨bj,ce1,bi,bh,bg⟩:=rc5 a.o.row;obtain ⟨bf,bd,bc,a9,a8⟩:=fz5 a.o.fz;go_wp2_with fail;clear a8 a9 bc bd bf bg bh bi ce1 bj;refine KT.o.mono ?_;rintro e fq ⟨rfl,R⟩;clear KT;replace c:=Aa (c.o.over R);replace a:=Aa (a.o.over R);replace l:=Aa (l.o.over R);replace r:=Aa (r.o.over R);replace b:=Aa (b.o.over R);replace g:Hx (Rq rb tv ts en w m0 (s2) fq):=g.o.over R;clear R;obtain ⟨s3,cf⟩:=nm (AB ts (tl ts s2 0) s2);have KN:=Aa (BX t2 (tl ts s2 0) (by unfold tl;rw [d1.o]) gk.o s2 _ g.o.st);rw [<-cf] at KN;rw [<-cf] at V;have fk:=Aa cf;clear cf;go_wp2_with fail;refine KN.o.mono ?_;rintro e cq ⟨rfl,Q⟩;clear KN;have C:=Q.1;replace c:=bkp c g.o.rlt bk C;replace a:=bkp a g.o.rlt ag C;replace l:=bkp l g.o.rlt c6 C;replace r:=bkp r g.o.rlt c5 C;replace b:=Aa (b.o.keep C (by have:=g.o.rlt;have:=ae.o;omega));replace g:Hx (Rq rb tv ts en w m0 (s3) cq):=Qo.rq g.o Q;clear C Q;clear fe;obtain ⟨d4,aj⟩:=nm (BJ ts en f (deep+1) s3);obtain ⟨db,s4⟩:=d4;have KE:=Aa (eo.o s3 _ g.o.st);rw [<-aj] at KE V;dsimp only at V;have fl:=Aa aj;clear aj;go_wp2_with fail;obtain ⟨zb,ac⟩:=nm cq.heap.size;have cj:Hx (w.heap.size<=zb):=by show _<=_;rw [ac];exact g.o.size
    have cw:Hx (x < zb):=by show _ < _;rw [ac];exact c.o.lt
    have cx:Hx (A < zb):=by show _ < _;rw [ac];exact a.o.lt
    have ej:Hx (H < zb):=by show _ < _;rw [ac];exact l.o.lt
    have ei:Hx (N < zb):=by show _ < _;rw [ac];exact r.o.lt
    refine KE.o.mono ?_;rintro e dt ⟨b0,b1,b2,b3,b4,b5,b6,rfl,L,Q⟩;dsimp only at L Q;rw [<-ac] at L;have u:=Aa L;clear KE L ac;have C:=Q.1;replace c:=bkp c g.o.rlt bk C;replace a:=bkp a g.o.rlt ag C;replace l:=bkp l g.o.rlt c6 C;replace r:=bkp r g.o.rlt c5 C;replace b:=Aa (b.o.keep C (by have:=g.o.rlt;have:=ae.o;omega));replace g:Hx (Rq rb tv ts en w m0 (s4) dt):=Qo.rq g.o Q;clear C Q;obtain ⟨ch,Z⟩:=nm (dt.alloc (ze #[I O b0,I O b1,I O b2,.string b3,zc b4 b5 b6] 49));obtain ⟨T,cs⟩:=nm dt.heap.size;have F:=cs;have el:Hx (w.heap.size<=T):=by show _<=_;rw [F];exact g.o.size
    have ao:Hx (x < T):=by show _ < _;rw [F];exact c.o.lt
    have aq:Hx (A < T):=by show _ < _;rw [F];exact a.o.lt
    have co:Hx (H < T):=by show _ < _;rw [F];exact l.o.lt
    have cl:Hx (N < T):=by show _ < _;rw [F];exact r.o.lt
    have P:Hx (Bx T [I O b0,I O b1,I O b2,.string b3,zc b4 b5 b6] ch):=by show Bx _ _ _;rw [Z,F];exact Bx.new dt [I O b0,I O b1,I O b2,.string b3,zc b4 b5 b6] 49
    replace c:Hx (Bx x [I O 0,I O 0,I O 0,.string ⟨#[]⟩,zc none 0 0] ch):=by show Bx _ _ _;rw [Z];exact c.o.over (bA _ _)
    replace a:Hx (Bx A [I O kk,I O p,I O 0,.string ⟨#[]⟩,zc none 0 0] ch):=by show Bx _ _ _;rw [Z];exact a.o.over (bA _ _)
    replace l:Hx (Bx H [I O a0,I O a1,I O a2,.string a3,zc a4 a5 a6] ch):=by show Bx _ _ _;rw [Z];exact l.o.over (bA _ _)
    replace r:Hx (Bx N [.string ⟨#[43]⟩,.string ⟨#[45]⟩,.string ⟨#[42]⟩,.string ⟨#[60]⟩,.string ⟨#[61,61]⟩] ch):=by show Bx _ _ _;rw [Z];exact r.o.over (bA _ _)
    replace g:Hx (Rq rb tv ts en w m0 (s4) ch):=by show Rq _ _ _ _ _ _ _ _;rw [Z];exact g.o.over (bA _ _)
    replace b:Hx (Off za none ch (fun W=>XE W f [I O a0,I O a1,I O a2,.string a3,zc a4 a5 a6] da)):=by show Off _ _ _ _;rw [Z];exact b.o.over (bA _ _)
    replace u:Hx (Off zb none ch (fun W=>XE W f [I O b0,I O b1,I O b2,.string b3,zc b4 b5 b6] db)):=by show Off _ _ _ _;rw [Z];exact u.o.over (bA _ _)
    obtain ⟨s5,bo⟩:=nm (AB ts [41] s4);have KN:=Aa (BX ⟨#[41]⟩ [41] rfl (by decide) s4 _ g.o.st);rw [<-bo] at KN;rw [<-bo] at V;have gj:=Aa bo;clear bo;go_wp2_with fail;rw [<-Z,<-cs];clear F;clear cs Z;refine KN.o.mono ?_;rintro e dr ⟨rfl,Q⟩;clear KN;have C:=Q.1;replace c:=bkp c g.o.rlt bk C;replace a:=bkp a g.o.rlt ag C;replace l:=bkp l g.o.rlt c6 C;replace r:=bkp r g.o.rlt c5 C;replace P:=bkp P g.o.rlt el C;replace b:=Aa (b.o.keep C (by have:=g.o.rlt;have:=ae.o;omega));replace u:=Aa (u.o.keep C (by have:=g.o.rlt;have:=cj.o;omega));replace g:Hx (Rq rb tv ts en w m0 (s5) dr):=Qo.rq g.o Q;clear C Q;obtain ⟨gg,gf,ge,gd,gc⟩:=rc5 l.o.row;obtain ⟨gb,ga,f9,f8,f7⟩:=rc5 P.o.row;obtain ⟨Y,G⟩:=nm (dr.alloc (ze #[I O a0,I O a1,I O a2,.string a3,zc a4 a5 a6,I O b0,I O b1,I O b2,.string b3,zc b4 b5 b6] 49));obtain ⟨J,dj⟩:=nm dr.heap.size;have E:=dj;have ek:Hx (w.heap.size<=J):=by show _<=_;rw [E];exact g.o.size
    have an:Hx (x < J):=by show _ < _;rw [E];exact c.o.lt
    have ap:Hx (A < J):=by show _ < _;rw [E];exact a.o.lt
    have cn:Hx (H < J):=by show _ < _;rw [E];exact l.o.lt
    have ck:Hx (N < J):=by show _ < _;rw [E];exact r.o.lt
    have cm:Hx (T < J):=by show _ < _;rw [E];exact P.o.lt
    have ar:Hx (Bx J [I O a0,I O a1,I O a2,.string a3,zc a4 a5 a6,I O b0,I O b1,I O b2,.string b3,zc b4 b5 b6] Y):=by show Bx _ _ _;rw [G,E];exact Bx.new dr [I O a0,I O a1,I O a2,.string a3,zc a4 a5 a6,I O b0,I O b1,I O b2,.string b3,zc b4 b5 b6] 49
    replace c:Hx (Bx x [I O 0,I O 0,I O 0,.string ⟨#[]⟩,zc none 0 0] Y):=by show Bx _ _ _;rw [G];exact c.o.over (bA _ _)
    replace a:Hx (Bx A [I O kk,I O p,I O 0,.string ⟨#[]⟩,zc none 0 0] Y):=by show Bx _ _ _;rw [G];exact a.o.over (bA _ _)
    replace l:Hx (Bx H [I O a0,I O a1,I O a2,.string a3,zc a4 a5 a6] Y):=by show Bx _ _ _;rw [G];exact l.o.over (bA _ _)
    replace r:Hx (Bx N [.string ⟨#[43]⟩,.string ⟨#[45]⟩,.string ⟨#[42]⟩,.string ⟨#[60]⟩,.string ⟨#[61,61]⟩] Y):=by show Bx _ _ _;rw [G];exact r.o.over (bA _ _)
    replace P:Hx (Bx T [I O b0,I O b1,I O b2,.string b3,zc b4 b5 b6] Y):=by show Bx _ _ _;rw [G];exact P.o.over (bA _ _)
    replace g:Hx (Rq rb tv ts en w m0 (s5) Y):=by show Rq _ _ _ _ _ _ _ _;rw [G];exact g.o.over (bA _ _)
    replace b:Hx (Off za none Y (fun W=>XE W f [I O a0,I O a1,I O a2,.string a3,zc a4 a5 a6] da)):=by show Off _ _ _ _;rw [G];exact b.o.over (bA _ _)
    replace u:Hx (Off zb none Y (fun W=>XE W f [I O b0,I O b1,I O b2,.string b3,zc b4 b5 b6] db)):=by show Off _ _ _ _;rw [G];exact u.o.over (bA _ _)
    have b8:x≠A:=by have:=M.o;omega
    have ca:A≠x:=by have:=M.o;omega
    have b9:x≠H:=by have:=ab.o;omega
    have cc:H≠x:=by have:=ab.o;omega
    have c7:x≠N:=by have:=af.o;omega
    have c8:N≠x:=by have:=af.o;omega
    have es:x≠T:=by have:=ao.o;omega
    have e2:T≠x:=by have:=ao.o;omega
    have er:x≠J:=by have:=an.o;omega
    have et:J≠x:=by have:=an.o;omega
    have cb:A≠H:=by have:=S.o;omega
    have cd:H≠A:=by have:=S.o;omega
    have dd:A≠N:=by have:=ad.o;omega
    have c9:N≠A:=by have:=ad.o;omega
    have e1:A≠T:=by have:=aq.o;omega
    have e5:T≠A:=by have:=aq.o;omega
    have e0:A≠J:=by have:=ap.o;omega
    have ev:J≠A:=by have:=ap.o;omega
    have de:H≠N:=by have:=bn.o;omega
    have dc:N≠H:=by have:=bn.o;omega
    have e8:H≠T:=by have:=co.o;omega
    have e6:T≠H:=by have:=co.o;omega
    have e7:H≠J:=by have:=cn.o;omega
    have ex:J≠H:=by have:=cn.o;omega
    have ez:N≠T:=by have:=cl.o;omega
    have e4:T≠N:=by have:=cl.o;omega
    have ey:N≠J:=by have:=ck.o;omega
    have eu:J≠N:=by have:=ck.o;omega
    have e3:T≠J:=by have:=cm.o;omega
    have ew:J≠T:=by have:=cm.o;omega
    obtain ⟨bj,ce1,bi,bh,bg⟩:=rc5 a.o.row;obtain ⟨bf,bd,bc,a9,a8⟩:=fz5 a.o.fz;obtain ⟨eg,ef,ee,ed,ec⟩:=rc5 c.o.row;obtain ⟨ea,d9,d8,d7,d6⟩:=fz5 c.o.fz;rw [G] at bj ce1 bi bh bg bf bd bc a9 a8 eg ef ee ed ec ea d9 d8 d7 d6;obtain ⟨cu,ak⟩:=nm (Y.setCell ⟨A,4,none⟩ (zc (some ⟨J,0,none⟩) 2 2));have n:Y.grownBy cu (some A):=by rw [ak];exact (gst (Ah _ _))
    replace a:Hx (Bx A [I O kk,I O p,I O 0,.string ⟨#[]⟩,zc (some ⟨J,0,none⟩) 2 2] cu):=by show Bx _ _ _;rw [ak];exact (a.o.se 4)
    replace c:=Aa (c.o.keep n (by have:=M.o;omega));replace l:=Aa (l.o.keep n (by have:=S.o;omega));replace r:=Aa (r.o.keep n (by have:=ad.o;omega));replace P:=Aa (P.o.keep n (by have:=aq.o;omega));replace ar:=Aa (ar.o.keep n (by have:=ap.o;omega));replace g:=Aa (g.o.box n ag.o);replace b:=Aa (b.o.keep n b7.o);replace u:=Aa (u.o.keep n cx.o);clear n;obtain ⟨fj,dm⟩:=nm (((((cu.setCell ⟨x,0,none⟩ (I O kk)).setCell ⟨x,1,none⟩ (I O p)).setCell ⟨x,2,none⟩ (I O 0)).setCell ⟨x,3,none⟩ (.string ⟨#[]⟩)).setCell ⟨x,4,none⟩ (zc (some ⟨J,0,none⟩) 2 2));have n:cu.grownBy fj (some x):=by rw [dm];exact (gst (gst (gst (gst (gst (Ah _ _))))))
    replace c:Hx (Bx x [I O kk,I O p,I O 0,.string ⟨#[]⟩,zc (some ⟨J,0,none⟩) 2 2] fj):=by show Bx _ _ _;rw [dm];exact (((((c.o.se 0).se 1).se 2).se 3).se 4)
    replace a:=Aa (a.o.keep n (by have:=M.o;omega));replace l:=Aa (l.o.keep n (by have:=ab.o;omega));replace r:=Aa (r.o.keep n (by have:=af.o;omega));replace P:=Aa (P.o.keep n (by have:=ao.o;omega));replace ar:=Aa (ar.o.keep n (by have:=an.o;omega));replace g:=Aa (g.o.box n bk.o);replace b:=Aa (b.o.keep n dp.o);replace u:=Aa (u.o.keep n cw.o);clear n;go_wp2_with fail;refine bodyPost_ret (v:=zg #[I O kk,I O p,I O 0,.string ⟨#[]⟩,zc (some ⟨J,0,none⟩) 2 2]) (by simp [results,Tryz.results60,go_sem, *]) rfl ?_;rw [<-G,<-dj,<-ak,<-dm];rw [V.o];refine ⟨_,_,_,_,_,_,_,rfl,fun W hW=>?_,g.o.gr,g.o.st,by rw [<-fm.o];exact g.o.le⟩;have o1:=(b.o.base ae.o) W hW;have o2:=(u.o.base cj.o) W hW;exact ⟨kk,p,0,⟨#[]⟩,_,[da,db],rfl,rfl,LS.two ((Off.bx ar.o ek.o) W hW) o1 o2⟩
theorem N0 (hall:ts.all Ao=true):∀ (f deep:Nat),f+deep=61->deep<=60->PY rb tv ts en f deep
 | 0,deep,h1,h2=>absurd h1 (by omega)
 | f+1,deep,h1,h2=>fun s w h=>by
  by_cases h3:tl ts s 0=[40]/\deep < 60
  ·exact Qp hall f deep s w h h3 (N0 hall f (deep+1) (by omega) (by omega))
  by_cases h4:tl ts s 0=[45]
  ·exact Qm hall f deep s w h h4
  by_cases h5:C8 (tl ts s 0)=true
  ·exact Ql hall f deep s w h h4 h5
  by_cases h6:tl ts s 0=[40]
  ·exact Pt hall f deep s w h h3 h4 h5 h6
  by_cases h7:tl ts s 0=[]
  ·exact Ps hall f deep s w h h3 h4 h5 h7
  ·exact Pr hall f deep s w h h3 h4 h5 h6 h7
end
section
variable {rb:Nat} {tv:Value} {ts:List Tok} {en:Nat}
def fOf (rb:Nat) (w:World):Nat:=match w.cell? ⟨rb,3,none⟩ with | some (zd true)=>0 | _=>1
def mQ (rb L:Nat) (w:World):Nat:=(L - nOf rb w)+fOf rb w
def bN (b:Bool):Nat:=if b=true then 0 else 1
theorem Et {s:Sg} {w:World} (L:Nat) (h:Sd rb tv ts en s w):mQ rb L w=(L - s.1)+bN s.2:=by
 obtain ⟨-,c,-,a,-,-⟩:=h.cells;unfold mQ nOf fOf bN;rw [c,a];obtain ⟨n,b⟩:=s;cases b <;> simp
def EE (rb:Nat) (tv:Value) (ts:List Tok) (en sz:Nat) (R:World->List Value->D->Prop) (w:World) (s:Sg) (r:List D × Sg) (e:Ending) (w':World):Prop:=∃ a c,e=zh (zc a r.1.length c)/\Off w.heap.size none w' (fun W=>LS sz (R W) W (zc a r.1.length c) r.1)/\r.1.length<=6001/\Qo rb tv ts en w s r.2 w'
theorem IT {L k g:Nat} {s s4:Sg} (h1:s.2=true\/L - s.1 < g+1) (hf:s.2=false) (hk:k+bN s.2<=s.1+1) (hle:s.1<=s4.1) (hlt:s4.2=true\/s.1+1<=s4.1) (h7:s4.1<=L):(s4.2=true\/L - s4.1 < g)/\k+1+bN s4.2<=s4.1+1/\(L - s4.1)+bN s4.2 < (L - s.1)+bN s.2:=by
 have f:L - s.1 < g+1:=h1.elim (fun h=>by rw [h] at hf;cases hf) id;rw [hf] at hk ⊢;have a:bN false=1:=rfl;have b:bN true=0:=rfl;rw [a] at hk ⊢
 cases h4:s4.2 with
 | true=>exact ⟨Or.inl rfl,by rw [b];omega,by rw [b];omega⟩
 | false=>
  rw [h4] at hlt;have c:s.1+1<=s4.1:=hlt.elim (fun h=>by cases h) id;exact ⟨Or.inr (by omega),by rw [a];omega,by rw [a];omega⟩
theorem Fx {s:Sg} {x:List UInt8} (h:s.2=false) (h2:tl ts s 0=x):AB ts x s=(s.1+1,false):=by
 unfold AB;rw [if_neg (by rw [h];simp),if_pos h2]
theorem IK (x:List UInt8) (s:Sg):s.1<=(AB ts x s).1:=by
 unfold AB;split
 ·exact Nat.le_refl _
 ·split
  ·exact Nat.le_succ _
  ·exact Nat.le_refl _
end
section
variable {rb:Nat} {tv:Value} {ts:List Tok} {en:Nat}
def JZ (rb:Nat) (tv:Value) (ts:List Tok) (en f:Nat) (w:World) (s:Sg) (r:D × Sg) (e:Ending) (w':World):Prop:=∃ (kd a:Int) (x y:ByteArray) (e0 e1 e2:Int) (e3:ByteArray) (q0:Option Addr) (q1 q2:Nat) (q3:Option Addr) (q4 q5:Nat) (q6:Option Addr) (q7 q8:Nat) (q9:Option Addr) (r0 r1:Nat),e=zh (zg #[I O kd,I O a,.string x,.string y,I O e0,I O e1,I O e2,.string e3,zc q0 q1 q2,zc q3 q4 q5,zc q6 q7 q8,zc q9 r0 r1])/\Off w.heap.size none w' (fun W=>XC W f [I O kd,I O a,.string x,.string y,I O e0,I O e1,I O e2,.string e3,zc q0 q1 q2,zc q3 q4 q5,zc q6 q7 q8,zc q9 r0 r1] r.1)/\(r.2.2=true\/s.1+1<=r.2.1)/\Qo rb tv ts en w s r.2 w'
theorem J9 (g:Nat) (x:List UInt8) (acc:List D) (s:Sg) (h:s.2=true\/tl ts s 0=x):BP ts en g x acc s=(acc,s):=by
 match g with
 | 0=>rfl
 | 1=>rfl
 | g+2=>
  rw [BP,if_neg];rintro ⟨a,b⟩;rcases h with h | h
  ·rw [h] at a;cases a
  ·exact b h
theorem J8 (g:Nat) (hg:1<=g) (x:List UInt8) (acc:List D) (s:Sg) (h:s.2=false) (h2:¬ tl ts s 0=x):BP ts en (g+1) x acc s=BP ts en g x (acc++[(EW ts en g s).1]) (EW ts en g s).2:=by
 obtain ⟨g,rfl⟩:∃ q,g=q+1:=⟨g - 1,by omega⟩;rw [BP,if_pos ⟨h,h2⟩];rfl
theorem NX {L k g:Nat} {s s4:Sg} (h1:s.2=true\/2*(L - s.1)+2<=g+1) (hf:s.2=false) (hk:k+bN s.2<=s.1+1) (hle:s.1<=s4.1) (hlt:s4.2=true\/s.1+1<=s4.1) (h7:s4.1<=L):(s4.2=true\/2*(L - s4.1)+2<=g)/\k+1+bN s4.2<=s4.1+1/\(L - s4.1)+bN s4.2 < (L - s.1)+bN s.2:=by
 have f:2*(L - s.1)+2<=g+1:=h1.elim (fun h=>by rw [h] at hf;cases hf) id;rw [hf] at hk ⊢;have a:bN false=1:=rfl;have b:bN true=0:=rfl;rw [a] at hk ⊢
 cases h4:s4.2 with
 | true=>exact ⟨Or.inl rfl,by rw [b];omega,by rw [b];omega⟩
 | false=>
  rw [h4] at hlt;have c:s.1+1<=s4.1:=hlt.elim (fun h=>by cases h) id;exact ⟨Or.inr (by omega),by rw [a];omega,by rw [a];omega⟩
end
end Go.Proofs.YtipngnjffjajpaaGreatDoor.Tx
