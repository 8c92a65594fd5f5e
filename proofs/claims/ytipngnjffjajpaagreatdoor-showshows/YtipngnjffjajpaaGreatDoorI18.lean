/- The document's reader in memory: expressions in brackets. -/
import Derived.Test.YtipngnjffjajpaaGreatDoorI17
set_option linter.unusedVariables false
set_option maxHeartbeats 8000000
set_option maxRecDepth 100000
namespace Go.Proofs.YtipngnjffjajpaaGreatDoor.Tx
open Go.RowKit
open Go.Value renaming int -> A, slice -> O, bool -> zc, agg -> ze, pointer -> zf, tuple -> zh
open Go.IntKind renaming i64 -> J
open Go.Obj renaming cells -> zd
open Go.Ending renaming returned -> zg
section
variable {rb:Nat} {tv:Value} {ts:List Tok} {en:Nat}
theorem OG (hall:ts.all Ak=true) (f deep:Nat) (s:Sg) (w:World) (h:Sd rb tv ts en s w) (h1:tl ts s 0=[40]/\deep < 60) (ih:Oc rb tv ts en f (deep+1)):Calls Tryz.prog 60 #[zf (some ⟨rb,0,none⟩),A J (deep:Int)] w (CH rb tv ts en (f+1) w s (AQ ts en (f+1) deep s)):=by
 obtain ⟨fw,dh⟩:=nm (AQ ts en (f+1) deep s);rw [<-dh];have V:Hx (fw=(fun p1:D × Sg=>(fun p2:D × Sg=>(eD (Bz (tl ts p1.2 0)) (AA ts en s.1) 0 noS [p1.1,p2.1],Af ts [41] p2.2)) (AQ ts en f (deep+1) (if Bz (tl ts p1.2 0)=0 then B8 p1.2 else Af ts (tl ts p1.2 0) p1.2))) (AQ ts en f (deep+1) (Af ts [40] s))):=by show _=_;rw [dh,AQ];rw [if_pos h1]
 obtain ⟨m0,d5⟩:=nm s.1;have g:Hx (Rq rb tv ts en w m0 (s) w):=by show Rq _ _ _ _ _ _ _ _;rw [d5];exact Rq.start h
 have fn:=Aa d5;clear dh d5 h;obtain ⟨V1,dz⟩:=nm (w.alloc (zd #[A J 0,A J 0,A J 0,.string ⟨#[]⟩,O none 0 0] 49));obtain ⟨u,c0⟩:=nm w.heap.size;have dg:=c0;have bk:Hx (w.heap.size<=u):=by show _<=_;rw [dg];exact g.o.size
 have c:Hx (Bx u [A J 0,A J 0,A J 0,.string ⟨#[]⟩,O none 0 0] V1):=by show Bx _ _ _;rw [dz,dg];exact Bx.new w [A J 0,A J 0,A J 0,.string ⟨#[]⟩,O none 0 0] 49
 replace g:Hx (Rq rb tv ts en w m0 (s) V1):=by show Rq _ _ _ _ _ _ _ _;rw [dz];exact g.o.over (bA _ _)
 go_enter Tryz.func60,Tryz.ntmps60;obtain ⟨p,hp⟩:=nm (AA ts en (s).1);have KH:Hx (Ro 28 #[zf (some ⟨rb,0,none⟩)] V1 (A J p)):=by rw [hp];exact B5 s _ g.o.st
 go_wp2_with fail;rw [<-dz,<-c0];clear dg;clear c0 dz;refine KH.o.mono ?_;rintro e w2 ⟨rfl,R⟩;clear KH;replace c:=Aa (c.o.over R);replace g:Hx (Rq rb tv ts en w m0 (s) w2):=g.o.over R;clear R;rw [<-hp] at V;clear hp;obtain ⟨V3,dk⟩:=nm (w2.alloc (zd #[A J 1,A J p,A J 0,.string ⟨#[]⟩,O none 0 0] 49));obtain ⟨x,c2⟩:=nm w2.heap.size;have cz:=c2;have ag:Hx (w.heap.size<=x):=by show _<=_;rw [cz];exact g.o.size
 have M:Hx (u < x):=by show _ < _;rw [cz];exact c.o.lt
 have a:Hx (Bx x [A J 1,A J p,A J 0,.string ⟨#[]⟩,O none 0 0] V3):=by show Bx _ _ _;rw [dk,cz];exact Bx.new w2 [A J 1,A J p,A J 0,.string ⟨#[]⟩,O none 0 0] 49
 replace c:Hx (Bx u [A J 0,A J 0,A J 0,.string ⟨#[]⟩,O none 0 0] V3):=by show Bx _ _ _;rw [dk];exact c.o.over (bA _ _)
 replace g:Hx (Rq rb tv ts en w m0 (s) V3):=by show Rq _ _ _ _ _ _ _ _;rw [dk];exact g.o.over (bA _ _)
 obtain ⟨t,ht⟩:=nm (tx ts s 0);have KT:Hx (Ro 57 #[zf (some ⟨rb,0,none⟩),A J 0] V3 (.string t)):=by rw [ht];exact AP 0 (by omega) s _ g.o.st
 have Ht:=Aa ht;clear ht;go_wp2_with fail;rw [<-dk,<-c2];clear cz;clear c2 dk;refine KT.o.mono ?_;rintro e w4 ⟨rfl,R⟩;clear KT;replace c:=Aa (c.o.over R);replace a:=Aa (a.o.over R);replace g:Hx (Rq rb tv ts en w m0 (s) w4):=g.o.over R;clear R;have q1:(t.toList == [40])=true:=CO Ht.o h1.1;have f8:(deep:Int) < 60:=by have:=h1.2;omega
 have g1:(deep:Int)+1<=60:=by omega
 have eo:Hx (∀ (s:Sg) (w:World),Sd rb tv ts en s w->Calls Tryz.prog 60 #[zf (some ⟨rb,0,none⟩),A J ((deep:Int)+1)] w (CH rb tv ts en f w s (AQ ts en f (deep+1) s))):=fun s w h=>ih s w h;clear h1 ih;obtain ⟨s1,dv⟩:=nm (Af ts [40] s);have KN:=Aa (AD ⟨#[40]⟩ [40] rfl (by decide) s _ g.o.st);rw [<-dv] at KN;rw [<-dv] at V;have g4:=Aa dv;clear dv;go_wp2_with fail;refine KN.o.mono ?_;rintro e w5 ⟨rfl,Q⟩;clear KN;have C:=Q.1;replace c:=bkp c g.o.rlt bk C;replace a:=bkp a g.o.rlt ag C;replace g:Hx (Rq rb tv ts en w m0 (s1) w5):=Qo.rq g.o Q;clear C Q;clear q1 f8;obtain ⟨f1,di⟩:=nm (AQ ts en f (deep+1) s1);obtain ⟨da,s2⟩:=f1;have KE:=Aa (eo.o s1 _ g.o.st);rw [<-di] at KE V;dsimp only at V;have gy:=Aa di;clear di;go_wp2_with fail;obtain ⟨za,df⟩:=nm w5.heap.size;have ae:Hx (w.heap.size<=za):=by show _<=_;rw [df];exact g.o.size
 have dp:Hx (u < za):=by show _ < _;rw [df];exact c.o.lt
 have b7:Hx (x < za):=by show _ < _;rw [df];exact a.o.lt
 refine KE.o.mono ?_;rintro e w6 ⟨a0,a1,a2,a3,a4,a5,a6,rfl,L,Q⟩;dsimp only at L Q;rw [<-df] at L;have b:=Aa L;clear KE L df;have C:=Q.1;replace c:=bkp c g.o.rlt bk C;replace a:=bkp a g.o.rlt ag C;replace g:Hx (Rq rb tv ts en w m0 (s2) w6):=Qo.rq g.o Q;clear C Q;obtain ⟨V7,ct⟩:=nm (w6.alloc (zd #[A J a0,A J a1,A J a2,.string a3,O a4 a5 a6] 49));obtain ⟨H,c3⟩:=nm w6.heap.size;have ce:=c3;have c6:Hx (w.heap.size<=H):=by show _<=_;rw [ce];exact g.o.size
 have ab:Hx (u < H):=by show _ < _;rw [ce];exact c.o.lt
 have S:Hx (x < H):=by show _ < _;rw [ce];exact a.o.lt
 have l:Hx (Bx H [A J a0,A J a1,A J a2,.string a3,O a4 a5 a6] V7):=by show Bx _ _ _;rw [ct,ce];exact Bx.new w6 [A J a0,A J a1,A J a2,.string a3,O a4 a5 a6] 49
 replace c:Hx (Bx u [A J 0,A J 0,A J 0,.string ⟨#[]⟩,O none 0 0] V7):=by show Bx _ _ _;rw [ct];exact c.o.over (bA _ _)
 replace a:Hx (Bx x [A J 1,A J p,A J 0,.string ⟨#[]⟩,O none 0 0] V7):=by show Bx _ _ _;rw [ct];exact a.o.over (bA _ _)
 replace g:Hx (Rq rb tv ts en w m0 (s2) V7):=by show Rq _ _ _ _ _ _ _ _;rw [ct];exact g.o.over (bA _ _)
 replace b:Hx (Off za none V7 (fun W=>XE W f [A J a0,A J a1,A J a2,.string a3,O a4 a5 a6] da)):=by show Off _ _ _ _;rw [ct];exact b.o.over (bA _ _)
 go_upto_region 8 with fail
 rw [<-ct,<-c3];clear ce;clear c3 ct;have b8:u≠x:=by have:=M.o;omega
 have ca:x≠u:=by have:=M.o;omega
 have b9:u≠H:=by have:=ab.o;omega
 have cc:H≠u:=by have:=ab.o;omega
 have cb:x≠H:=by have:=S.o;omega
 have cd:H≠x:=by have:=S.o;omega
 obtain ⟨bj,ce1,bi,bh,bg⟩:=rc5 a.o.row;obtain ⟨bf,bd,bc,a9,a8⟩:=fz5 a.o.fz;obtain ⟨V8,dy⟩:=nm (V7.setCell ⟨x,0,none⟩ (A J 0));have n:V7.grownBy V8 (some x):=by rw [dy];exact (gst (Ad _ _))
 replace a:Hx (Bx x [A J 0,A J p,A J 0,.string ⟨#[]⟩,O none 0 0] V8):=by show Bx _ _ _;rw [dy];exact (a.o.se 0)
 replace c:=Aa (c.o.keep n (by have:=M.o;omega));replace l:=Aa (l.o.keep n (by have:=S.o;omega));replace g:=Aa (g.o.box n ag.o);replace b:=Aa (b.o.keep n b7.o);clear n
 go_upto_region 9 with fail
 rw [<-dy];clear a8 a9 bc bd bf bg bh bi ce1 bj cd cb cc b9 ca b8;clear dy;obtain ⟨V9,cg⟩:=nm (V8.alloc (zd #[.string ⟨#[43]⟩,.string ⟨#[45]⟩,.string ⟨#[42]⟩,.string ⟨#[60]⟩,.string ⟨#[61,61]⟩] 9));obtain ⟨N,c1⟩:=nm V8.heap.size;have bm:=c1;have c5:Hx (w.heap.size<=N):=by show _<=_;rw [bm];exact g.o.size
 have af:Hx (u < N):=by show _ < _;rw [bm];exact c.o.lt
 have ad:Hx (x < N):=by show _ < _;rw [bm];exact a.o.lt
 have bn:Hx (H < N):=by show _ < _;rw [bm];exact l.o.lt
 have q:Hx (Bx N [.string ⟨#[43]⟩,.string ⟨#[45]⟩,.string ⟨#[42]⟩,.string ⟨#[60]⟩,.string ⟨#[61,61]⟩] V9):=by show Bx _ _ _;rw [cg,bm];exact Bx.new V8 [.string ⟨#[43]⟩,.string ⟨#[45]⟩,.string ⟨#[42]⟩,.string ⟨#[60]⟩,.string ⟨#[61,61]⟩] 9
 replace c:Hx (Bx u [A J 0,A J 0,A J 0,.string ⟨#[]⟩,O none 0 0] V9):=by show Bx _ _ _;rw [cg];exact c.o.over (bA _ _)
 replace a:Hx (Bx x [A J 0,A J p,A J 0,.string ⟨#[]⟩,O none 0 0] V9):=by show Bx _ _ _;rw [cg];exact a.o.over (bA _ _)
 replace l:Hx (Bx H [A J a0,A J a1,A J a2,.string a3,O a4 a5 a6] V9):=by show Bx _ _ _;rw [cg];exact l.o.over (bA _ _)
 replace g:Hx (Rq rb tv ts en w m0 (s2) V9):=by show Rq _ _ _ _ _ _ _ _;rw [cg];exact g.o.over (bA _ _)
 replace b:Hx (Off za none V9 (fun W=>XE W f [A J a0,A J a1,A J a2,.string a3,O a4 a5 a6] da)):=by show Off _ _ _ _;rw [cg];exact b.o.over (bA _ _)
 skip
 go_wp2_with fail;rw [<-cg,<-c1];clear bm;clear c1 cg;go_loopw [9] (fun i wr=>∃ (j:Nat) (kk:Int),j<=5/\i=A J (j:Int)/\kk=opU j (tl ts s2 0)/\Rq rb tv ts en w m0 (s2) wr/\Bx u [A J 0,A J 0,A J 0,.string ⟨#[]⟩,O none 0 0] wr/\Bx x [A J kk,A J p,A J 0,.string ⟨#[]⟩,O none 0 0] wr/\Bx H [A J a0,A J a1,A J a2,.string a3,O a4 a5 a6] wr/\Bx N [.string ⟨#[43]⟩,.string ⟨#[45]⟩,.string ⟨#[42]⟩,.string ⟨#[60]⟩,.string ⟨#[61,61]⟩] wr/\Off za none wr (fun W=>XE W f [A J a0,A J a1,A J a2,.string a3,O a4 a5 a6] da)) (fun i _=>5 - (intOf i).toNat)
 case atStart=>exact ⟨0,0,Nat.zero_le _,rfl,(O5 _).symm,g.o,c.o,a.o,l.o,q.o,b.o⟩
 case round=>
  obtain ⟨j,kk,hj,rfl,fe,hd,c0,c2,c3,c1,fc⟩:=hrel;replace g:=Aa hd;replace c:=Aa c0;replace a:=Aa c2;replace l:=Aa c3;replace q:=Aa c1;replace b:=Aa fc;have em:=Aa fe;clear hd c0 c2 c3 c1 fc fe;by_cases hjl:j < 5
  ·have f7:(j:Int) < 5:=by omega
   obtain ⟨y,hy,fb,fa⟩:=Om (tl ts s2 0) j hjl;have dl:wr.cell? ⟨N,j,none⟩=some (.string y):=q.o.row j _ hy;have HY:=Aa (And.intro fb fa);obtain ⟨t2,cr⟩:=nm (tx ts s2 0);have KT:Hx (∀ X,Ov wr X->Ro 57 #[zf (some ⟨rb,0,none⟩),A J 0] X (.string t2)):=fun X hX=>by rw [cr];exact AP 0 (by omega) s2 X (g.o.st.below hX)
   have d1:=Aa cr;clear hy fb fa cr;by_cases Q:t2.data.toList=y.data.toList
   ·have f5:(t2.toList == y.toList)=true:=by rw [teq];simpa using Q
    have HN:Hx (3+(j:Int)=opU (j+1) (tl ts s2 0)):=by show _=_;exact (HY.o.1 (by unfold tl;rw [<-d1.o];exact Q)).symm
    clear Q;go_wp2_with fail;refine gS (fun Wz=>Below wr.heap.size wr Wz) (Below.refl _ _).drew fun B=>?_;generalize wr.drew=W at B ⊢;refine kO 0 ?_;refine kO 2 ?_;refine kO 3 ?_;refine kO 4 ?_;refine kO 5 ?_;refine rdA 1 rfl fun K hK=>?_;go_simp;refine (KT.o _ B).mono ?_;rintro e W8 ⟨rfl,R⟩;have cy:=Aa (Ab B R);clear R B KT;go_simp;refine xK hK (cy.o) fun B=>?_;clear hK K;refine kO 6 ?_;refine gE ?_
    skip
    have R:=cy.o;clear cy B dl;replace c:=Aa (c.o.over R);replace a:=Aa (a.o.over R);replace l:=Aa (l.o.over R);replace q:=Aa (q.o.over R);replace b:=Aa (b.o.over R);replace g:Hx (Rq rb tv ts en w m0 (s2) W8):=g.o.over R;clear R;obtain ⟨bj,ce1,bi,bh,bg⟩:=rc5 a.o.row;obtain ⟨bf,bd,bc,a9,a8⟩:=fz5 a.o.fz;obtain ⟨c4,al⟩:=nm (W8.setCell ⟨x,0,none⟩ (A J (3+(j:Int))));have n:W8.grownBy c4 (some x):=by rw [al];exact (gst (Ad _ _))
    replace a:Hx (Bx x [A J (3+(j:Int)),A J p,A J 0,.string ⟨#[]⟩,O none 0 0] c4):=by show Bx _ _ _;rw [al];exact (a.o.se 0)
    replace c:=Aa (c.o.keep n (by have:=M.o;omega));replace l:=Aa (l.o.keep n (by have:=S.o;omega));replace q:=Aa (q.o.keep n (by have:=ad.o;omega));replace g:=Aa (g.o.box n ag.o);replace b:=Aa (b.o.keep n b7.o);clear n;go_wp2_with fail;rw [<-al];exact ⟨⟨j+1,_,by omega,by go_num,HN.o,g.o,c.o,a.o,l.o,q.o,b.o⟩,by simp [intOf];omega⟩
   ·have f5:(t2.toList == y.toList)=false:=by rw [teq];simpa using Q
    have HN:Hx (kk=opU (j+1) (tl ts s2 0)):=by show _=_;rw [em.o];exact (HY.o.2 (by unfold tl;rw [<-d1.o];exact Q)).symm
    clear Q;go_wp2_with fail;refine gS (fun Wz=>Below wr.heap.size wr Wz) (Below.refl _ _).drew fun B=>?_;generalize wr.drew=W at B ⊢;refine kO 0 ?_;refine kO 2 ?_;refine kO 3 ?_;refine kO 4 ?_;refine kO 5 ?_;refine rdA 1 rfl fun K hK=>?_;go_simp;refine (KT.o _ B).mono ?_;rintro e W8 ⟨rfl,R⟩;have cy:=Aa (Ab B R);clear R B KT;go_simp;refine xK hK (cy.o) fun B=>?_;clear hK K;refine kO 6 ?_;refine gE ?_
    skip
    have R:=cy.o;clear cy B dl;replace c:=Aa (c.o.over R);replace a:=Aa (a.o.over R);replace l:=Aa (l.o.over R);replace q:=Aa (q.o.over R);replace b:=Aa (b.o.over R);replace g:Hx (Rq rb tv ts en w m0 (s2) W8):=g.o.over R;clear R;go_wp2_with fail;exact ⟨⟨j+1,_,by omega,by go_num,HN.o,g.o,c.o,a.o,l.o,q.o,b.o⟩,by simp [intOf];omega⟩
  ·have f7:¬ (j:Int) < 5:=by omega
   have fg:j=5:=by omega
   have dx:=em.o;rw [fg,O4] at dx;rw [<-dx] at V;have gp:=Aa dx;clear fg dx em;by_cases hk0:kk=0
   ·subst hk0
    rw [if_pos rfl] at V;have b8:u≠x:=by have:=M.o;omega
    have ca:x≠u:=by have:=M.o;omega
    have b9:u≠H:=by have:=ab.o;omega
    have cc:H≠u:=by have:=ab.o;omega
    have c7:u≠N:=by have:=af.o;omega
    have c8:N≠u:=by have:=af.o;omega
    have cb:x≠H:=by have:=S.o;omega
    have cd:H≠x:=by have:=S.o;omega
    have dd:x≠N:=by have:=ad.o;omega
    have c9:N≠x:=by have:=ad.o;omega
    have de:H≠N:=by have:=bn.o;omega
    have dc:N≠H:=by have:=bn.o;omega
    obtain ⟨bj,ce1,bi,bh,bg⟩:=rc5 a.o.row;obtain ⟨bf,bd,bc,a9,a8⟩:=fz5 a.o.fz;obtain ⟨f0,fy,rc2,fx,fv,fu⟩:=g.o.st.cells;have dw:=g.o.st.fail;obtain ⟨c4,al⟩:=nm (wr.setCell ⟨rb,3,none⟩ (zc true));rw [<-al] at dw;have Q:Qo rb tv ts en wr s2 (B8 s2) c4:=⟨dw.2,dw.1,Nat.le_refl _⟩;clear dw;obtain ⟨s3,cf⟩:=nm (B8 s2);rw [<-cf] at Q;have fl:=Aa cf;clear cf;have C:=Q.1;replace c:=bkp c g.o.rlt bk C;replace a:=bkp a g.o.rlt ag C;replace l:=bkp l g.o.rlt c6 C;replace q:=bkp q g.o.rlt c5 C;replace b:=Aa (b.o.keep C (by have:=g.o.rlt;have:=ae.o;omega));replace g:Hx (Rq rb tv ts en w m0 (s3) c4):=Qo.rq g.o Q;clear C Q;rw [<-fl.o] at V;obtain ⟨d4,aj⟩:=nm (AQ ts en f (deep+1) s3);obtain ⟨db,s4⟩:=d4;have KE:=Aa (eo.o s3 _ g.o.st);rw [<-aj] at KE V;dsimp only at V;have fm:=Aa aj;clear aj;go_wp2_with fail;rw [<-al];clear fu fv fx rc2 fy f0 a8 a9 bc bd bf bg bh bi ce1 bj dc de c9 dd cd cb c8 c7 cc b9 ca b8;clear al;obtain ⟨zb,ac⟩:=nm c4.heap.size;have cj:Hx (w.heap.size<=zb):=by show _<=_;rw [ac];exact g.o.size
    have cw:Hx (u < zb):=by show _ < _;rw [ac];exact c.o.lt
    have cx:Hx (x < zb):=by show _ < _;rw [ac];exact a.o.lt
    have ej:Hx (H < zb):=by show _ < _;rw [ac];exact l.o.lt
    have ei:Hx (N < zb):=by show _ < _;rw [ac];exact q.o.lt
    refine KE.o.mono ?_;rintro e cq ⟨b0,b1,b2,b3,b4,b5,b6,rfl,L,Q⟩;dsimp only at L Q;rw [<-ac] at L;have r:=Aa L;clear KE L ac;have C:=Q.1;replace c:=bkp c g.o.rlt bk C;replace a:=bkp a g.o.rlt ag C;replace l:=bkp l g.o.rlt c6 C;replace q:=bkp q g.o.rlt c5 C;replace b:=Aa (b.o.keep C (by have:=g.o.rlt;have:=ae.o;omega));replace g:Hx (Rq rb tv ts en w m0 (s4) cq):=Qo.rq g.o Q;clear C Q;obtain ⟨ci,aa⟩:=nm (cq.alloc (zd #[A J b0,A J b1,A J b2,.string b3,O b4 b5 b6] 49));obtain ⟨T,cs⟩:=nm cq.heap.size;have F:=cs;have el:Hx (w.heap.size<=T):=by show _<=_;rw [F];exact g.o.size
    have ao:Hx (u < T):=by show _ < _;rw [F];exact c.o.lt
    have aq:Hx (x < T):=by show _ < _;rw [F];exact a.o.lt
    have co:Hx (H < T):=by show _ < _;rw [F];exact l.o.lt
    have cl:Hx (N < T):=by show _ < _;rw [F];exact q.o.lt
    have P:Hx (Bx T [A J b0,A J b1,A J b2,.string b3,O b4 b5 b6] ci):=by show Bx _ _ _;rw [aa,F];exact Bx.new cq [A J b0,A J b1,A J b2,.string b3,O b4 b5 b6] 49
    replace c:Hx (Bx u [A J 0,A J 0,A J 0,.string ⟨#[]⟩,O none 0 0] ci):=by show Bx _ _ _;rw [aa];exact c.o.over (bA _ _)
    replace a:Hx (Bx x [A J 0,A J p,A J 0,.string ⟨#[]⟩,O none 0 0] ci):=by show Bx _ _ _;rw [aa];exact a.o.over (bA _ _)
    replace l:Hx (Bx H [A J a0,A J a1,A J a2,.string a3,O a4 a5 a6] ci):=by show Bx _ _ _;rw [aa];exact l.o.over (bA _ _)
    replace q:Hx (Bx N [.string ⟨#[43]⟩,.string ⟨#[45]⟩,.string ⟨#[42]⟩,.string ⟨#[60]⟩,.string ⟨#[61,61]⟩] ci):=by show Bx _ _ _;rw [aa];exact q.o.over (bA _ _)
    replace g:Hx (Rq rb tv ts en w m0 (s4) ci):=by show Rq _ _ _ _ _ _ _ _;rw [aa];exact g.o.over (bA _ _)
    replace b:Hx (Off za none ci (fun W=>XE W f [A J a0,A J a1,A J a2,.string a3,O a4 a5 a6] da)):=by show Off _ _ _ _;rw [aa];exact b.o.over (bA _ _)
    replace r:Hx (Off zb none ci (fun W=>XE W f [A J b0,A J b1,A J b2,.string b3,O b4 b5 b6] db)):=by show Off _ _ _ _;rw [aa];exact r.o.over (bA _ _)
    obtain ⟨s5,bo⟩:=nm (Af ts [41] s4);have KN:=Aa (AD ⟨#[41]⟩ [41] rfl (by decide) s4 _ g.o.st);rw [<-bo] at KN;rw [<-bo] at V;have gl:=Aa bo;clear bo;go_wp2_with fail;rw [<-aa,<-cs];clear F;clear cs aa;refine KN.o.mono ?_;rintro e ds ⟨rfl,Q⟩;clear KN;have C:=Q.1;replace c:=bkp c g.o.rlt bk C;replace a:=bkp a g.o.rlt ag C;replace l:=bkp l g.o.rlt c6 C;replace q:=bkp q g.o.rlt c5 C;replace P:=bkp P g.o.rlt el C;replace b:=Aa (b.o.keep C (by have:=g.o.rlt;have:=ae.o;omega));replace r:=Aa (r.o.keep C (by have:=g.o.rlt;have:=cj.o;omega));replace g:Hx (Rq rb tv ts en w m0 (s5) ds):=Qo.rq g.o Q;clear C Q;obtain ⟨gi,gh,gg,gf,ge⟩:=rc5 l.o.row;obtain ⟨gd,gc,gb,ga,f9⟩:=rc5 P.o.row;obtain ⟨am,U⟩:=nm (ds.alloc (zd #[A J a0,A J a1,A J a2,.string a3,O a4 a5 a6,A J b0,A J b1,A J b2,.string b3,O b4 b5 b6] 49));obtain ⟨I,dj⟩:=nm ds.heap.size;have E:=dj;have ek:Hx (w.heap.size<=I):=by show _<=_;rw [E];exact g.o.size
    have an:Hx (u < I):=by show _ < _;rw [E];exact c.o.lt
    have ap:Hx (x < I):=by show _ < _;rw [E];exact a.o.lt
    have cn:Hx (H < I):=by show _ < _;rw [E];exact l.o.lt
    have ck:Hx (N < I):=by show _ < _;rw [E];exact q.o.lt
    have cm:Hx (T < I):=by show _ < _;rw [E];exact P.o.lt
    have ar:Hx (Bx I [A J a0,A J a1,A J a2,.string a3,O a4 a5 a6,A J b0,A J b1,A J b2,.string b3,O b4 b5 b6] am):=by show Bx _ _ _;rw [U,E];exact Bx.new ds [A J a0,A J a1,A J a2,.string a3,O a4 a5 a6,A J b0,A J b1,A J b2,.string b3,O b4 b5 b6] 49
    replace c:Hx (Bx u [A J 0,A J 0,A J 0,.string ⟨#[]⟩,O none 0 0] am):=by show Bx _ _ _;rw [U];exact c.o.over (bA _ _)
    replace a:Hx (Bx x [A J 0,A J p,A J 0,.string ⟨#[]⟩,O none 0 0] am):=by show Bx _ _ _;rw [U];exact a.o.over (bA _ _)
    replace l:Hx (Bx H [A J a0,A J a1,A J a2,.string a3,O a4 a5 a6] am):=by show Bx _ _ _;rw [U];exact l.o.over (bA _ _)
    replace q:Hx (Bx N [.string ⟨#[43]⟩,.string ⟨#[45]⟩,.string ⟨#[42]⟩,.string ⟨#[60]⟩,.string ⟨#[61,61]⟩] am):=by show Bx _ _ _;rw [U];exact q.o.over (bA _ _)
    replace P:Hx (Bx T [A J b0,A J b1,A J b2,.string b3,O b4 b5 b6] am):=by show Bx _ _ _;rw [U];exact P.o.over (bA _ _)
    replace g:Hx (Rq rb tv ts en w m0 (s5) am):=by show Rq _ _ _ _ _ _ _ _;rw [U];exact g.o.over (bA _ _)
    replace b:Hx (Off za none am (fun W=>XE W f [A J a0,A J a1,A J a2,.string a3,O a4 a5 a6] da)):=by show Off _ _ _ _;rw [U];exact b.o.over (bA _ _)
    replace r:Hx (Off zb none am (fun W=>XE W f [A J b0,A J b1,A J b2,.string b3,O b4 b5 b6] db)):=by show Off _ _ _ _;rw [U];exact r.o.over (bA _ _)
    have b8:u≠x:=by have:=M.o;omega
    have ca:x≠u:=by have:=M.o;omega
    have b9:u≠H:=by have:=ab.o;omega
    have cc:H≠u:=by have:=ab.o;omega
    have c7:u≠N:=by have:=af.o;omega
    have c8:N≠u:=by have:=af.o;omega
    have et:u≠T:=by have:=ao.o;omega
    have e3:T≠u:=by have:=ao.o;omega
    have es:u≠I:=by have:=an.o;omega
    have eu:I≠u:=by have:=an.o;omega
    have cb:x≠H:=by have:=S.o;omega
    have cd:H≠x:=by have:=S.o;omega
    have dd:x≠N:=by have:=ad.o;omega
    have c9:N≠x:=by have:=ad.o;omega
    have e2:x≠T:=by have:=aq.o;omega
    have e6:T≠x:=by have:=aq.o;omega
    have e1:x≠I:=by have:=ap.o;omega
    have ew:I≠x:=by have:=ap.o;omega
    have de:H≠N:=by have:=bn.o;omega
    have dc:N≠H:=by have:=bn.o;omega
    have e9:H≠T:=by have:=co.o;omega
    have e7:T≠H:=by have:=co.o;omega
    have e8:H≠I:=by have:=cn.o;omega
    have ey:I≠H:=by have:=cn.o;omega
    have e0:N≠T:=by have:=cl.o;omega
    have e5:T≠N:=by have:=cl.o;omega
    have ez:N≠I:=by have:=ck.o;omega
    have ev:I≠N:=by have:=ck.o;omega
    have e4:T≠I:=by have:=cm.o;omega
    have ex:I≠T:=by have:=cm.o;omega
    obtain ⟨bj,ce1,bi,bh,bg⟩:=rc5 a.o.row;obtain ⟨bf,bd,bc,a9,a8⟩:=fz5 a.o.fz;obtain ⟨eg,ef,ee,ed,ec⟩:=rc5 c.o.row;obtain ⟨ea,d9,d8,d7,d6⟩:=fz5 c.o.fz;rw [U] at bj ce1 bi bh bg bf bd bc a9 a8 eg ef ee ed ec ea d9 d8 d7 d6;obtain ⟨Y,G⟩:=nm (am.setCell ⟨x,4,none⟩ (O (some ⟨I,0,none⟩) 2 2));have n:am.grownBy Y (some x):=by rw [G];exact (gst (Ad _ _))
    replace a:Hx (Bx x [A J 0,A J p,A J 0,.string ⟨#[]⟩,O (some ⟨I,0,none⟩) 2 2] Y):=by show Bx _ _ _;rw [G];exact (a.o.se 4)
    replace c:=Aa (c.o.keep n (by have:=M.o;omega));replace l:=Aa (l.o.keep n (by have:=S.o;omega));replace q:=Aa (q.o.keep n (by have:=ad.o;omega));replace P:=Aa (P.o.keep n (by have:=aq.o;omega));replace ar:=Aa (ar.o.keep n (by have:=ap.o;omega));replace g:=Aa (g.o.box n ag.o);replace b:=Aa (b.o.keep n b7.o);replace r:=Aa (r.o.keep n cx.o);clear n;obtain ⟨cu,ak⟩:=nm (((((Y.setCell ⟨u,0,none⟩ (A J 0)).setCell ⟨u,1,none⟩ (A J p)).setCell ⟨u,2,none⟩ (A J 0)).setCell ⟨u,3,none⟩ (.string ⟨#[]⟩)).setCell ⟨u,4,none⟩ (O (some ⟨I,0,none⟩) 2 2));have n:Y.grownBy cu (some u):=by rw [ak];exact (gst (gst (gst (gst (gst (Ad _ _))))))
    replace c:Hx (Bx u [A J 0,A J p,A J 0,.string ⟨#[]⟩,O (some ⟨I,0,none⟩) 2 2] cu):=by show Bx _ _ _;rw [ak];exact (((((c.o.se 0).se 1).se 2).se 3).se 4)
    replace a:=Aa (a.o.keep n (by have:=M.o;omega));replace l:=Aa (l.o.keep n (by have:=ab.o;omega));replace q:=Aa (q.o.keep n (by have:=af.o;omega));replace P:=Aa (P.o.keep n (by have:=ao.o;omega));replace ar:=Aa (ar.o.keep n (by have:=an.o;omega));replace g:=Aa (g.o.box n bk.o);replace b:=Aa (b.o.keep n dp.o);replace r:=Aa (r.o.keep n cw.o);clear n;go_wp2_with fail;refine bodyPost_ret (v:=ze #[A J 0,A J p,A J 0,.string ⟨#[]⟩,O (some ⟨I,0,none⟩) 2 2]) (by simp [results,Tryz.results60,go_sem, *]) rfl ?_;rw [<-U,<-dj,<-G,<-ak];rw [V.o];refine ⟨_,_,_,_,_,_,_,rfl,fun W hW=>?_,g.o.gr,g.o.st,by rw [<-fn.o];exact g.o.le⟩;have o1:=(b.o.base ae.o) W hW;have o2:=(r.o.base cj.o) W hW;exact ⟨0,p,0,⟨#[]⟩,_,[da,db],rfl,rfl,LS.two ((Off.bx ar.o ek.o) W hW) o1 o2⟩
   ·rw [if_neg hk0] at V
    have fd:tl ts s2 0≠[]:=Ko _ (by rw [<-gp.o];exact hk0);have ff:(kk == 0)=false:=by simpa using hk0
    have gm:=Aa fd;clear fd;obtain ⟨t2,cr⟩:=nm (tx ts s2 0);have KT:Hx (Ro 57 #[zf (some ⟨rb,0,none⟩),A J 0] wr (.string t2)):=by rw [cr];exact AP 0 (by omega) s2 _ g.o.st
    have d1:=Aa cr;clear cr;obtain ⟨bj,ce1,bi,bh,bg⟩:=rc5 a.o.row;obtain ⟨bf,bd,bc,a9,a8⟩:=fz5 a.o.fz;go_wp2_with fail;clear a8 a9 bc bd bf bg bh bi ce1 bj;refine KT.o.mono ?_;rintro e fs ⟨rfl,R⟩;clear KT;replace c:=Aa (c.o.over R);replace a:=Aa (a.o.over R);replace l:=Aa (l.o.over R);replace q:=Aa (q.o.over R);replace b:=Aa (b.o.over R);replace g:Hx (Rq rb tv ts en w m0 (s2) fs):=g.o.over R;clear R;obtain ⟨s3,cf⟩:=nm (Af ts (tl ts s2 0) s2);have KN:=Aa (AD t2 (tl ts s2 0) (by unfold tl;rw [d1.o]) gm.o s2 _ g.o.st);rw [<-cf] at KN;rw [<-cf] at V;have fl:=Aa cf;clear cf;go_wp2_with fail;refine KN.o.mono ?_;rintro e cq ⟨rfl,Q⟩;clear KN;have C:=Q.1;replace c:=bkp c g.o.rlt bk C;replace a:=bkp a g.o.rlt ag C;replace l:=bkp l g.o.rlt c6 C;replace q:=bkp q g.o.rlt c5 C;replace b:=Aa (b.o.keep C (by have:=g.o.rlt;have:=ae.o;omega));replace g:Hx (Rq rb tv ts en w m0 (s3) cq):=Qo.rq g.o Q;clear C Q;clear ff;obtain ⟨d4,aj⟩:=nm (AQ ts en f (deep+1) s3);obtain ⟨db,s4⟩:=d4;have KE:=Aa (eo.o s3 _ g.o.st);rw [<-aj] at KE V;dsimp only at V;have fm:=Aa aj;clear aj;go_wp2_with fail;obtain ⟨zb,ac⟩:=nm cq.heap.size;have cj:Hx (w.heap.size<=zb):=by show _<=_;rw [ac];exact g.o.size
    have cw:Hx (u < zb):=by show _ < _;rw [ac];exact c.o.lt
    have cx:Hx (x < zb):=by show _ < _;rw [ac];exact a.o.lt
    have ej:Hx (H < zb):=by show _ < _;rw [ac];exact l.o.lt
    have ei:Hx (N < zb):=by show _ < _;rw [ac];exact q.o.lt
    refine KE.o.mono ?_;rintro e dt ⟨b0,b1,b2,b3,b4,b5,b6,rfl,L,Q⟩;dsimp only at L Q;rw [<-ac] at L;have r:=Aa L;clear KE L ac;have C:=Q.1;replace c:=bkp c g.o.rlt bk C;replace a:=bkp a g.o.rlt ag C;replace l:=bkp l g.o.rlt c6 C;replace q:=bkp q g.o.rlt c5 C;replace b:=Aa (b.o.keep C (by have:=g.o.rlt;have:=ae.o;omega));replace g:Hx (Rq rb tv ts en w m0 (s4) dt):=Qo.rq g.o Q;clear C Q;obtain ⟨ch,Z⟩:=nm (dt.alloc (zd #[A J b0,A J b1,A J b2,.string b3,O b4 b5 b6] 49));obtain ⟨T,cs⟩:=nm dt.heap.size;have F:=cs;have el:Hx (w.heap.size<=T):=by show _<=_;rw [F];exact g.o.size
    have ao:Hx (u < T):=by show _ < _;rw [F];exact c.o.lt
    have aq:Hx (x < T):=by show _ < _;rw [F];exact a.o.lt
    have co:Hx (H < T):=by show _ < _;rw [F];exact l.o.lt
    have cl:Hx (N < T):=by show _ < _;rw [F];exact q.o.lt
    have P:Hx (Bx T [A J b0,A J b1,A J b2,.string b3,O b4 b5 b6] ch):=by show Bx _ _ _;rw [Z,F];exact Bx.new dt [A J b0,A J b1,A J b2,.string b3,O b4 b5 b6] 49
    replace c:Hx (Bx u [A J 0,A J 0,A J 0,.string ⟨#[]⟩,O none 0 0] ch):=by show Bx _ _ _;rw [Z];exact c.o.over (bA _ _)
    replace a:Hx (Bx x [A J kk,A J p,A J 0,.string ⟨#[]⟩,O none 0 0] ch):=by show Bx _ _ _;rw [Z];exact a.o.over (bA _ _)
    replace l:Hx (Bx H [A J a0,A J a1,A J a2,.string a3,O a4 a5 a6] ch):=by show Bx _ _ _;rw [Z];exact l.o.over (bA _ _)
    replace q:Hx (Bx N [.string ⟨#[43]⟩,.string ⟨#[45]⟩,.string ⟨#[42]⟩,.string ⟨#[60]⟩,.string ⟨#[61,61]⟩] ch):=by show Bx _ _ _;rw [Z];exact q.o.over (bA _ _)
    replace g:Hx (Rq rb tv ts en w m0 (s4) ch):=by show Rq _ _ _ _ _ _ _ _;rw [Z];exact g.o.over (bA _ _)
    replace b:Hx (Off za none ch (fun W=>XE W f [A J a0,A J a1,A J a2,.string a3,O a4 a5 a6] da)):=by show Off _ _ _ _;rw [Z];exact b.o.over (bA _ _)
    replace r:Hx (Off zb none ch (fun W=>XE W f [A J b0,A J b1,A J b2,.string b3,O b4 b5 b6] db)):=by show Off _ _ _ _;rw [Z];exact r.o.over (bA _ _)
    obtain ⟨s5,bo⟩:=nm (Af ts [41] s4);have KN:=Aa (AD ⟨#[41]⟩ [41] rfl (by decide) s4 _ g.o.st);rw [<-bo] at KN;rw [<-bo] at V;have gl:=Aa bo;clear bo;go_wp2_with fail;rw [<-Z,<-cs];clear F;clear cs Z;refine KN.o.mono ?_;rintro e dr ⟨rfl,Q⟩;clear KN;have C:=Q.1;replace c:=bkp c g.o.rlt bk C;replace a:=bkp a g.o.rlt ag C;replace l:=bkp l g.o.rlt c6 C;replace q:=bkp q g.o.rlt c5 C;replace P:=bkp P g.o.rlt el C;replace b:=Aa (b.o.keep C (by have:=g.o.rlt;have:=ae.o;omega));replace r:=Aa (r.o.keep C (by have:=g.o.rlt;have:=cj.o;omega));replace g:Hx (Rq rb tv ts en w m0 (s5) dr):=Qo.rq g.o Q;clear C Q;obtain ⟨gi,gh,gg,gf,ge⟩:=rc5 l.o.row;obtain ⟨gd,gc,gb,ga,f9⟩:=rc5 P.o.row;obtain ⟨Y,G⟩:=nm (dr.alloc (zd #[A J a0,A J a1,A J a2,.string a3,O a4 a5 a6,A J b0,A J b1,A J b2,.string b3,O b4 b5 b6] 49));obtain ⟨I,dj⟩:=nm dr.heap.size;have E:=dj;have ek:Hx (w.heap.size<=I):=by show _<=_;rw [E];exact g.o.size
    have an:Hx (u < I):=by show _ < _;rw [E];exact c.o.lt
    have ap:Hx (x < I):=by show _ < _;rw [E];exact a.o.lt
    have cn:Hx (H < I):=by show _ < _;rw [E];exact l.o.lt
    have ck:Hx (N < I):=by show _ < _;rw [E];exact q.o.lt
    have cm:Hx (T < I):=by show _ < _;rw [E];exact P.o.lt
    have ar:Hx (Bx I [A J a0,A J a1,A J a2,.string a3,O a4 a5 a6,A J b0,A J b1,A J b2,.string b3,O b4 b5 b6] Y):=by show Bx _ _ _;rw [G,E];exact Bx.new dr [A J a0,A J a1,A J a2,.string a3,O a4 a5 a6,A J b0,A J b1,A J b2,.string b3,O b4 b5 b6] 49
    replace c:Hx (Bx u [A J 0,A J 0,A J 0,.string ⟨#[]⟩,O none 0 0] Y):=by show Bx _ _ _;rw [G];exact c.o.over (bA _ _)
    replace a:Hx (Bx x [A J kk,A J p,A J 0,.string ⟨#[]⟩,O none 0 0] Y):=by show Bx _ _ _;rw [G];exact a.o.over (bA _ _)
    replace l:Hx (Bx H [A J a0,A J a1,A J a2,.string a3,O a4 a5 a6] Y):=by show Bx _ _ _;rw [G];exact l.o.over (bA _ _)
    replace q:Hx (Bx N [.string ⟨#[43]⟩,.string ⟨#[45]⟩,.string ⟨#[42]⟩,.string ⟨#[60]⟩,.string ⟨#[61,61]⟩] Y):=by show Bx _ _ _;rw [G];exact q.o.over (bA _ _)
    replace P:Hx (Bx T [A J b0,A J b1,A J b2,.string b3,O b4 b5 b6] Y):=by show Bx _ _ _;rw [G];exact P.o.over (bA _ _)
    replace g:Hx (Rq rb tv ts en w m0 (s5) Y):=by show Rq _ _ _ _ _ _ _ _;rw [G];exact g.o.over (bA _ _)
    replace b:Hx (Off za none Y (fun W=>XE W f [A J a0,A J a1,A J a2,.string a3,O a4 a5 a6] da)):=by show Off _ _ _ _;rw [G];exact b.o.over (bA _ _)
    replace r:Hx (Off zb none Y (fun W=>XE W f [A J b0,A J b1,A J b2,.string b3,O b4 b5 b6] db)):=by show Off _ _ _ _;rw [G];exact r.o.over (bA _ _)
    have b8:u≠x:=by have:=M.o;omega
    have ca:x≠u:=by have:=M.o;omega
    have b9:u≠H:=by have:=ab.o;omega
    have cc:H≠u:=by have:=ab.o;omega
    have c7:u≠N:=by have:=af.o;omega
    have c8:N≠u:=by have:=af.o;omega
    have et:u≠T:=by have:=ao.o;omega
    have e3:T≠u:=by have:=ao.o;omega
    have es:u≠I:=by have:=an.o;omega
    have eu:I≠u:=by have:=an.o;omega
    have cb:x≠H:=by have:=S.o;omega
    have cd:H≠x:=by have:=S.o;omega
    have dd:x≠N:=by have:=ad.o;omega
    have c9:N≠x:=by have:=ad.o;omega
    have e2:x≠T:=by have:=aq.o;omega
    have e6:T≠x:=by have:=aq.o;omega
    have e1:x≠I:=by have:=ap.o;omega
    have ew:I≠x:=by have:=ap.o;omega
    have de:H≠N:=by have:=bn.o;omega
    have dc:N≠H:=by have:=bn.o;omega
    have e9:H≠T:=by have:=co.o;omega
    have e7:T≠H:=by have:=co.o;omega
    have e8:H≠I:=by have:=cn.o;omega
    have ey:I≠H:=by have:=cn.o;omega
    have e0:N≠T:=by have:=cl.o;omega
    have e5:T≠N:=by have:=cl.o;omega
    have ez:N≠I:=by have:=ck.o;omega
    have ev:I≠N:=by have:=ck.o;omega
    have e4:T≠I:=by have:=cm.o;omega
    have ex:I≠T:=by have:=cm.o;omega
    obtain ⟨bj,ce1,bi,bh,bg⟩:=rc5 a.o.row;obtain ⟨bf,bd,bc,a9,a8⟩:=fz5 a.o.fz;obtain ⟨eg,ef,ee,ed,ec⟩:=rc5 c.o.row;obtain ⟨ea,d9,d8,d7,d6⟩:=fz5 c.o.fz;rw [G] at bj ce1 bi bh bg bf bd bc a9 a8 eg ef ee ed ec ea d9 d8 d7 d6;obtain ⟨cu,ak⟩:=nm (Y.setCell ⟨x,4,none⟩ (O (some ⟨I,0,none⟩) 2 2));have n:Y.grownBy cu (some x):=by rw [ak];exact (gst (Ad _ _))
    replace a:Hx (Bx x [A J kk,A J p,A J 0,.string ⟨#[]⟩,O (some ⟨I,0,none⟩) 2 2] cu):=by show Bx _ _ _;rw [ak];exact (a.o.se 4)
    replace c:=Aa (c.o.keep n (by have:=M.o;omega));replace l:=Aa (l.o.keep n (by have:=S.o;omega));replace q:=Aa (q.o.keep n (by have:=ad.o;omega));replace P:=Aa (P.o.keep n (by have:=aq.o;omega));replace ar:=Aa (ar.o.keep n (by have:=ap.o;omega));replace g:=Aa (g.o.box n ag.o);replace b:=Aa (b.o.keep n b7.o);replace r:=Aa (r.o.keep n cx.o);clear n;obtain ⟨fk,dm⟩:=nm (((((cu.setCell ⟨u,0,none⟩ (A J kk)).setCell ⟨u,1,none⟩ (A J p)).setCell ⟨u,2,none⟩ (A J 0)).setCell ⟨u,3,none⟩ (.string ⟨#[]⟩)).setCell ⟨u,4,none⟩ (O (some ⟨I,0,none⟩) 2 2));have n:cu.grownBy fk (some u):=by rw [dm];exact (gst (gst (gst (gst (gst (Ad _ _))))))
    replace c:Hx (Bx u [A J kk,A J p,A J 0,.string ⟨#[]⟩,O (some ⟨I,0,none⟩) 2 2] fk):=by show Bx _ _ _;rw [dm];exact (((((c.o.se 0).se 1).se 2).se 3).se 4)
    replace a:=Aa (a.o.keep n (by have:=M.o;omega));replace l:=Aa (l.o.keep n (by have:=ab.o;omega));replace q:=Aa (q.o.keep n (by have:=af.o;omega));replace P:=Aa (P.o.keep n (by have:=ao.o;omega));replace ar:=Aa (ar.o.keep n (by have:=an.o;omega));replace g:=Aa (g.o.box n bk.o);replace b:=Aa (b.o.keep n dp.o);replace r:=Aa (r.o.keep n cw.o);clear n;go_wp2_with fail;refine bodyPost_ret (v:=ze #[A J kk,A J p,A J 0,.string ⟨#[]⟩,O (some ⟨I,0,none⟩) 2 2]) (by simp [results,Tryz.results60,go_sem, *]) rfl ?_;rw [<-G,<-dj,<-ak,<-dm];rw [V.o];refine ⟨_,_,_,_,_,_,_,rfl,fun W hW=>?_,g.o.gr,g.o.st,by rw [<-fn.o];exact g.o.le⟩;have o1:=(b.o.base ae.o) W hW;have o2:=(r.o.base cj.o) W hW;exact ⟨kk,p,0,⟨#[]⟩,_,[da,db],rfl,rfl,LS.two ((Off.bx ar.o ek.o) W hW) o1 o2⟩
theorem CL (hall:ts.all Ak=true):∀ (f deep:Nat),f+deep=61->deep<=60->Oc rb tv ts en f deep
 | 0,deep,h1,h2=>absurd h1 (by omega)
 | f+1,deep,h1,h2=>fun s w h=>by
  by_cases h3:tl ts s 0=[40]/\deep < 60
  ·exact OG hall f deep s w h h3 (CL hall f (deep+1) (by omega) (by omega))
  by_cases h4:tl ts s 0=[45]
  ·exact OE hall f deep s w h h4
  by_cases h5:Cv (tl ts s 0)=true
  ·exact OD hall f deep s w h h4 h5
  by_cases h6:tl ts s 0=[40]
  ·exact NL hall f deep s w h h3 h4 h5 h6
  by_cases h7:tl ts s 0=[]
  ·exact NK hall f deep s w h h3 h4 h5 h7
  ·exact NJ hall f deep s w h h3 h4 h5 h6 h7
end
end Go.Proofs.YtipngnjffjajpaaGreatDoor.Tx
