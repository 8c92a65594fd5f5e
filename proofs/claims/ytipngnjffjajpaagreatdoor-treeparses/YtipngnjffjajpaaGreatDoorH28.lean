/- The document's reader in memory: expressions in brackets. -/
import Derived.Test.YtipngnjffjajpaaGreatDoorH27
set_option linter.unusedVariables false
set_option maxHeartbeats 8000000
set_option maxRecDepth 100000
namespace Go.Proofs.YtipngnjffjajpaaGreatDoor.Tx
open Go.RowKit
open Go.Value renaming int -> M, slice -> U, bool -> zc, pointer -> zd, agg -> zf, tuple -> zh
open Go.IntKind renaming i64 -> O
open Go.Obj renaming cells -> ze
open Go.Ending renaming returned -> zg
section
variable {rb:Nat} {tv:Value} {ts:List Tok} {en:Nat}
theorem MJ (hall:ts.all An=true) (f deep:Nat) (s:Sg) (w:World) (h:Sd rb tv ts en s w) (h1:tl ts s 0=[40]/\deep < 60) (ih:Mv rb tv ts en f (deep+1)):Calls Tryz.prog 60 #[zd (some ⟨rb,0,none⟩),M O (deep:Int)] w (CW rb tv ts en (f+1) w s (A4 ts en (f+1) deep s)):=by
 obtain ⟨fu,dg⟩:=nm (A4 ts en (f+1) deep s);rw [<-dg];have T:Hx (fu=(fun p1:D × Sg=>(fun p2:D × Sg=>(eD (A1 (tl ts p1.2 0)) (Ar ts en s.1) 0 noS [p1.1,p2.1],Al ts [41] p2.2)) (A4 ts en f (deep+1) (if A1 (tl ts p1.2 0)=0 then Ci p1.2 else Al ts (tl ts p1.2 0) p1.2))) (A4 ts en f (deep+1) (Al ts [40] s))):=by show _=_;rw [dg,A4];rw [if_pos h1]
 obtain ⟨m0,d5⟩:=nm s.1;have g:Hx (Rq rb tv ts en w m0 (s) w):=by show Rq _ _ _ _ _ _ _ _;rw [d5];exact Rq.start h
 have fm:=Aa d5;clear dg d5 h;obtain ⟨V1,dz⟩:=nm (w.alloc (ze #[M O 0,M O 0,M O 0,.string ⟨#[]⟩,U none 0 0] 49));obtain ⟨r,cz⟩:=nm w.heap.size;have df:=cz;have bj:Hx (w.heap.size<=r):=by show _<=_;rw [df];exact g.o.size
 have c:Hx (Bx r [M O 0,M O 0,M O 0,.string ⟨#[]⟩,U none 0 0] V1):=by show Bx _ _ _;rw [dz,df];exact Bx.new w [M O 0,M O 0,M O 0,.string ⟨#[]⟩,U none 0 0] 49
 replace g:Hx (Rq rb tv ts en w m0 (s) V1):=by show Rq _ _ _ _ _ _ _ _;rw [dz];exact g.o.over (bA _ _)
 go_enter Tryz.func60,Tryz.ntmps60;obtain ⟨p,hp⟩:=nm (Ar ts en (s).1);have KH:Hx (Ro 28 #[zd (some ⟨rb,0,none⟩)] V1 (M O p)):=by rw [hp];exact Cf s _ g.o.st
 go_wp2_with fail;rw [<-dz,<-cz];clear df;clear cz dz;refine KH.o.mono ?_;rintro e w2 ⟨rfl,P⟩;clear KH;replace c:=Aa (c.o.over P);replace g:Hx (Rq rb tv ts en w m0 (s) w2):=g.o.over P;clear P;rw [<-hp] at T;clear hp;obtain ⟨V3,dj⟩:=nm (w2.alloc (ze #[M O 1,M O p,M O 0,.string ⟨#[]⟩,U none 0 0] 49));obtain ⟨u,c1⟩:=nm w2.heap.size;have cy:=c1;have af:Hx (w.heap.size<=u):=by show _<=_;rw [cy];exact g.o.size
 have I:Hx (r < u):=by show _ < _;rw [cy];exact c.o.lt
 have a:Hx (Bx u [M O 1,M O p,M O 0,.string ⟨#[]⟩,U none 0 0] V3):=by show Bx _ _ _;rw [dj,cy];exact Bx.new w2 [M O 1,M O p,M O 0,.string ⟨#[]⟩,U none 0 0] 49
 replace c:Hx (Bx r [M O 0,M O 0,M O 0,.string ⟨#[]⟩,U none 0 0] V3):=by show Bx _ _ _;rw [dj];exact c.o.over (bA _ _)
 replace g:Hx (Rq rb tv ts en w m0 (s) V3):=by show Rq _ _ _ _ _ _ _ _;rw [dj];exact g.o.over (bA _ _)
 obtain ⟨t,ht⟩:=nm (tx ts s 0);have KT:Hx (Ro 57 #[zd (some ⟨rb,0,none⟩),M O 0] V3 (.string t)):=by rw [ht];exact AY 0 (by omega) s _ g.o.st
 have Ht:=Aa ht;clear ht;go_wp2_with fail;rw [<-dj,<-c1];clear cy;clear c1 dj;refine KT.o.mono ?_;rintro e w4 ⟨rfl,P⟩;clear KT;replace c:=Aa (c.o.over P);replace a:=Aa (a.o.over P);replace g:Hx (Rq rb tv ts en w m0 (s) w4):=g.o.over P;clear P;have q1:(t.toList == [40])=true:=CZ Ht.o h1.1;have f6:(deep:Int) < 60:=by have:=h1.2;omega
 have gy:(deep:Int)+1<=60:=by omega
 have eo:Hx (∀ (s:Sg) (w:World),Sd rb tv ts en s w->Calls Tryz.prog 60 #[zd (some ⟨rb,0,none⟩),M O ((deep:Int)+1)] w (CW rb tv ts en f w s (A4 ts en f (deep+1) s))):=fun s w h=>ih s w h;clear h1 ih;obtain ⟨s1,dv⟩:=nm (Al ts [40] s);have KN:=Aa (AO ⟨#[40]⟩ [40] rfl (by decide) s _ g.o.st);rw [<-dv] at KN;rw [<-dv] at T;have g1:=Aa dv;clear dv;go_wp2_with fail;refine KN.o.mono ?_;rintro e w5 ⟨rfl,N⟩;clear KN;have A:=N.1;replace c:=bkp c g.o.rlt bj A;replace a:=bkp a g.o.rlt af A;replace g:Hx (Rq rb tv ts en w m0 (s1) w5):=Qo.rq g.o N;clear A N;clear q1 f6;obtain ⟨fy,dh⟩:=nm (A4 ts en f (deep+1) s1);obtain ⟨da,s2⟩:=fy;have KE:=Aa (eo.o s1 _ g.o.st);rw [<-dh] at KE T;dsimp only at T;have gw:=Aa dh;clear dh;go_wp2_with fail;obtain ⟨za,de⟩:=nm w5.heap.size;have ad:Hx (w.heap.size<=za):=by show _<=_;rw [de];exact g.o.size
 have dn:Hx (r < za):=by show _ < _;rw [de];exact c.o.lt
 have bz:Hx (u < za):=by show _ < _;rw [de];exact a.o.lt
 refine KE.o.mono ?_;rintro e w6 ⟨a0,a1,a2,a3,a4,a5,a6,rfl,H,N⟩;dsimp only at H N;rw [<-de] at H;have b:=Aa H;clear KE H de;have A:=N.1;replace c:=bkp c g.o.rlt bj A;replace a:=bkp a g.o.rlt af A;replace g:Hx (Rq rb tv ts en w m0 (s2) w6):=Qo.rq g.o N;clear A N;obtain ⟨V7,cs⟩:=nm (w6.alloc (ze #[M O a0,M O a1,M O a2,.string a3,U a4 a5 a6] 49));obtain ⟨F,c2⟩:=nm w6.heap.size;have cd:=c2;have c5:Hx (w.heap.size<=F):=by show _<=_;rw [cd];exact g.o.size
 have aa:Hx (r < F):=by show _ < _;rw [cd];exact c.o.lt
 have Q:Hx (u < F):=by show _ < _;rw [cd];exact a.o.lt
 have k:Hx (Bx F [M O a0,M O a1,M O a2,.string a3,U a4 a5 a6] V7):=by show Bx _ _ _;rw [cs,cd];exact Bx.new w6 [M O a0,M O a1,M O a2,.string a3,U a4 a5 a6] 49
 replace c:Hx (Bx r [M O 0,M O 0,M O 0,.string ⟨#[]⟩,U none 0 0] V7):=by show Bx _ _ _;rw [cs];exact c.o.over (bA _ _)
 replace a:Hx (Bx u [M O 1,M O p,M O 0,.string ⟨#[]⟩,U none 0 0] V7):=by show Bx _ _ _;rw [cs];exact a.o.over (bA _ _)
 replace g:Hx (Rq rb tv ts en w m0 (s2) V7):=by show Rq _ _ _ _ _ _ _ _;rw [cs];exact g.o.over (bA _ _)
 replace b:Hx (Off za none V7 (fun W=>XE W f [M O a0,M O a1,M O a2,.string a3,U a4 a5 a6] da)):=by show Off _ _ _ _;rw [cs];exact b.o.over (bA _ _)
 go_upto_region 8 with fail
 rw [<-cs,<-c2];clear cd;clear c2 cs;have b7:r≠u:=by have:=I.o;omega
 have b9:u≠r:=by have:=I.o;omega
 have b8:r≠F:=by have:=aa.o;omega
 have cb:F≠r:=by have:=aa.o;omega
 have ca:u≠F:=by have:=Q.o;omega
 have cc:F≠u:=by have:=Q.o;omega
 obtain ⟨bi,ce1,bh,bg,bf⟩:=rc5 a.o.row;obtain ⟨bd,bc,a9,a8,a7⟩:=fz5 a.o.fz;obtain ⟨V8,dy⟩:=nm (V7.setCell ⟨u,0,none⟩ (M O 0));have l:V7.grownBy V8 (some u):=by rw [dy];exact (gst (Af _ _))
 replace a:Hx (Bx u [M O 0,M O p,M O 0,.string ⟨#[]⟩,U none 0 0] V8):=by show Bx _ _ _;rw [dy];exact (a.o.se 0)
 replace c:=Aa (c.o.keep l (by have:=I.o;omega));replace k:=Aa (k.o.keep l (by have:=Q.o;omega));replace g:=Aa (g.o.box l af.o);replace b:=Aa (b.o.keep l bz.o);clear l
 go_upto_region 9 with fail
 rw [<-dy];clear a7 a8 a9 bc bd bf bg bh ce1 bi cc ca cb b8 b9 b7;clear dy;obtain ⟨V9,cf⟩:=nm (V8.alloc (ze #[.string ⟨#[43]⟩,.string ⟨#[45]⟩,.string ⟨#[42]⟩,.string ⟨#[60]⟩,.string ⟨#[61,61]⟩] 9));obtain ⟨J,c0⟩:=nm V8.heap.size;have bk:=c0;have c4:Hx (w.heap.size<=J):=by show _<=_;rw [bk];exact g.o.size
 have ae:Hx (r < J):=by show _ < _;rw [bk];exact c.o.lt
 have ac:Hx (u < J):=by show _ < _;rw [bk];exact a.o.lt
 have bm:Hx (F < J):=by show _ < _;rw [bk];exact k.o.lt
 have m:Hx (Bx J [.string ⟨#[43]⟩,.string ⟨#[45]⟩,.string ⟨#[42]⟩,.string ⟨#[60]⟩,.string ⟨#[61,61]⟩] V9):=by show Bx _ _ _;rw [cf,bk];exact Bx.new V8 [.string ⟨#[43]⟩,.string ⟨#[45]⟩,.string ⟨#[42]⟩,.string ⟨#[60]⟩,.string ⟨#[61,61]⟩] 9
 replace c:Hx (Bx r [M O 0,M O 0,M O 0,.string ⟨#[]⟩,U none 0 0] V9):=by show Bx _ _ _;rw [cf];exact c.o.over (bA _ _)
 replace a:Hx (Bx u [M O 0,M O p,M O 0,.string ⟨#[]⟩,U none 0 0] V9):=by show Bx _ _ _;rw [cf];exact a.o.over (bA _ _)
 replace k:Hx (Bx F [M O a0,M O a1,M O a2,.string a3,U a4 a5 a6] V9):=by show Bx _ _ _;rw [cf];exact k.o.over (bA _ _)
 replace g:Hx (Rq rb tv ts en w m0 (s2) V9):=by show Rq _ _ _ _ _ _ _ _;rw [cf];exact g.o.over (bA _ _)
 replace b:Hx (Off za none V9 (fun W=>XE W f [M O a0,M O a1,M O a2,.string a3,U a4 a5 a6] da)):=by show Off _ _ _ _;rw [cf];exact b.o.over (bA _ _)
 skip
 go_wp2_with fail;rw [<-cf,<-c0];clear bk;clear c0 cf;go_loopw [9] (fun i wr=>∃ (j:Nat) (kk:Int),j<=5/\i=M O (j:Int)/\kk=opU j (tl ts s2 0)/\Rq rb tv ts en w m0 (s2) wr/\Bx r [M O 0,M O 0,M O 0,.string ⟨#[]⟩,U none 0 0] wr/\Bx u [M O kk,M O p,M O 0,.string ⟨#[]⟩,U none 0 0] wr/\Bx F [M O a0,M O a1,M O a2,.string a3,U a4 a5 a6] wr/\Bx J [.string ⟨#[43]⟩,.string ⟨#[45]⟩,.string ⟨#[42]⟩,.string ⟨#[60]⟩,.string ⟨#[61,61]⟩] wr/\Off za none wr (fun W=>XE W f [M O a0,M O a1,M O a2,.string a3,U a4 a5 a6] da)) (fun i _=>5 - (intOf i).toNat)
 case atStart=>exact ⟨0,0,Nat.zero_le _,rfl,(M5 _).symm,g.o,c.o,a.o,k.o,m.o,b.o⟩
 case round=>
  obtain ⟨j,kk,hj,rfl,fd,hd,cz,c1,c2,c0,fb⟩:=hrel;replace g:=Aa hd;replace c:=Aa cz;replace a:=Aa c1;replace k:=Aa c2;replace m:=Aa c0;replace b:=Aa fb;have em:=Aa fd;clear hd cz c1 c2 c0 fb fd;by_cases hjl:j < 5
  ·have f5:(j:Int) < 5:=by omega
   obtain ⟨y,hy,fa,e9⟩:=MB (tl ts s2 0) j hjl;have dl:wr.cell? ⟨J,j,none⟩=some (.string y):=m.o.row j _ hy;have HY:=Aa (And.intro fa e9);obtain ⟨t2,cq⟩:=nm (tx ts s2 0);have KT:Hx (∀ X,Ov wr X->Ro 57 #[zd (some ⟨rb,0,none⟩),M O 0] X (.string t2)):=fun X hX=>by rw [cq];exact AY 0 (by omega) s2 X (g.o.st.below hX)
   have d1:=Aa cq;clear hy fa e9 cq;by_cases N:t2.data.toList=y.data.toList
   ·have f3:(t2.toList == y.toList)=true:=by rw [teq];simpa using N
    have HN:Hx (3+(j:Int)=opU (j+1) (tl ts s2 0)):=by show _=_;exact (HY.o.1 (by unfold tl;rw [<-d1.o];exact N)).symm
    clear N;go_wp2_with fail;refine gS (fun Wz=>Below wr.heap.size wr Wz) (Below.refl _ _).drew fun x=>?_;generalize wr.drew=W at x ⊢;refine kO 0 ?_;refine kO 2 ?_;refine kO 3 ?_;refine kO 4 ?_;refine kO 5 ?_;refine rdA 1 rfl fun K hK=>?_;go_simp;refine (KT.o _ x).mono ?_;rintro e W8 ⟨rfl,P⟩;have cx:=Aa (Ab x P);clear P x KT;go_simp;refine xK hK (cx.o) fun x=>?_;clear hK K;refine kO 6 ?_;refine gE ?_
    skip
    have P:=cx.o;clear cx x dl;replace c:=Aa (c.o.over P);replace a:=Aa (a.o.over P);replace k:=Aa (k.o.over P);replace m:=Aa (m.o.over P);replace b:=Aa (b.o.over P);replace g:Hx (Rq rb tv ts en w m0 (s2) W8):=g.o.over P;clear P;obtain ⟨bi,ce1,bh,bg,bf⟩:=rc5 a.o.row;obtain ⟨bd,bc,a9,a8,a7⟩:=fz5 a.o.fz;obtain ⟨c3,ak⟩:=nm (W8.setCell ⟨u,0,none⟩ (M O (3+(j:Int))));have l:W8.grownBy c3 (some u):=by rw [ak];exact (gst (Af _ _))
    replace a:Hx (Bx u [M O (3+(j:Int)),M O p,M O 0,.string ⟨#[]⟩,U none 0 0] c3):=by show Bx _ _ _;rw [ak];exact (a.o.se 0)
    replace c:=Aa (c.o.keep l (by have:=I.o;omega));replace k:=Aa (k.o.keep l (by have:=Q.o;omega));replace m:=Aa (m.o.keep l (by have:=ac.o;omega));replace g:=Aa (g.o.box l af.o);replace b:=Aa (b.o.keep l bz.o);clear l;go_wp2_with fail;rw [<-ak];exact ⟨⟨j+1,_,by omega,by go_num,HN.o,g.o,c.o,a.o,k.o,m.o,b.o⟩,by simp [intOf];omega⟩
   ·have f3:(t2.toList == y.toList)=false:=by rw [teq];simpa using N
    have HN:Hx (kk=opU (j+1) (tl ts s2 0)):=by show _=_;rw [em.o];exact (HY.o.2 (by unfold tl;rw [<-d1.o];exact N)).symm
    clear N;go_wp2_with fail;refine gS (fun Wz=>Below wr.heap.size wr Wz) (Below.refl _ _).drew fun x=>?_;generalize wr.drew=W at x ⊢;refine kO 0 ?_;refine kO 2 ?_;refine kO 3 ?_;refine kO 4 ?_;refine kO 5 ?_;refine rdA 1 rfl fun K hK=>?_;go_simp;refine (KT.o _ x).mono ?_;rintro e W8 ⟨rfl,P⟩;have cx:=Aa (Ab x P);clear P x KT;go_simp;refine xK hK (cx.o) fun x=>?_;clear hK K;refine kO 6 ?_;refine gE ?_
    skip
    have P:=cx.o;clear cx x dl;replace c:=Aa (c.o.over P);replace a:=Aa (a.o.over P);replace k:=Aa (k.o.over P);replace m:=Aa (m.o.over P);replace b:=Aa (b.o.over P);replace g:Hx (Rq rb tv ts en w m0 (s2) W8):=g.o.over P;clear P;go_wp2_with fail;exact ⟨⟨j+1,_,by omega,by go_num,HN.o,g.o,c.o,a.o,k.o,m.o,b.o⟩,by simp [intOf];omega⟩
  ·have f5:¬ (j:Int) < 5:=by omega
   have ff:j=5:=by omega
   have dx:=em.o;rw [ff,M4] at dx;rw [<-dx] at T;have gm:=Aa dx;clear ff dx em;by_cases hk0:kk=0
   ·subst hk0
    rw [if_pos rfl] at T;have b7:r≠u:=by have:=I.o;omega
    have b9:u≠r:=by have:=I.o;omega
    have b8:r≠F:=by have:=aa.o;omega
    have cb:F≠r:=by have:=aa.o;omega
    have c6:r≠J:=by have:=ae.o;omega
    have c7:J≠r:=by have:=ae.o;omega
    have ca:u≠F:=by have:=Q.o;omega
    have cc:F≠u:=by have:=Q.o;omega
    have dc:u≠J:=by have:=ac.o;omega
    have c8:J≠u:=by have:=ac.o;omega
    have dd:F≠J:=by have:=bm.o;omega
    have c9:J≠F:=by have:=bm.o;omega
    obtain ⟨bi,ce1,bh,bg,bf⟩:=rc5 a.o.row;obtain ⟨bd,bc,a9,a8,a7⟩:=fz5 a.o.fz;obtain ⟨fx,fw,rc2,fv,ft,fs⟩:=g.o.st.cells;have dw:=g.o.st.fail;obtain ⟨c3,ak⟩:=nm (wr.setCell ⟨rb,3,none⟩ (zc true));rw [<-ak] at dw;have N:Qo rb tv ts en wr s2 (Ci s2) c3:=⟨dw.2,dw.1,Nat.le_refl _⟩;clear dw;obtain ⟨s3,ce⟩:=nm (Ci s2);rw [<-ce] at N;have fk:=Aa ce;clear ce;have A:=N.1;replace c:=bkp c g.o.rlt bj A;replace a:=bkp a g.o.rlt af A;replace k:=bkp k g.o.rlt c5 A;replace m:=bkp m g.o.rlt c4 A;replace b:=Aa (b.o.keep A (by have:=g.o.rlt;have:=ad.o;omega));replace g:Hx (Rq rb tv ts en w m0 (s3) c3):=Qo.rq g.o N;clear A N;rw [<-fk.o] at T;obtain ⟨d4,ai⟩:=nm (A4 ts en f (deep+1) s3);obtain ⟨db,s4⟩:=d4;have KE:=Aa (eo.o s3 _ g.o.st);rw [<-ai] at KE T;dsimp only at T;have fl:=Aa ai;clear ai;go_wp2_with fail;rw [<-ak];clear fs ft fv rc2 fw fx a7 a8 a9 bc bd bf bg bh ce1 bi c9 dd c8 dc cc ca c7 c6 cb b8 b9 b7;clear ak;obtain ⟨zb,ab⟩:=nm c3.heap.size;have ci:Hx (w.heap.size<=zb):=by show _<=_;rw [ab];exact g.o.size
    have cv:Hx (r < zb):=by show _ < _;rw [ab];exact c.o.lt
    have cw:Hx (u < zb):=by show _ < _;rw [ab];exact a.o.lt
    have ej:Hx (F < zb):=by show _ < _;rw [ab];exact k.o.lt
    have ei:Hx (J < zb):=by show _ < _;rw [ab];exact m.o.lt
    refine KE.o.mono ?_;rintro e cp ⟨b0,b1,b2,b3,b4,b5,b6,rfl,H,N⟩;dsimp only at H N;rw [<-ab] at H;have n:=Aa H;clear KE H ab;have A:=N.1;replace c:=bkp c g.o.rlt bj A;replace a:=bkp a g.o.rlt af A;replace k:=bkp k g.o.rlt c5 A;replace m:=bkp m g.o.rlt c4 A;replace b:=Aa (b.o.keep A (by have:=g.o.rlt;have:=ad.o;omega));replace g:Hx (Rq rb tv ts en w m0 (s4) cp):=Qo.rq g.o N;clear A N;obtain ⟨ch,Z⟩:=nm (cp.alloc (ze #[M O b0,M O b1,M O b2,.string b3,U b4 b5 b6] 49));obtain ⟨R,cr⟩:=nm cp.heap.size;have C:=cr;have el:Hx (w.heap.size<=R):=by show _<=_;rw [C];exact g.o.size
    have an:Hx (r < R):=by show _ < _;rw [C];exact c.o.lt
    have ap:Hx (u < R):=by show _ < _;rw [C];exact a.o.lt
    have cn:Hx (F < R):=by show _ < _;rw [C];exact k.o.lt
    have ck:Hx (J < R):=by show _ < _;rw [C];exact m.o.lt
    have L:Hx (Bx R [M O b0,M O b1,M O b2,.string b3,U b4 b5 b6] ch):=by show Bx _ _ _;rw [Z,C];exact Bx.new cp [M O b0,M O b1,M O b2,.string b3,U b4 b5 b6] 49
    replace c:Hx (Bx r [M O 0,M O 0,M O 0,.string ⟨#[]⟩,U none 0 0] ch):=by show Bx _ _ _;rw [Z];exact c.o.over (bA _ _)
    replace a:Hx (Bx u [M O 0,M O p,M O 0,.string ⟨#[]⟩,U none 0 0] ch):=by show Bx _ _ _;rw [Z];exact a.o.over (bA _ _)
    replace k:Hx (Bx F [M O a0,M O a1,M O a2,.string a3,U a4 a5 a6] ch):=by show Bx _ _ _;rw [Z];exact k.o.over (bA _ _)
    replace m:Hx (Bx J [.string ⟨#[43]⟩,.string ⟨#[45]⟩,.string ⟨#[42]⟩,.string ⟨#[60]⟩,.string ⟨#[61,61]⟩] ch):=by show Bx _ _ _;rw [Z];exact m.o.over (bA _ _)
    replace g:Hx (Rq rb tv ts en w m0 (s4) ch):=by show Rq _ _ _ _ _ _ _ _;rw [Z];exact g.o.over (bA _ _)
    replace b:Hx (Off za none ch (fun W=>XE W f [M O a0,M O a1,M O a2,.string a3,U a4 a5 a6] da)):=by show Off _ _ _ _;rw [Z];exact b.o.over (bA _ _)
    replace n:Hx (Off zb none ch (fun W=>XE W f [M O b0,M O b1,M O b2,.string b3,U b4 b5 b6] db)):=by show Off _ _ _ _;rw [Z];exact n.o.over (bA _ _)
    obtain ⟨s5,bn⟩:=nm (Al ts [41] s4);have KN:=Aa (AO ⟨#[41]⟩ [41] rfl (by decide) s4 _ g.o.st);rw [<-bn] at KN;rw [<-bn] at T;have gj:=Aa bn;clear bn;go_wp2_with fail;rw [<-Z,<-cr];clear C;clear cr Z;refine KN.o.mono ?_;rintro e ds ⟨rfl,N⟩;clear KN;have A:=N.1;replace c:=bkp c g.o.rlt bj A;replace a:=bkp a g.o.rlt af A;replace k:=bkp k g.o.rlt c5 A;replace m:=bkp m g.o.rlt c4 A;replace L:=bkp L g.o.rlt el A;replace b:=Aa (b.o.keep A (by have:=g.o.rlt;have:=ad.o;omega));replace n:=Aa (n.o.keep A (by have:=g.o.rlt;have:=ci.o;omega));replace g:Hx (Rq rb tv ts en w m0 (s5) ds):=Qo.rq g.o N;clear A N;obtain ⟨gg,gf,ge,gd,gc⟩:=rc5 k.o.row;obtain ⟨gb,ga,f9,f8,f7⟩:=rc5 L.o.row;obtain ⟨al,S⟩:=nm (ds.alloc (ze #[M O a0,M O a1,M O a2,.string a3,U a4 a5 a6,M O b0,M O b1,M O b2,.string b3,U b4 b5 b6] 49));obtain ⟨G,di⟩:=nm ds.heap.size;have B:=di;have ek:Hx (w.heap.size<=G):=by show _<=_;rw [B];exact g.o.size
    have am:Hx (r < G):=by show _ < _;rw [B];exact c.o.lt
    have ao:Hx (u < G):=by show _ < _;rw [B];exact a.o.lt
    have cm:Hx (F < G):=by show _ < _;rw [B];exact k.o.lt
    have cj:Hx (J < G):=by show _ < _;rw [B];exact m.o.lt
    have cl:Hx (R < G):=by show _ < _;rw [B];exact L.o.lt
    have aq:Hx (Bx G [M O a0,M O a1,M O a2,.string a3,U a4 a5 a6,M O b0,M O b1,M O b2,.string b3,U b4 b5 b6] al):=by show Bx _ _ _;rw [S,B];exact Bx.new ds [M O a0,M O a1,M O a2,.string a3,U a4 a5 a6,M O b0,M O b1,M O b2,.string b3,U b4 b5 b6] 49
    replace c:Hx (Bx r [M O 0,M O 0,M O 0,.string ⟨#[]⟩,U none 0 0] al):=by show Bx _ _ _;rw [S];exact c.o.over (bA _ _)
    replace a:Hx (Bx u [M O 0,M O p,M O 0,.string ⟨#[]⟩,U none 0 0] al):=by show Bx _ _ _;rw [S];exact a.o.over (bA _ _)
    replace k:Hx (Bx F [M O a0,M O a1,M O a2,.string a3,U a4 a5 a6] al):=by show Bx _ _ _;rw [S];exact k.o.over (bA _ _)
    replace m:Hx (Bx J [.string ⟨#[43]⟩,.string ⟨#[45]⟩,.string ⟨#[42]⟩,.string ⟨#[60]⟩,.string ⟨#[61,61]⟩] al):=by show Bx _ _ _;rw [S];exact m.o.over (bA _ _)
    replace L:Hx (Bx R [M O b0,M O b1,M O b2,.string b3,U b4 b5 b6] al):=by show Bx _ _ _;rw [S];exact L.o.over (bA _ _)
    replace g:Hx (Rq rb tv ts en w m0 (s5) al):=by show Rq _ _ _ _ _ _ _ _;rw [S];exact g.o.over (bA _ _)
    replace b:Hx (Off za none al (fun W=>XE W f [M O a0,M O a1,M O a2,.string a3,U a4 a5 a6] da)):=by show Off _ _ _ _;rw [S];exact b.o.over (bA _ _)
    replace n:Hx (Off zb none al (fun W=>XE W f [M O b0,M O b1,M O b2,.string b3,U b4 b5 b6] db)):=by show Off _ _ _ _;rw [S];exact n.o.over (bA _ _)
    have b7:r≠u:=by have:=I.o;omega
    have b9:u≠r:=by have:=I.o;omega
    have b8:r≠F:=by have:=aa.o;omega
    have cb:F≠r:=by have:=aa.o;omega
    have c6:r≠J:=by have:=ae.o;omega
    have c7:J≠r:=by have:=ae.o;omega
    have es:r≠R:=by have:=an.o;omega
    have e2:R≠r:=by have:=an.o;omega
    have er:r≠G:=by have:=am.o;omega
    have et:G≠r:=by have:=am.o;omega
    have ca:u≠F:=by have:=Q.o;omega
    have cc:F≠u:=by have:=Q.o;omega
    have dc:u≠J:=by have:=ac.o;omega
    have c8:J≠u:=by have:=ac.o;omega
    have e1:u≠R:=by have:=ap.o;omega
    have e5:R≠u:=by have:=ap.o;omega
    have e0:u≠G:=by have:=ao.o;omega
    have ev:G≠u:=by have:=ao.o;omega
    have dd:F≠J:=by have:=bm.o;omega
    have c9:J≠F:=by have:=bm.o;omega
    have e8:F≠R:=by have:=cn.o;omega
    have e6:R≠F:=by have:=cn.o;omega
    have e7:F≠G:=by have:=cm.o;omega
    have ex:G≠F:=by have:=cm.o;omega
    have ez:J≠R:=by have:=ck.o;omega
    have e4:R≠J:=by have:=ck.o;omega
    have ey:J≠G:=by have:=cj.o;omega
    have eu:G≠J:=by have:=cj.o;omega
    have e3:R≠G:=by have:=cl.o;omega
    have ew:G≠R:=by have:=cl.o;omega
    obtain ⟨bi,ce1,bh,bg,bf⟩:=rc5 a.o.row;obtain ⟨bd,bc,a9,a8,a7⟩:=fz5 a.o.fz;obtain ⟨eg,ef,ee,ed,ec⟩:=rc5 c.o.row;obtain ⟨ea,d9,d8,d7,d6⟩:=fz5 c.o.fz;rw [S] at bi ce1 bh bg bf bd bc a9 a8 a7 eg ef ee ed ec ea d9 d8 d7 d6;obtain ⟨V,E⟩:=nm (al.setCell ⟨u,4,none⟩ (U (some ⟨G,0,none⟩) 2 2));have l:al.grownBy V (some u):=by rw [E];exact (gst (Af _ _))
    replace a:Hx (Bx u [M O 0,M O p,M O 0,.string ⟨#[]⟩,U (some ⟨G,0,none⟩) 2 2] V):=by show Bx _ _ _;rw [E];exact (a.o.se 4)
    replace c:=Aa (c.o.keep l (by have:=I.o;omega));replace k:=Aa (k.o.keep l (by have:=Q.o;omega));replace m:=Aa (m.o.keep l (by have:=ac.o;omega));replace L:=Aa (L.o.keep l (by have:=ap.o;omega));replace aq:=Aa (aq.o.keep l (by have:=ao.o;omega));replace g:=Aa (g.o.box l af.o);replace b:=Aa (b.o.keep l bz.o);replace n:=Aa (n.o.keep l cw.o);clear l;obtain ⟨ct,aj⟩:=nm (((((V.setCell ⟨r,0,none⟩ (M O 0)).setCell ⟨r,1,none⟩ (M O p)).setCell ⟨r,2,none⟩ (M O 0)).setCell ⟨r,3,none⟩ (.string ⟨#[]⟩)).setCell ⟨r,4,none⟩ (U (some ⟨G,0,none⟩) 2 2));have l:V.grownBy ct (some r):=by rw [aj];exact (gst (gst (gst (gst (gst (Af _ _))))))
    replace c:Hx (Bx r [M O 0,M O p,M O 0,.string ⟨#[]⟩,U (some ⟨G,0,none⟩) 2 2] ct):=by show Bx _ _ _;rw [aj];exact (((((c.o.se 0).se 1).se 2).se 3).se 4)
    replace a:=Aa (a.o.keep l (by have:=I.o;omega));replace k:=Aa (k.o.keep l (by have:=aa.o;omega));replace m:=Aa (m.o.keep l (by have:=ae.o;omega));replace L:=Aa (L.o.keep l (by have:=an.o;omega));replace aq:=Aa (aq.o.keep l (by have:=am.o;omega));replace g:=Aa (g.o.box l bj.o);replace b:=Aa (b.o.keep l dn.o);replace n:=Aa (n.o.keep l cv.o);clear l;go_wp2_with fail;refine bodyPost_ret (v:=zf #[M O 0,M O p,M O 0,.string ⟨#[]⟩,U (some ⟨G,0,none⟩) 2 2]) (by simp [results,Tryz.results60,go_sem, *]) rfl ?_;rw [<-S,<-di,<-E,<-aj];rw [T.o];refine ⟨_,_,_,_,_,_,_,rfl,fun W hW=>?_,g.o.gr,g.o.st,by rw [<-fm.o];exact g.o.le⟩;have o1:=(b.o.base ad.o) W hW;have o2:=(n.o.base ci.o) W hW;exact ⟨0,p,0,⟨#[]⟩,_,[da,db],rfl,rfl,LS.two ((Off.bx aq.o ek.o) W hW) o1 o2⟩
   ·rw [if_neg hk0] at T
    have fc:tl ts s2 0≠[]:=Dr _ (by rw [<-gm.o];exact hk0);have fe:(kk == 0)=false:=by simpa using hk0
    have gk:=Aa fc;clear fc;obtain ⟨t2,cq⟩:=nm (tx ts s2 0);have KT:Hx (Ro 57 #[zd (some ⟨rb,0,none⟩),M O 0] wr (.string t2)):=by rw [cq];exact AY 0 (by omega) s2 _ g.o.st
    have d1:=Aa cq;clear cq;obtain ⟨bi,ce1,bh,bg,bf⟩:=rc5 a.o.row;obtain ⟨bd,bc,a9,a8,a7⟩:=fz5 a.o.fz;go_wp2_with fail;clear a7 a8 a9 bc bd bf bg bh ce1 bi;refine KT.o.mono ?_;rintro e fq ⟨rfl,P⟩;clear KT;replace c:=Aa (c.o.over P);replace a:=Aa (a.o.over P);replace k:=Aa (k.o.over P);replace m:=Aa (m.o.over P);replace b:=Aa (b.o.over P);replace g:Hx (Rq rb tv ts en w m0 (s2) fq):=g.o.over P;clear P;obtain ⟨s3,ce⟩:=nm (Al ts (tl ts s2 0) s2);have KN:=Aa (AO t2 (tl ts s2 0) (by unfold tl;rw [d1.o]) gk.o s2 _ g.o.st);rw [<-ce] at KN;rw [<-ce] at T;have fk:=Aa ce;clear ce;go_wp2_with fail;refine KN.o.mono ?_;rintro e cp ⟨rfl,N⟩;clear KN;have A:=N.1;replace c:=bkp c g.o.rlt bj A;replace a:=bkp a g.o.rlt af A;replace k:=bkp k g.o.rlt c5 A;replace m:=bkp m g.o.rlt c4 A;replace b:=Aa (b.o.keep A (by have:=g.o.rlt;have:=ad.o;omega));replace g:Hx (Rq rb tv ts en w m0 (s3) cp):=Qo.rq g.o N;clear A N;clear fe;obtain ⟨d4,ai⟩:=nm (A4 ts en f (deep+1) s3);obtain ⟨db,s4⟩:=d4;have KE:=Aa (eo.o s3 _ g.o.st);rw [<-ai] at KE T;dsimp only at T;have fl:=Aa ai;clear ai;go_wp2_with fail;obtain ⟨zb,ab⟩:=nm cp.heap.size;have ci:Hx (w.heap.size<=zb):=by show _<=_;rw [ab];exact g.o.size
    have cv:Hx (r < zb):=by show _ < _;rw [ab];exact c.o.lt
    have cw:Hx (u < zb):=by show _ < _;rw [ab];exact a.o.lt
    have ej:Hx (F < zb):=by show _ < _;rw [ab];exact k.o.lt
    have ei:Hx (J < zb):=by show _ < _;rw [ab];exact m.o.lt
    refine KE.o.mono ?_;rintro e dt ⟨b0,b1,b2,b3,b4,b5,b6,rfl,H,N⟩;dsimp only at H N;rw [<-ab] at H;have n:=Aa H;clear KE H ab;have A:=N.1;replace c:=bkp c g.o.rlt bj A;replace a:=bkp a g.o.rlt af A;replace k:=bkp k g.o.rlt c5 A;replace m:=bkp m g.o.rlt c4 A;replace b:=Aa (b.o.keep A (by have:=g.o.rlt;have:=ad.o;omega));replace g:Hx (Rq rb tv ts en w m0 (s4) dt):=Qo.rq g.o N;clear A N;obtain ⟨cg,Y⟩:=nm (dt.alloc (ze #[M O b0,M O b1,M O b2,.string b3,U b4 b5 b6] 49));obtain ⟨R,cr⟩:=nm dt.heap.size;have C:=cr;have el:Hx (w.heap.size<=R):=by show _<=_;rw [C];exact g.o.size
    have an:Hx (r < R):=by show _ < _;rw [C];exact c.o.lt
    have ap:Hx (u < R):=by show _ < _;rw [C];exact a.o.lt
    have cn:Hx (F < R):=by show _ < _;rw [C];exact k.o.lt
    have ck:Hx (J < R):=by show _ < _;rw [C];exact m.o.lt
    have L:Hx (Bx R [M O b0,M O b1,M O b2,.string b3,U b4 b5 b6] cg):=by show Bx _ _ _;rw [Y,C];exact Bx.new dt [M O b0,M O b1,M O b2,.string b3,U b4 b5 b6] 49
    replace c:Hx (Bx r [M O 0,M O 0,M O 0,.string ⟨#[]⟩,U none 0 0] cg):=by show Bx _ _ _;rw [Y];exact c.o.over (bA _ _)
    replace a:Hx (Bx u [M O kk,M O p,M O 0,.string ⟨#[]⟩,U none 0 0] cg):=by show Bx _ _ _;rw [Y];exact a.o.over (bA _ _)
    replace k:Hx (Bx F [M O a0,M O a1,M O a2,.string a3,U a4 a5 a6] cg):=by show Bx _ _ _;rw [Y];exact k.o.over (bA _ _)
    replace m:Hx (Bx J [.string ⟨#[43]⟩,.string ⟨#[45]⟩,.string ⟨#[42]⟩,.string ⟨#[60]⟩,.string ⟨#[61,61]⟩] cg):=by show Bx _ _ _;rw [Y];exact m.o.over (bA _ _)
    replace g:Hx (Rq rb tv ts en w m0 (s4) cg):=by show Rq _ _ _ _ _ _ _ _;rw [Y];exact g.o.over (bA _ _)
    replace b:Hx (Off za none cg (fun W=>XE W f [M O a0,M O a1,M O a2,.string a3,U a4 a5 a6] da)):=by show Off _ _ _ _;rw [Y];exact b.o.over (bA _ _)
    replace n:Hx (Off zb none cg (fun W=>XE W f [M O b0,M O b1,M O b2,.string b3,U b4 b5 b6] db)):=by show Off _ _ _ _;rw [Y];exact n.o.over (bA _ _)
    obtain ⟨s5,bn⟩:=nm (Al ts [41] s4);have KN:=Aa (AO ⟨#[41]⟩ [41] rfl (by decide) s4 _ g.o.st);rw [<-bn] at KN;rw [<-bn] at T;have gj:=Aa bn;clear bn;go_wp2_with fail;rw [<-Y,<-cr];clear C;clear cr Y;refine KN.o.mono ?_;rintro e dr ⟨rfl,N⟩;clear KN;have A:=N.1;replace c:=bkp c g.o.rlt bj A;replace a:=bkp a g.o.rlt af A;replace k:=bkp k g.o.rlt c5 A;replace m:=bkp m g.o.rlt c4 A;replace L:=bkp L g.o.rlt el A;replace b:=Aa (b.o.keep A (by have:=g.o.rlt;have:=ad.o;omega));replace n:=Aa (n.o.keep A (by have:=g.o.rlt;have:=ci.o;omega));replace g:Hx (Rq rb tv ts en w m0 (s5) dr):=Qo.rq g.o N;clear A N;obtain ⟨gg,gf,ge,gd,gc⟩:=rc5 k.o.row;obtain ⟨gb,ga,f9,f8,f7⟩:=rc5 L.o.row;obtain ⟨V,E⟩:=nm (dr.alloc (ze #[M O a0,M O a1,M O a2,.string a3,U a4 a5 a6,M O b0,M O b1,M O b2,.string b3,U b4 b5 b6] 49));obtain ⟨G,di⟩:=nm dr.heap.size;have B:=di;have ek:Hx (w.heap.size<=G):=by show _<=_;rw [B];exact g.o.size
    have am:Hx (r < G):=by show _ < _;rw [B];exact c.o.lt
    have ao:Hx (u < G):=by show _ < _;rw [B];exact a.o.lt
    have cm:Hx (F < G):=by show _ < _;rw [B];exact k.o.lt
    have cj:Hx (J < G):=by show _ < _;rw [B];exact m.o.lt
    have cl:Hx (R < G):=by show _ < _;rw [B];exact L.o.lt
    have aq:Hx (Bx G [M O a0,M O a1,M O a2,.string a3,U a4 a5 a6,M O b0,M O b1,M O b2,.string b3,U b4 b5 b6] V):=by show Bx _ _ _;rw [E,B];exact Bx.new dr [M O a0,M O a1,M O a2,.string a3,U a4 a5 a6,M O b0,M O b1,M O b2,.string b3,U b4 b5 b6] 49
    replace c:Hx (Bx r [M O 0,M O 0,M O 0,.string ⟨#[]⟩,U none 0 0] V):=by show Bx _ _ _;rw [E];exact c.o.over (bA _ _)
    replace a:Hx (Bx u [M O kk,M O p,M O 0,.string ⟨#[]⟩,U none 0 0] V):=by show Bx _ _ _;rw [E];exact a.o.over (bA _ _)
    replace k:Hx (Bx F [M O a0,M O a1,M O a2,.string a3,U a4 a5 a6] V):=by show Bx _ _ _;rw [E];exact k.o.over (bA _ _)
    replace m:Hx (Bx J [.string ⟨#[43]⟩,.string ⟨#[45]⟩,.string ⟨#[42]⟩,.string ⟨#[60]⟩,.string ⟨#[61,61]⟩] V):=by show Bx _ _ _;rw [E];exact m.o.over (bA _ _)
    replace L:Hx (Bx R [M O b0,M O b1,M O b2,.string b3,U b4 b5 b6] V):=by show Bx _ _ _;rw [E];exact L.o.over (bA _ _)
    replace g:Hx (Rq rb tv ts en w m0 (s5) V):=by show Rq _ _ _ _ _ _ _ _;rw [E];exact g.o.over (bA _ _)
    replace b:Hx (Off za none V (fun W=>XE W f [M O a0,M O a1,M O a2,.string a3,U a4 a5 a6] da)):=by show Off _ _ _ _;rw [E];exact b.o.over (bA _ _)
    replace n:Hx (Off zb none V (fun W=>XE W f [M O b0,M O b1,M O b2,.string b3,U b4 b5 b6] db)):=by show Off _ _ _ _;rw [E];exact n.o.over (bA _ _)
    have b7:r≠u:=by have:=I.o;omega
    have b9:u≠r:=by have:=I.o;omega
    have b8:r≠F:=by have:=aa.o;omega
    have cb:F≠r:=by have:=aa.o;omega
    have c6:r≠J:=by have:=ae.o;omega
    have c7:J≠r:=by have:=ae.o;omega
    have es:r≠R:=by have:=an.o;omega
    have e2:R≠r:=by have:=an.o;omega
    have er:r≠G:=by have:=am.o;omega
    have et:G≠r:=by have:=am.o;omega
    have ca:u≠F:=by have:=Q.o;omega
    have cc:F≠u:=by have:=Q.o;omega
    have dc:u≠J:=by have:=ac.o;omega
    have c8:J≠u:=by have:=ac.o;omega
    have e1:u≠R:=by have:=ap.o;omega
    have e5:R≠u:=by have:=ap.o;omega
    have e0:u≠G:=by have:=ao.o;omega
    have ev:G≠u:=by have:=ao.o;omega
    have dd:F≠J:=by have:=bm.o;omega
    have c9:J≠F:=by have:=bm.o;omega
    have e8:F≠R:=by have:=cn.o;omega
    have e6:R≠F:=by have:=cn.o;omega
    have e7:F≠G:=by have:=cm.o;omega
    have ex:G≠F:=by have:=cm.o;omega
    have ez:J≠R:=by have:=ck.o;omega
    have e4:R≠J:=by have:=ck.o;omega
    have ey:J≠G:=by have:=cj.o;omega
    have eu:G≠J:=by have:=cj.o;omega
    have e3:R≠G:=by have:=cl.o;omega
    have ew:G≠R:=by have:=cl.o;omega
    obtain ⟨bi,ce1,bh,bg,bf⟩:=rc5 a.o.row;obtain ⟨bd,bc,a9,a8,a7⟩:=fz5 a.o.fz;obtain ⟨eg,ef,ee,ed,ec⟩:=rc5 c.o.row;obtain ⟨ea,d9,d8,d7,d6⟩:=fz5 c.o.fz;rw [E] at bi ce1 bh bg bf bd bc a9 a8 a7 eg ef ee ed ec ea d9 d8 d7 d6;obtain ⟨ct,aj⟩:=nm (V.setCell ⟨u,4,none⟩ (U (some ⟨G,0,none⟩) 2 2));have l:V.grownBy ct (some u):=by rw [aj];exact (gst (Af _ _))
    replace a:Hx (Bx u [M O kk,M O p,M O 0,.string ⟨#[]⟩,U (some ⟨G,0,none⟩) 2 2] ct):=by show Bx _ _ _;rw [aj];exact (a.o.se 4)
    replace c:=Aa (c.o.keep l (by have:=I.o;omega));replace k:=Aa (k.o.keep l (by have:=Q.o;omega));replace m:=Aa (m.o.keep l (by have:=ac.o;omega));replace L:=Aa (L.o.keep l (by have:=ap.o;omega));replace aq:=Aa (aq.o.keep l (by have:=ao.o;omega));replace g:=Aa (g.o.box l af.o);replace b:=Aa (b.o.keep l bz.o);replace n:=Aa (n.o.keep l cw.o);clear l;obtain ⟨fj,dk⟩:=nm (((((ct.setCell ⟨r,0,none⟩ (M O kk)).setCell ⟨r,1,none⟩ (M O p)).setCell ⟨r,2,none⟩ (M O 0)).setCell ⟨r,3,none⟩ (.string ⟨#[]⟩)).setCell ⟨r,4,none⟩ (U (some ⟨G,0,none⟩) 2 2));have l:ct.grownBy fj (some r):=by rw [dk];exact (gst (gst (gst (gst (gst (Af _ _))))))
    replace c:Hx (Bx r [M O kk,M O p,M O 0,.string ⟨#[]⟩,U (some ⟨G,0,none⟩) 2 2] fj):=by show Bx _ _ _;rw [dk];exact (((((c.o.se 0).se 1).se 2).se 3).se 4)
    replace a:=Aa (a.o.keep l (by have:=I.o;omega));replace k:=Aa (k.o.keep l (by have:=aa.o;omega));replace m:=Aa (m.o.keep l (by have:=ae.o;omega));replace L:=Aa (L.o.keep l (by have:=an.o;omega));replace aq:=Aa (aq.o.keep l (by have:=am.o;omega));replace g:=Aa (g.o.box l bj.o);replace b:=Aa (b.o.keep l dn.o);replace n:=Aa (n.o.keep l cv.o);clear l;go_wp2_with fail;refine bodyPost_ret (v:=zf #[M O kk,M O p,M O 0,.string ⟨#[]⟩,U (some ⟨G,0,none⟩) 2 2]) (by simp [results,Tryz.results60,go_sem, *]) rfl ?_;rw [<-E,<-di,<-aj,<-dk];rw [T.o];refine ⟨_,_,_,_,_,_,_,rfl,fun W hW=>?_,g.o.gr,g.o.st,by rw [<-fm.o];exact g.o.le⟩;have o1:=(b.o.base ad.o) W hW;have o2:=(n.o.base ci.o) W hW;exact ⟨kk,p,0,⟨#[]⟩,_,[da,db],rfl,rfl,LS.two ((Off.bx aq.o ek.o) W hW) o1 o2⟩
theorem CY (hall:ts.all An=true):∀ (f deep:Nat),f+deep=61->deep<=60->Mv rb tv ts en f deep
 | 0,deep,h1,h2=>absurd h1 (by omega)
 | f+1,deep,h1,h2=>fun s w h=>by
  by_cases h3:tl ts s 0=[40]/\deep < 60
  ·exact MJ hall f deep s w h h3 (CY hall f (deep+1) (by omega) (by omega))
  by_cases h4:tl ts s 0=[45]
  ·exact MI hall f deep s w h h4
  by_cases h5:CH (tl ts s 0)=true
  ·exact MH hall f deep s w h h4 h5
  by_cases h6:tl ts s 0=[40]
  ·exact Mk hall f deep s w h h3 h4 h5 h6
  by_cases h7:tl ts s 0=[]
  ·exact Mj hall f deep s w h h3 h4 h5 h7
  ·exact Mi hall f deep s w h h3 h4 h5 h6 h7
end
end Go.Proofs.YtipngnjffjajpaaGreatDoor.Tx
