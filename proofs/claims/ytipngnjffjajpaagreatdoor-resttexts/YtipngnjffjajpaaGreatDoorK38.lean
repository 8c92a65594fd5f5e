/- The document's answer: a tree's text. -/
import Derived.Test.YtipngnjffjajpaaGreatDoorK37
import Derived.Test.YtipngnjffjajpaaGreatDoorK36
set_option linter.unusedVariables false
set_option maxHeartbeats 8000000
set_option maxRecDepth 100000
namespace Go.Proofs.YtipngnjffjajpaaGreatDoor.Tx
open Go.RowKit
open Go.Value renaming int -> O, slice -> zd, bool -> ze, agg -> zf, pointer -> zh, tuple -> zj
open Go.IntKind renaming i64 -> zc
open Go.Obj renaming cells -> zg
open Go.Ending renaming returned -> zi
theorem Ry (ke kc:Nat) (kd a:Int) (x y:ByteArray) (gv:Bool) (lb:List D) (ps:List ByteArray) (body:List D) (r:D):deT ke kc (deD kd a x y gv lb ps body r)=if kd=7 then wdT 7++x.data.toList++[40]++AB [44,32] (ps.map (fun y=>y.data.toList))++[41,32,123,10]++AO ke kc 1 body++[32,32,114,101,116,117,114,110,32]++exT ke r++[59,10,125,10] else wdT kd++x.data.toList++(if kd=2 then [32]++y.data.toList else [])++(if gv=true then [32]++([123]++AB [59,32] (lb.map poT)++[125]) else [])++[59,10]:=by
 unfold deT laT;simp only [gDd,List.map_map];split
 ·rfl
 ·cases gv <;> simp
theorem Hy (ke kc nn nl:Nat) (ds l:List D) (a_ a2:Option Addr) (cap c2:Nat) (w:World) (hnn:nn=ds.length) (hnl:nl=l.length) (hc:LS 13 (ZD w ke kc) w (zd a_ nn cap) ds) (hG:Pl ke kc ds l) (hl:(trT ke kc ds l).length<=1000000)
  (KS:Hx (∀ (ds:List D) (ao:Option Addr) (c:Nat) (X:World),LS 12 (ZC X ke kc) X (zd ao ds.length c) ds->(∀ s∈ds,sfK ke kc s=true/\gdC ke 6 s)->(AO ke kc 1 ds).length<=1000000->Ro 46 #[zd ao ds.length c,.string ⟨#[32,32]⟩] X (.string ⟨(AO ke kc 1 ds).toArray⟩)))
  (KM:Hx (∀ X,Ov w X->Ro 46 #[zd a2 nl c2,.string ⟨#[32,32]⟩] X (.string ⟨(AO ke kc 1 l).toArray⟩))) :
  Ro 20 #[zf #[zd a_ nn cap,zd a2 nl c2]] w (.string ⟨(trT ke kc ds l).toArray⟩):=by
 obtain ⟨fin,a6⟩:=nm ((ds.map (deT ke kc)).flatten);obtain ⟨M,hM⟩:=nm (⟨(AO ke kc 1 l).toArray⟩:ByteArray);have b9:trT ke kc ds l=fin++[109,97,105,110,32,123,10]++M.data.toList++[125,10]:=by rw [a6,hM];rfl
 rw [b9] at hl ⊢;rw [<-hM] at KM;have dk:M.size<=1000000:=by
  have e:M.data.toList.length=M.size:=rfl;simp only [List.length_append] at hl;omega
 have cc:fin.length<=1000000:=by simp only [List.length_append] at hl;omega
 have HF:=Aa a6;have HC:=Aa hc;have HG:=Aa hG;have HN:=Aa hnn;have a8:=Aa cc;have cx:=hc.max;rw [<-hnn] at cx;obtain ⟨V0,bj⟩:=nm (w.alloc (zg #[zd a_ nn cap,zd a2 nl c2] 25));obtain ⟨bt,b2⟩:=nm w.heap.size;have b7:=aov bj;have cw:=C2 bj b2;clear a6 hM b9 hc hG hnn hnl hl cc;go_enter Tryz.func20,Tryz.ntmps20;go_wp2_with fail;rw [<-bj,<-b2];clear bj b2;go_loopw [3,4] (fun s i wr=>∃ (j:Nat) (x:ByteArray),j<=nn/\i=O zc j/\s=.string x/\x.data.toList++((ds.drop j).map (deT ke kc)).flatten=fin/\Ov V0 wr) (fun _ i _=>nn - (intOf i).toNat)
 case atStart=>exact ⟨0,⟨#[]⟩,Nat.zero_le _,rfl,rfl,by rw [HF.o];rfl,Below.refl _ _⟩
 case round=>
  obtain ⟨j,s,hj,rfl,rfl,J,a4⟩:=hrel;obtain ⟨t0,t1⟩:=rc2 (cw.o.over a4);by_cases hjl:j < nn
  ·have a3:j < ds.length:=by have:=HN.o;omega
   have cq:(j:Int) < (nn:Int):=by omega
   have hB:Ov w wr:=Ab b7.o a4;obtain ⟨b,dc,rfl,cs,cp,b1,hr⟩:=HC.o.at a3;obtain ⟨b0,bv,bh⟩:=HG.o.1 _ (List.getElem_mem a3);rw [List.drop_eq_getElem_cons a3,List.map_cons,List.flatten_cons] at J;generalize ds[j]=dj at hr J b0 bv bh;obtain ⟨kd,a,x,y,gv,aL,cL,lb,aP,cP,ps,aB,cB,Q,e0,e1,e2,e3,q,q1,q2,r,rfl,rfl,-,-,hL,hP,ci,hR⟩:=hr;obtain ⟨p1,p2,p3,p4,p5,p6⟩:=Ff b0;simp only [CS,Bool.or_eq_false_iff,decide_eq_false_iff_not] at bv;obtain ⟨⟨⟨m1,m2⟩,m3⟩,Z⟩:=bv;simp only [gDd,List.length_map] at m1 m2 m3 Z p1 p2 p3 p4 bh;have hx:x.size<=12:=CP p3;have hy:y.size<=12:=Eh p4;have de:s.size<=1000000:=by
    have:=congrArg List.length J;simp only [List.length_append] at this;have e:s.data.toList.length=s.size:=rfl;have:=a8.o;omega
   have bi:(deT ke kc (deD kd a x y gv lb ps Q r)).length<=1000000:=by
    have:=congrArg List.length J;simp only [List.length_append] at this;have:=a8.o;omega
   rw [Ry] at J bi;have d0:=CK hB b1 rfl;have dA:=CJ hB b1;have an:gv=true->∀ X,Ov wr X->Ro 48 #[zd aL lb.length cL] X (.string ⟨([123]++AB [59,32] (lb.map poT)++[125]).toArray⟩):=fun bw X hX=>by
    have hp:=((CF p5).1 bw).2;simp only [gDd] at hp;refine Kd lb aL lb.length cL X rfl (Dj hX (Dj hB hL)) (by omega) fun p a5=>⟨hp p a5,?_⟩;have:=List.any_eq_false.1 Z p a5;simp only [decide_eq_true_eq] at this;omega
   have am:gv=true->(⟨([123]++AB [59,32] (lb.map poT)++[125]).toArray⟩:ByteArray).size<=1000:=fun bw=>by
    have hp:=((CF p5).1 bw).2;simp only [gDd] at hp;have l2:=Cd [59,32] 100 (lb.map poT) fun z J=>by
     obtain ⟨p,a5,rfl⟩:=List.mem_map.1 J;refine E8 (hp p a5) ?_;have:=List.any_eq_false.1 Z p a5;simp only [decide_eq_true_eq] at this;omega
    rw [List.length_map] at l2;have hm:lb.length*(100+2)<=4*(100+2):=Nat.mul_le_mul_right _ (by omega);rw [A8];simp only [List.length_append,List.length_cons,List.length_nil] at l2 ⊢;omega
   obtain ⟨T,hT⟩:=nm (⟨([123]++AB [59,32] (lb.map poT)++[125]).toArray⟩:ByteArray);have cf:[123]++AB [59,32] (lb.map poT)++[125]=T.data.toList:=by rw [hT]
   rw [cf] at J;rw [<-hT] at an am;have N:(kd=4\/kd=5->gv=true)/\(gv=true->kd=4\/kd=5\/kd=6):=by
    refine ⟨fun h=>?_,fun h=>((CF p5).1 h).1⟩
    cases hgB:gv with
    | true=>rfl
    | false=>exact absurd h ((CF p5).2 hgB).2
   have KF:kd=7->∃ P B E:ByteArray,P.size<=1000/\B.size<=1000000/\E.size<=1000/\AB [44,32] (ps.map (fun y=>y.data.toList))=P.data.toList/\AO ke kc 1 Q=B.data.toList/\exT ke r=E.data.toList/\Hx (∀ X,Ov wr X->Ro 45 #[zd aP ps.length cP] X (.string P))/\Hx (∀ X,Ov wr X->Ro 46 #[zd aB Q.length cB,.string ⟨#[32,32]⟩] X (.string B))/\Hx (∀ X,Ov wr X->Ro 47 #[zf #[O zc e0,O zc e1,O zc e2,.string e3,zd q q1 q2]] X (.string E)):=fun h7=>by
    subst h7;simp only [Ez,gDd,if_true,Bool.and_eq_true,List.all_eq_true] at p6;obtain ⟨⟨f1,f2⟩,f3⟩:=p6;have cb:∀ z∈ps,z.size<=12:=fun z J=>by
     have:=CP (f1 (dS z) (List.mem_map_of_mem J))
     rwa [Gg] at this
    have df:(AB [44,32] (ps.map (fun y=>y.data.toList))).length<=100:=by
     have:=Cd [44,32] 12 (ps.map (fun y=>y.data.toList)) fun z J=>by
      obtain ⟨c,hc,rfl⟩:=List.mem_map.1 J;exact cb c hc
     rw [List.length_map] at this;have dg:ps.length*(12+2)<=4*(12+2):=Nat.mul_le_mul_right _ (by omega);simp only [List.length_cons,List.length_nil] at this;omega
    have cd:(AO ke kc 1 Q).length<=1000000:=by
     rw [if_pos rfl] at bi;simp only [List.length_append] at bi;omega
    have cr:=A7 f3 m3;exact ⟨⟨(AB [44,32] (ps.map (fun y=>y.data.toList))).toArray⟩,⟨(AO ke kc 1 Q).toArray⟩,⟨(exT ke r).toArray⟩,by rw [A8];omega,by rw [A8];exact cd,by rw [A8];omega,rfl,rfl,rfl,
     fun X hX=>Hi ps aP ps.length cP X rfl (Bu hX (Bu hB hP)) (fun z J=>Nat.le_trans (cb z J) (by decide)) (by omega),
     fun X hX=>KS.o Q aB cB X (Ar hX (Ar hB ci)) bh cd,
     fun X hX=>DJ ke _ r X ((hR.over hB).over hX) f3 (Nat.le_trans cr (by decide))⟩
   have HB:=Aa a4;clear b1 cp hB a4 a3 hj hL hP ci hR m1 m2 m3 Z p3 p4 p5 p6 bh b0 hT cf bi;obtain rfl | rfl | rfl | rfl | rfl | rfl | rfl:kd=1\/kd=2\/kd=3\/kd=4\/kd=5\/kd=6\/kd=7:=by omega
   ·have az:gv=false:=by
     cases hgB:gv with
     | false=>rfl
     | true=>have:=N.2 hgB;omega
    subst az;rw [if_neg (by decide),if_neg (by decide),if_neg (by decide)] at J;clear KF an am N p1 p2;generalize ps.length=nP at dA;generalize Q.length=nB at dA;generalize lb.length=nL at dA;have HZ:=Aa J;clear J;obtain ⟨V,R⟩:=nm (wr.alloc (zg #[O zc 1,O zc a,.string x,.string y,ze false,zd aL nL cL,zd aP nP cP,zd aB nB cB,O zc e0,O zc e1,O zc e2,.string e3,zd q q1 q2] 51));obtain ⟨bq,u⟩:=nm wr.heap.size;have I:=aov R;have v:=C2 R u;have w1:¬ 9223372036854775807 < 6+x.size:=by omega
    have w2:¬ 9223372036854775807 < s.size+(6+x.size):=by omega
    go_wp2_with fail;rw [<-R,<-u];clear R u d0 dA;obtain ⟨m0,m1,m2,m3,Z,m5,m6,m7,m8,m9,G,F,C⟩:=B8 v.o;refine Go.Proofs.YtipngnjffjajpaaGreatDoor.gS (fun Wz=>Below V.heap.size V Wz) (Below.refl _ _).drew fun f=>?_;generalize V.drew=Y at f ⊢;refine kO 0 ?_;refine kO 2 ?_;refine kO 3 ?_;refine kO 6 ?_;refine kO 7 ?_;refine rdA 1 rfl fun K A=>?_;go_simp;obtain ⟨U,S⟩:=nm (Y.alloc (zg #[.string ⟨#[]⟩,.string ⟨#[97,99,116,111,114,32]⟩,.string ⟨#[103,114,97,110,116,32]⟩,.string ⟨#[115,112,101,97,107,32]⟩,.string ⟨#[105,110,32]⟩,.string ⟨#[111,117,116,32]⟩,.string ⟨#[118,97,114,32]⟩,.string ⟨#[102,117,110,99,32]⟩] 9));obtain ⟨g,hg⟩:=nm Y.heap.size;have n:=Aa (Ab f (bA Y (zg #[.string ⟨#[]⟩,.string ⟨#[97,99,116,111,114,32]⟩,.string ⟨#[103,114,97,110,116,32]⟩,.string ⟨#[115,112,101,97,107,32]⟩,.string ⟨#[105,110,32]⟩,.string ⟨#[111,117,116,32]⟩,.string ⟨#[118,97,114,32]⟩,.string ⟨#[102,117,110,99,32]⟩] 9)));have H:U.cell? ⟨g,1,none⟩=some (.string ⟨#[97,99,116,111,114,32]⟩):=by rw [S,hg];exact A5 Y [.string ⟨#[]⟩,.string ⟨#[97,99,116,111,114,32]⟩,.string ⟨#[103,114,97,110,116,32]⟩,.string ⟨#[115,112,101,97,107,32]⟩,.string ⟨#[105,110,32]⟩,.string ⟨#[111,117,116,32]⟩,.string ⟨#[118,97,114,32]⟩,.string ⟨#[102,117,110,99,32]⟩] 9 1 _ rfl
    rw [<-S] at n;rw [<-S,<-hg];clear S hg f;refine xK A n.o fun f=>?_;clear A K;refine kO 4 ?_;refine rdA 5 rfl fun K A=>?_;go_simp;refine xK A n.o fun f=>?_;clear A K H;refine kO 8 ?_;refine kO 9 ?_;refine kO 10 ?_;refine gE ?_;have L:=Aa (Ab I.o n.o);have W:=Aa (Ad.over v.o n.o);clear m0 m1 m2 m3 Z m5 m6 m7 m8 m9 G F C I v n f w1 w2;obtain ⟨m0,m1,m2,m3,Z,m5,m6,m7,m8,m9,G,F,C⟩:=B8 W.o;have s4:¬ 9223372036854775807 < s.size+(6+x.size)+2:=by omega
    have ac:Hx ((s++(⟨#[97,99,116,111,114,32]⟩++x)++⟨#[59,10]⟩:ByteArray).data.toList++((ds.drop (j+1)).map (deT ke kc)).flatten=fin):=by
     show _=_;rw [<-HZ.o];simp only [Bj];simp [wdT]
    clear HZ;go_wp2_with fail;exact ⟨⟨j+1,_,by omega,by go_num,rfl,ac.o,Ab HB.o L.o⟩,by simp [intOf];omega⟩
   ·have az:gv=false:=by
     cases hgB:gv with
     | false=>rfl
     | true=>have:=N.2 hgB;omega
    subst az;rw [if_neg (by decide),if_pos rfl,if_neg (by decide)] at J;clear KF an am N p1 p2;generalize ps.length=nP at dA;generalize Q.length=nB at dA;generalize lb.length=nL at dA;have HZ:=Aa J;clear J;obtain ⟨V,R⟩:=nm (wr.alloc (zg #[O zc 2,O zc a,.string x,.string y,ze false,zd aL nL cL,zd aP nP cP,zd aB nB cB,O zc e0,O zc e1,O zc e2,.string e3,zd q q1 q2] 51));obtain ⟨bq,u⟩:=nm wr.heap.size;have I:=aov R;have v:=C2 R u;have w1:¬ 9223372036854775807 < 6+x.size:=by omega
    have w2:¬ 9223372036854775807 < s.size+(6+x.size):=by omega
    go_wp2_with fail;rw [<-R,<-u];clear R u d0 dA;obtain ⟨m0,m1,m2,m3,Z,m5,m6,m7,m8,m9,G,F,C⟩:=B8 v.o;refine Go.Proofs.YtipngnjffjajpaaGreatDoor.gS (fun Wz=>Below V.heap.size V Wz) (Below.refl _ _).drew fun f=>?_;generalize V.drew=Y at f ⊢;refine kO 0 ?_;refine kO 2 ?_;refine kO 3 ?_;refine kO 6 ?_;refine kO 7 ?_;refine rdA 1 rfl fun K A=>?_;go_simp;obtain ⟨U,S⟩:=nm (Y.alloc (zg #[.string ⟨#[]⟩,.string ⟨#[97,99,116,111,114,32]⟩,.string ⟨#[103,114,97,110,116,32]⟩,.string ⟨#[115,112,101,97,107,32]⟩,.string ⟨#[105,110,32]⟩,.string ⟨#[111,117,116,32]⟩,.string ⟨#[118,97,114,32]⟩,.string ⟨#[102,117,110,99,32]⟩] 9));obtain ⟨g,hg⟩:=nm Y.heap.size;have n:=Aa (Ab f (bA Y (zg #[.string ⟨#[]⟩,.string ⟨#[97,99,116,111,114,32]⟩,.string ⟨#[103,114,97,110,116,32]⟩,.string ⟨#[115,112,101,97,107,32]⟩,.string ⟨#[105,110,32]⟩,.string ⟨#[111,117,116,32]⟩,.string ⟨#[118,97,114,32]⟩,.string ⟨#[102,117,110,99,32]⟩] 9)));have H:U.cell? ⟨g,2,none⟩=some (.string ⟨#[103,114,97,110,116,32]⟩):=by rw [S,hg];exact A5 Y [.string ⟨#[]⟩,.string ⟨#[97,99,116,111,114,32]⟩,.string ⟨#[103,114,97,110,116,32]⟩,.string ⟨#[115,112,101,97,107,32]⟩,.string ⟨#[105,110,32]⟩,.string ⟨#[111,117,116,32]⟩,.string ⟨#[118,97,114,32]⟩,.string ⟨#[102,117,110,99,32]⟩] 9 2 _ rfl
    rw [<-S] at n;rw [<-S,<-hg];clear S hg f;refine xK A n.o fun f=>?_;clear A K;refine kO 4 ?_;refine rdA 5 rfl fun K A=>?_;go_simp;refine xK A n.o fun f=>?_;clear A K H;refine kO 8 ?_;refine kO 9 ?_;refine kO 10 ?_;refine gE ?_;have L:=Aa (Ab I.o n.o);have W:=Aa (Ad.over v.o n.o);clear m0 m1 m2 m3 Z m5 m6 m7 m8 m9 G F C I v n f w1 w2;obtain ⟨m0,m1,m2,m3,Z,m5,m6,m7,m8,m9,G,F,C⟩:=B8 W.o;have s0:¬ 9223372036854775807 < 1+y.size:=by omega
    have s1:¬ 9223372036854775807 < s.size+(6+x.size)+(1+y.size):=by omega
    have s4:¬ 9223372036854775807 < s.size+(6+x.size)+(1+y.size)+2:=by omega
    have ac:Hx ((s++(⟨#[103,114,97,110,116,32]⟩++x)++(⟨#[32]⟩++y)++⟨#[59,10]⟩:ByteArray).data.toList++((ds.drop (j+1)).map (deT ke kc)).flatten=fin):=by
     show _=_;rw [<-HZ.o];simp only [Bj];simp [wdT]
    clear HZ;go_wp2_with fail;exact ⟨⟨j+1,_,by omega,by go_num,rfl,ac.o,Ab HB.o L.o⟩,by simp [intOf];omega⟩
   ·have az:gv=false:=by
     cases hgB:gv with
     | false=>rfl
     | true=>have:=N.2 hgB;omega
    subst az;rw [if_neg (by decide),if_neg (by decide),if_neg (by decide)] at J;clear KF an am N p1 p2;generalize ps.length=nP at dA;generalize Q.length=nB at dA;generalize lb.length=nL at dA;have HZ:=Aa J;clear J;obtain ⟨V,R⟩:=nm (wr.alloc (zg #[O zc 3,O zc a,.string x,.string y,ze false,zd aL nL cL,zd aP nP cP,zd aB nB cB,O zc e0,O zc e1,O zc e2,.string e3,zd q q1 q2] 51));obtain ⟨bq,u⟩:=nm wr.heap.size;have I:=aov R;have v:=C2 R u;have w1:¬ 9223372036854775807 < 6+x.size:=by omega
    have w2:¬ 9223372036854775807 < s.size+(6+x.size):=by omega
    go_wp2_with fail;rw [<-R,<-u];clear R u d0 dA;obtain ⟨m0,m1,m2,m3,Z,m5,m6,m7,m8,m9,G,F,C⟩:=B8 v.o;refine Go.Proofs.YtipngnjffjajpaaGreatDoor.gS (fun Wz=>Below V.heap.size V Wz) (Below.refl _ _).drew fun f=>?_;generalize V.drew=Y at f ⊢;refine kO 0 ?_;refine kO 2 ?_;refine kO 3 ?_;refine kO 6 ?_;refine kO 7 ?_;refine rdA 1 rfl fun K A=>?_;go_simp;obtain ⟨U,S⟩:=nm (Y.alloc (zg #[.string ⟨#[]⟩,.string ⟨#[97,99,116,111,114,32]⟩,.string ⟨#[103,114,97,110,116,32]⟩,.string ⟨#[115,112,101,97,107,32]⟩,.string ⟨#[105,110,32]⟩,.string ⟨#[111,117,116,32]⟩,.string ⟨#[118,97,114,32]⟩,.string ⟨#[102,117,110,99,32]⟩] 9));obtain ⟨g,hg⟩:=nm Y.heap.size;have n:=Aa (Ab f (bA Y (zg #[.string ⟨#[]⟩,.string ⟨#[97,99,116,111,114,32]⟩,.string ⟨#[103,114,97,110,116,32]⟩,.string ⟨#[115,112,101,97,107,32]⟩,.string ⟨#[105,110,32]⟩,.string ⟨#[111,117,116,32]⟩,.string ⟨#[118,97,114,32]⟩,.string ⟨#[102,117,110,99,32]⟩] 9)));have H:U.cell? ⟨g,3,none⟩=some (.string ⟨#[115,112,101,97,107,32]⟩):=by rw [S,hg];exact A5 Y [.string ⟨#[]⟩,.string ⟨#[97,99,116,111,114,32]⟩,.string ⟨#[103,114,97,110,116,32]⟩,.string ⟨#[115,112,101,97,107,32]⟩,.string ⟨#[105,110,32]⟩,.string ⟨#[111,117,116,32]⟩,.string ⟨#[118,97,114,32]⟩,.string ⟨#[102,117,110,99,32]⟩] 9 3 _ rfl
    rw [<-S] at n;rw [<-S,<-hg];clear S hg f;refine xK A n.o fun f=>?_;clear A K;refine kO 4 ?_;refine rdA 5 rfl fun K A=>?_;go_simp;refine xK A n.o fun f=>?_;clear A K H;refine kO 8 ?_;refine kO 9 ?_;refine kO 10 ?_;refine gE ?_;have L:=Aa (Ab I.o n.o);have W:=Aa (Ad.over v.o n.o);clear m0 m1 m2 m3 Z m5 m6 m7 m8 m9 G F C I v n f w1 w2;obtain ⟨m0,m1,m2,m3,Z,m5,m6,m7,m8,m9,G,F,C⟩:=B8 W.o;have s4:¬ 9223372036854775807 < s.size+(6+x.size)+2:=by omega
    have ac:Hx ((s++(⟨#[115,112,101,97,107,32]⟩++x)++⟨#[59,10]⟩:ByteArray).data.toList++((ds.drop (j+1)).map (deT ke kc)).flatten=fin):=by
     show _=_;rw [<-HZ.o];simp only [Bj];simp [wdT]
    clear HZ;go_wp2_with fail;exact ⟨⟨j+1,_,by omega,by go_num,rfl,ac.o,Ab HB.o L.o⟩,by simp [intOf];omega⟩
   ·have bz:gv=true:=N.1 (by decide)
    subst bz;rw [if_neg (by decide),if_neg (by decide),if_pos rfl] at J;have KL:=Aa (an rfl);have ce:=am rfl;clear KF an am N p1 p2;generalize ps.length=nP at dA;generalize Q.length=nB at dA;generalize lb.length=nL at dA KL;have HZ:=Aa J;clear J;obtain ⟨V,R⟩:=nm (wr.alloc (zg #[O zc 4,O zc a,.string x,.string y,ze true,zd aL nL cL,zd aP nP cP,zd aB nB cB,O zc e0,O zc e1,O zc e2,.string e3,zd q q1 q2] 51));obtain ⟨bq,u⟩:=nm wr.heap.size;have I:=aov R;have v:=C2 R u;have w1:¬ 9223372036854775807 < 3+x.size:=by omega
    have w2:¬ 9223372036854775807 < s.size+(3+x.size):=by omega
    go_wp2_with fail;rw [<-R,<-u];clear R u d0 dA;obtain ⟨m0,m1,m2,m3,Z,m5,m6,m7,m8,m9,G,F,C⟩:=B8 v.o;refine Go.Proofs.YtipngnjffjajpaaGreatDoor.gS (fun Wz=>Below V.heap.size V Wz) (Below.refl _ _).drew fun f=>?_;generalize V.drew=Y at f ⊢;refine kO 0 ?_;refine kO 2 ?_;refine kO 3 ?_;refine kO 6 ?_;refine kO 7 ?_;refine rdA 1 rfl fun K A=>?_;go_simp;obtain ⟨U,S⟩:=nm (Y.alloc (zg #[.string ⟨#[]⟩,.string ⟨#[97,99,116,111,114,32]⟩,.string ⟨#[103,114,97,110,116,32]⟩,.string ⟨#[115,112,101,97,107,32]⟩,.string ⟨#[105,110,32]⟩,.string ⟨#[111,117,116,32]⟩,.string ⟨#[118,97,114,32]⟩,.string ⟨#[102,117,110,99,32]⟩] 9));obtain ⟨g,hg⟩:=nm Y.heap.size;have n:=Aa (Ab f (bA Y (zg #[.string ⟨#[]⟩,.string ⟨#[97,99,116,111,114,32]⟩,.string ⟨#[103,114,97,110,116,32]⟩,.string ⟨#[115,112,101,97,107,32]⟩,.string ⟨#[105,110,32]⟩,.string ⟨#[111,117,116,32]⟩,.string ⟨#[118,97,114,32]⟩,.string ⟨#[102,117,110,99,32]⟩] 9)));have H:U.cell? ⟨g,4,none⟩=some (.string ⟨#[105,110,32]⟩):=by rw [S,hg];exact A5 Y [.string ⟨#[]⟩,.string ⟨#[97,99,116,111,114,32]⟩,.string ⟨#[103,114,97,110,116,32]⟩,.string ⟨#[115,112,101,97,107,32]⟩,.string ⟨#[105,110,32]⟩,.string ⟨#[111,117,116,32]⟩,.string ⟨#[118,97,114,32]⟩,.string ⟨#[102,117,110,99,32]⟩] 9 4 _ rfl
    rw [<-S] at n;rw [<-S,<-hg];clear S hg f;refine xK A n.o fun f=>?_;clear A K;refine kO 4 ?_;refine rdA 5 rfl fun K A=>?_;go_simp;refine xK A n.o fun f=>?_;clear A K H;refine kO 8 ?_;refine kO 9 ?_;refine kO 10 ?_;refine gE ?_;have L:=Aa (Ab I.o n.o);have W:=Aa (Ad.over v.o n.o);clear m0 m1 m2 m3 Z m5 m6 m7 m8 m9 G F C I v n f w1 w2;obtain ⟨m0,m1,m2,m3,Z,m5,m6,m7,m8,m9,G,F,C⟩:=B8 W.o;have s2:¬ 9223372036854775807 < 1+T.size:=by omega
    have s3:¬ 9223372036854775807 < s.size+(3+x.size)+(1+T.size):=by omega
    have s4:¬ 9223372036854775807 < s.size+(3+x.size)+(1+T.size)+2:=by omega
    have ac:Hx ((s++(⟨#[105,110,32]⟩++x)++(⟨#[32]⟩++T)++⟨#[59,10]⟩:ByteArray).data.toList++((ds.drop (j+1)).map (deT ke kc)).flatten=fin):=by
     show _=_;rw [<-HZ.o];simp only [Bj];simp [wdT]
    clear HZ;go_wp2_with fail;refine mo (KL.o _ L.o) fun W3 ap=>?_;have a0:=Aa (Ab L.o ap);clear ap KL m0 m1 m2 m3 Z m5 m6 m7 m8 m9 G F C W;go_wp2_with fail;exact ⟨⟨j+1,_,by omega,by go_num,rfl,ac.o,Ab HB.o a0.o⟩,by simp [intOf];omega⟩
   ·have bz:gv=true:=N.1 (by decide)
    subst bz;rw [if_neg (by decide),if_neg (by decide),if_pos rfl] at J;have KL:=Aa (an rfl);have ce:=am rfl;clear KF an am N p1 p2;generalize ps.length=nP at dA;generalize Q.length=nB at dA;generalize lb.length=nL at dA KL;have HZ:=Aa J;clear J;obtain ⟨V,R⟩:=nm (wr.alloc (zg #[O zc 5,O zc a,.string x,.string y,ze true,zd aL nL cL,zd aP nP cP,zd aB nB cB,O zc e0,O zc e1,O zc e2,.string e3,zd q q1 q2] 51));obtain ⟨bq,u⟩:=nm wr.heap.size;have I:=aov R;have v:=C2 R u;have w1:¬ 9223372036854775807 < 4+x.size:=by omega
    have w2:¬ 9223372036854775807 < s.size+(4+x.size):=by omega
    go_wp2_with fail;rw [<-R,<-u];clear R u d0 dA;obtain ⟨m0,m1,m2,m3,Z,m5,m6,m7,m8,m9,G,F,C⟩:=B8 v.o;refine Go.Proofs.YtipngnjffjajpaaGreatDoor.gS (fun Wz=>Below V.heap.size V Wz) (Below.refl _ _).drew fun f=>?_;generalize V.drew=Y at f ⊢;refine kO 0 ?_;refine kO 2 ?_;refine kO 3 ?_;refine kO 6 ?_;refine kO 7 ?_;refine rdA 1 rfl fun K A=>?_;go_simp;obtain ⟨U,S⟩:=nm (Y.alloc (zg #[.string ⟨#[]⟩,.string ⟨#[97,99,116,111,114,32]⟩,.string ⟨#[103,114,97,110,116,32]⟩,.string ⟨#[115,112,101,97,107,32]⟩,.string ⟨#[105,110,32]⟩,.string ⟨#[111,117,116,32]⟩,.string ⟨#[118,97,114,32]⟩,.string ⟨#[102,117,110,99,32]⟩] 9));obtain ⟨g,hg⟩:=nm Y.heap.size;have n:=Aa (Ab f (bA Y (zg #[.string ⟨#[]⟩,.string ⟨#[97,99,116,111,114,32]⟩,.string ⟨#[103,114,97,110,116,32]⟩,.string ⟨#[115,112,101,97,107,32]⟩,.string ⟨#[105,110,32]⟩,.string ⟨#[111,117,116,32]⟩,.string ⟨#[118,97,114,32]⟩,.string ⟨#[102,117,110,99,32]⟩] 9)));have H:U.cell? ⟨g,5,none⟩=some (.string ⟨#[111,117,116,32]⟩):=by rw [S,hg];exact A5 Y [.string ⟨#[]⟩,.string ⟨#[97,99,116,111,114,32]⟩,.string ⟨#[103,114,97,110,116,32]⟩,.string ⟨#[115,112,101,97,107,32]⟩,.string ⟨#[105,110,32]⟩,.string ⟨#[111,117,116,32]⟩,.string ⟨#[118,97,114,32]⟩,.string ⟨#[102,117,110,99,32]⟩] 9 5 _ rfl
    rw [<-S] at n;rw [<-S,<-hg];clear S hg f;refine xK A n.o fun f=>?_;clear A K;refine kO 4 ?_;refine rdA 5 rfl fun K A=>?_;go_simp;refine xK A n.o fun f=>?_;clear A K H;refine kO 8 ?_;refine kO 9 ?_;refine kO 10 ?_;refine gE ?_;have L:=Aa (Ab I.o n.o);have W:=Aa (Ad.over v.o n.o);clear m0 m1 m2 m3 Z m5 m6 m7 m8 m9 G F C I v n f w1 w2;obtain ⟨m0,m1,m2,m3,Z,m5,m6,m7,m8,m9,G,F,C⟩:=B8 W.o;have s2:¬ 9223372036854775807 < 1+T.size:=by omega
    have s3:¬ 9223372036854775807 < s.size+(4+x.size)+(1+T.size):=by omega
    have s4:¬ 9223372036854775807 < s.size+(4+x.size)+(1+T.size)+2:=by omega
    have ac:Hx ((s++(⟨#[111,117,116,32]⟩++x)++(⟨#[32]⟩++T)++⟨#[59,10]⟩:ByteArray).data.toList++((ds.drop (j+1)).map (deT ke kc)).flatten=fin):=by
     show _=_;rw [<-HZ.o];simp only [Bj];simp [wdT]
    clear HZ;go_wp2_with fail;refine mo (KL.o _ L.o) fun W3 ap=>?_;have a0:=Aa (Ab L.o ap);clear ap KL m0 m1 m2 m3 Z m5 m6 m7 m8 m9 G F C W;go_wp2_with fail;exact ⟨⟨j+1,_,by omega,by go_num,rfl,ac.o,Ab HB.o a0.o⟩,by simp [intOf];omega⟩
   ·rw [if_neg (by decide),if_neg (by decide)] at J
    clear KF N p1 p2;generalize ps.length=nP at dA;generalize Q.length=nB at dA;rcases Bool.eq_false_or_eq_true gv with rfl | rfl
    ·rw [if_pos rfl] at J
     have KL:=Aa (an rfl);have ce:=am rfl;clear an am;generalize lb.length=nL at dA KL;have HZ:=Aa J;clear J;obtain ⟨V,R⟩:=nm (wr.alloc (zg #[O zc 6,O zc a,.string x,.string y,ze true,zd aL nL cL,zd aP nP cP,zd aB nB cB,O zc e0,O zc e1,O zc e2,.string e3,zd q q1 q2] 51));obtain ⟨bq,u⟩:=nm wr.heap.size;have I:=aov R;have v:=C2 R u;have w1:¬ 9223372036854775807 < 4+x.size:=by omega
     have w2:¬ 9223372036854775807 < s.size+(4+x.size):=by omega
     go_wp2_with fail;rw [<-R,<-u];clear R u d0 dA;obtain ⟨m0,m1,m2,m3,Z,m5,m6,m7,m8,m9,G,F,C⟩:=B8 v.o;refine Go.Proofs.YtipngnjffjajpaaGreatDoor.gS (fun Wz=>Below V.heap.size V Wz) (Below.refl _ _).drew fun f=>?_;generalize V.drew=Y at f ⊢;refine kO 0 ?_;refine kO 2 ?_;refine kO 3 ?_;refine kO 6 ?_;refine kO 7 ?_;refine rdA 1 rfl fun K A=>?_;go_simp;obtain ⟨U,S⟩:=nm (Y.alloc (zg #[.string ⟨#[]⟩,.string ⟨#[97,99,116,111,114,32]⟩,.string ⟨#[103,114,97,110,116,32]⟩,.string ⟨#[115,112,101,97,107,32]⟩,.string ⟨#[105,110,32]⟩,.string ⟨#[111,117,116,32]⟩,.string ⟨#[118,97,114,32]⟩,.string ⟨#[102,117,110,99,32]⟩] 9));obtain ⟨g,hg⟩:=nm Y.heap.size;have n:=Aa (Ab f (bA Y (zg #[.string ⟨#[]⟩,.string ⟨#[97,99,116,111,114,32]⟩,.string ⟨#[103,114,97,110,116,32]⟩,.string ⟨#[115,112,101,97,107,32]⟩,.string ⟨#[105,110,32]⟩,.string ⟨#[111,117,116,32]⟩,.string ⟨#[118,97,114,32]⟩,.string ⟨#[102,117,110,99,32]⟩] 9)));have H:U.cell? ⟨g,6,none⟩=some (.string ⟨#[118,97,114,32]⟩):=by rw [S,hg];exact A5 Y [.string ⟨#[]⟩,.string ⟨#[97,99,116,111,114,32]⟩,.string ⟨#[103,114,97,110,116,32]⟩,.string ⟨#[115,112,101,97,107,32]⟩,.string ⟨#[105,110,32]⟩,.string ⟨#[111,117,116,32]⟩,.string ⟨#[118,97,114,32]⟩,.string ⟨#[102,117,110,99,32]⟩] 9 6 _ rfl
     rw [<-S] at n;rw [<-S,<-hg];clear S hg f;refine xK A n.o fun f=>?_;clear A K;refine kO 4 ?_;refine rdA 5 rfl fun K A=>?_;go_simp;refine xK A n.o fun f=>?_;clear A K H;refine kO 8 ?_;refine kO 9 ?_;refine kO 10 ?_;refine gE ?_;have L:=Aa (Ab I.o n.o);have W:=Aa (Ad.over v.o n.o);clear m0 m1 m2 m3 Z m5 m6 m7 m8 m9 G F C I v n f w1 w2;obtain ⟨m0,m1,m2,m3,Z,m5,m6,m7,m8,m9,G,F,C⟩:=B8 W.o;have s2:¬ 9223372036854775807 < 1+T.size:=by omega
     have s3:¬ 9223372036854775807 < s.size+(4+x.size)+(1+T.size):=by omega
     have s4:¬ 9223372036854775807 < s.size+(4+x.size)+(1+T.size)+2:=by omega
     have ac:Hx ((s++(⟨#[118,97,114,32]⟩++x)++(⟨#[32]⟩++T)++⟨#[59,10]⟩:ByteArray).data.toList++((ds.drop (j+1)).map (deT ke kc)).flatten=fin):=by
      show _=_;rw [<-HZ.o];simp only [Bj];simp [wdT]
     clear HZ;go_wp2_with fail;refine mo (KL.o _ L.o) fun W3 ap=>?_;have a0:=Aa (Ab L.o ap);clear ap KL m0 m1 m2 m3 Z m5 m6 m7 m8 m9 G F C W;go_wp2_with fail;exact ⟨⟨j+1,_,by omega,by go_num,rfl,ac.o,Ab HB.o a0.o⟩,by simp [intOf];omega⟩
    ·rw [if_neg (by decide)] at J
     clear an am;generalize lb.length=nL at dA;have HZ:=Aa J;clear J;obtain ⟨V,R⟩:=nm (wr.alloc (zg #[O zc 6,O zc a,.string x,.string y,ze false,zd aL nL cL,zd aP nP cP,zd aB nB cB,O zc e0,O zc e1,O zc e2,.string e3,zd q q1 q2] 51));obtain ⟨bq,u⟩:=nm wr.heap.size;have I:=aov R;have v:=C2 R u;have w1:¬ 9223372036854775807 < 4+x.size:=by omega
     have w2:¬ 9223372036854775807 < s.size+(4+x.size):=by omega
     go_wp2_with fail;rw [<-R,<-u];clear R u d0 dA;obtain ⟨m0,m1,m2,m3,Z,m5,m6,m7,m8,m9,G,F,C⟩:=B8 v.o;refine Go.Proofs.YtipngnjffjajpaaGreatDoor.gS (fun Wz=>Below V.heap.size V Wz) (Below.refl _ _).drew fun f=>?_;generalize V.drew=Y at f ⊢;refine kO 0 ?_;refine kO 2 ?_;refine kO 3 ?_;refine kO 6 ?_;refine kO 7 ?_;refine rdA 1 rfl fun K A=>?_;go_simp;obtain ⟨U,S⟩:=nm (Y.alloc (zg #[.string ⟨#[]⟩,.string ⟨#[97,99,116,111,114,32]⟩,.string ⟨#[103,114,97,110,116,32]⟩,.string ⟨#[115,112,101,97,107,32]⟩,.string ⟨#[105,110,32]⟩,.string ⟨#[111,117,116,32]⟩,.string ⟨#[118,97,114,32]⟩,.string ⟨#[102,117,110,99,32]⟩] 9));obtain ⟨g,hg⟩:=nm Y.heap.size;have n:=Aa (Ab f (bA Y (zg #[.string ⟨#[]⟩,.string ⟨#[97,99,116,111,114,32]⟩,.string ⟨#[103,114,97,110,116,32]⟩,.string ⟨#[115,112,101,97,107,32]⟩,.string ⟨#[105,110,32]⟩,.string ⟨#[111,117,116,32]⟩,.string ⟨#[118,97,114,32]⟩,.string ⟨#[102,117,110,99,32]⟩] 9)));have H:U.cell? ⟨g,6,none⟩=some (.string ⟨#[118,97,114,32]⟩):=by rw [S,hg];exact A5 Y [.string ⟨#[]⟩,.string ⟨#[97,99,116,111,114,32]⟩,.string ⟨#[103,114,97,110,116,32]⟩,.string ⟨#[115,112,101,97,107,32]⟩,.string ⟨#[105,110,32]⟩,.string ⟨#[111,117,116,32]⟩,.string ⟨#[118,97,114,32]⟩,.string ⟨#[102,117,110,99,32]⟩] 9 6 _ rfl
     rw [<-S] at n;rw [<-S,<-hg];clear S hg f;refine xK A n.o fun f=>?_;clear A K;refine kO 4 ?_;refine rdA 5 rfl fun K A=>?_;go_simp;refine xK A n.o fun f=>?_;clear A K H;refine kO 8 ?_;refine kO 9 ?_;refine kO 10 ?_;refine gE ?_;have L:=Aa (Ab I.o n.o);have W:=Aa (Ad.over v.o n.o);clear m0 m1 m2 m3 Z m5 m6 m7 m8 m9 G F C I v n f w1 w2;obtain ⟨m0,m1,m2,m3,Z,m5,m6,m7,m8,m9,G,F,C⟩:=B8 W.o;have s4:¬ 9223372036854775807 < s.size+(4+x.size)+2:=by omega
     have ac:Hx ((s++(⟨#[118,97,114,32]⟩++x)++⟨#[59,10]⟩:ByteArray).data.toList++((ds.drop (j+1)).map (deT ke kc)).flatten=fin):=by
      show _=_;rw [<-HZ.o];simp only [Bj];simp [wdT]
     clear HZ;go_wp2_with fail;exact ⟨⟨j+1,_,by omega,by go_num,rfl,ac.o,Ab HB.o L.o⟩,by simp [intOf];omega⟩
   ·obtain ⟨P,B,E,di,dm,dl,cg,cj,ch,KP,b6,KE⟩:=KF rfl
    have az:gv=false:=by
     cases hgB:gv with
     | false=>rfl
     | true=>have:=N.2 hgB;omega
    subst az;rw [if_pos rfl,cg,cj,ch] at J;clear KF an am N p1 p2 cg cj ch;generalize ps.length=nP at dA KP;generalize Q.length=nB at dA b6;generalize lb.length=nL at dA;have HZ:=Aa J;clear J;obtain ⟨V,R⟩:=nm (wr.alloc (zg #[O zc 7,O zc a,.string x,.string y,ze false,zd aL nL cL,zd aP nP cP,zd aB nB cB,O zc e0,O zc e1,O zc e2,.string e3,zd q q1 q2] 51));obtain ⟨bq,u⟩:=nm wr.heap.size;have I:=aov R;have v:=C2 R u;have w1:¬ 9223372036854775807 < 5+x.size:=by omega
    have w2:¬ 9223372036854775807 < s.size+(5+x.size):=by omega
    go_wp2_with fail;rw [<-R,<-u];clear R u d0 dA;obtain ⟨m0,m1,m2,m3,Z,m5,m6,m7,m8,m9,G,F,C⟩:=B8 v.o;refine Go.Proofs.YtipngnjffjajpaaGreatDoor.gS (fun Wz=>Below V.heap.size V Wz) (Below.refl _ _).drew fun f=>?_;generalize V.drew=Y at f ⊢;refine kO 0 ?_;refine kO 2 ?_;refine kO 3 ?_;refine kO 6 ?_;refine kO 7 ?_;refine rdA 1 rfl fun K A=>?_;go_simp;obtain ⟨U,S⟩:=nm (Y.alloc (zg #[.string ⟨#[]⟩,.string ⟨#[97,99,116,111,114,32]⟩,.string ⟨#[103,114,97,110,116,32]⟩,.string ⟨#[115,112,101,97,107,32]⟩,.string ⟨#[105,110,32]⟩,.string ⟨#[111,117,116,32]⟩,.string ⟨#[118,97,114,32]⟩,.string ⟨#[102,117,110,99,32]⟩] 9));obtain ⟨g,hg⟩:=nm Y.heap.size;have n:=Aa (Ab f (bA Y (zg #[.string ⟨#[]⟩,.string ⟨#[97,99,116,111,114,32]⟩,.string ⟨#[103,114,97,110,116,32]⟩,.string ⟨#[115,112,101,97,107,32]⟩,.string ⟨#[105,110,32]⟩,.string ⟨#[111,117,116,32]⟩,.string ⟨#[118,97,114,32]⟩,.string ⟨#[102,117,110,99,32]⟩] 9)));have H:U.cell? ⟨g,7,none⟩=some (.string ⟨#[102,117,110,99,32]⟩):=by rw [S,hg];exact A5 Y [.string ⟨#[]⟩,.string ⟨#[97,99,116,111,114,32]⟩,.string ⟨#[103,114,97,110,116,32]⟩,.string ⟨#[115,112,101,97,107,32]⟩,.string ⟨#[105,110,32]⟩,.string ⟨#[111,117,116,32]⟩,.string ⟨#[118,97,114,32]⟩,.string ⟨#[102,117,110,99,32]⟩] 9 7 _ rfl
    rw [<-S] at n;rw [<-S,<-hg];clear S hg f;refine xK A n.o fun f=>?_;clear A K;refine kO 4 ?_;refine rdA 5 rfl fun K A=>?_;go_simp;refine xK A n.o fun f=>?_;clear A K H;refine kO 8 ?_;refine kO 9 ?_;refine kO 10 ?_;refine gE ?_;have L:=Aa (Ab I.o n.o);have W:=Aa (Ad.over v.o n.o);clear m0 m1 m2 m3 Z m5 m6 m7 m8 m9 G F C I v n f w1 w2;obtain ⟨m0,m1,m2,m3,Z,m5,m6,m7,m8,m9,G,F,C⟩:=B8 W.o;have s0:¬ 9223372036854775807 < 1+P.size:=by omega
    have s1:¬ 9223372036854775807 < 1+P.size+4:=by omega
    have s2:¬ 9223372036854775807 < 1+P.size+4+B.size:=by omega
    have s3:¬ 9223372036854775807 < 1+P.size+4+B.size+9:=by omega
    have s4:¬ 9223372036854775807 < 1+P.size+4+B.size+9+E.size:=by omega
    have s5:¬ 9223372036854775807 < 1+P.size+4+B.size+9+E.size+4:=by omega
    have s9:¬ 9223372036854775807 < s.size+(5+x.size)+(1+P.size+4+B.size+9+E.size+4):=by omega
    have ac:Hx ((s++(⟨#[102,117,110,99,32]⟩++x)++(⟨#[40]⟩++P++⟨#[41,32,123,10]⟩++B++⟨#[32,32,114,101,116,117,114,110,32]⟩++E++⟨#[59,10,125,10]⟩):ByteArray).data.toList++((ds.drop (j+1)).map (deT ke kc)).flatten=fin):=by
     show _=_;rw [<-HZ.o];simp only [Bj];simp [wdT]
    clear HZ;go_wp2_with fail;refine Go.Proofs.YtipngnjffjajpaaGreatDoor.gS (fun Wz=>Below U.heap.size U Wz) (Below.refl _ _).drew fun f=>?_;generalize U.drew=Y2 at f ⊢;refine kO 0 ?_;refine kO 1 ?_;refine kO 2 ?_;refine kO 6 ?_;refine kO 7 ?_;refine kO 11 ?_;refine kO 12 ?_;refine rdA 3 rfl fun K A=>?_;go_simp;refine mo (KP.o _ (Ab L.o f)) fun Z1 hb=>?_;have c0:=Aa (Ab f hb);clear hb f KP;go_simp;refine xK A c0.o fun f=>?_;clear A K;refine kO 4 ?_;refine kO 5 ?_;refine rdA 8 rfl fun K A=>?_;go_simp;refine mo (b6.o _ (Ab L.o f)) fun Z2 hb=>?_;have cz:=Aa (Ab f hb);clear hb f b6;go_simp;refine xK A cz.o fun f=>?_;clear A K;refine kO 9 ?_;refine kO 10 ?_;refine rdA 13 rfl fun K A=>?_;go_simp;refine mo (KE.o _ (Ab L.o f)) fun Z3 hb=>?_;have cy:=Aa (Ab f hb);clear hb f KE;go_simp;refine xK A cy.o fun f=>?_;clear A K;refine kO 14 ?_;refine kO 15 ?_;refine kO 16 ?_;refine kO 17 ?_;refine gE ?_;have c1:=Aa (Ab HB.o (Ab L.o f));clear f m0 m1 m2 m3 Z m5 m6 m7 m8 m9 G F C;go_wp2_with fail;exact ⟨⟨j+1,_,by omega,by go_num,rfl,ac.o,c1.o⟩,by simp [intOf];omega⟩
  ·have cq:¬ (j:Int) < (nn:Int):=by omega
   have hd:ds.drop j=[]:=List.drop_eq_nil_of_le (by have:=HN.o;omega);rw [hd,List.map_nil,List.flatten_nil,List.append_nil] at J;have dd:s.size<=1000000:=by
    have e:s.data.toList.length=s.size:=rfl;have:=a8.o;rw [J] at e;omega
   have s1:¬ 9223372036854775807 < s.size+7:=by omega
   have s2:¬ 9223372036854775807 < s.size+7+M.size:=by omega
   have s3:¬ 9223372036854775807 < s.size+7+M.size+2:=by omega
   have HV:Hx ((⟨(fin++[109,97,105,110,32,123,10]++M.data.toList++[125,10]).toArray⟩:ByteArray)=s++⟨#[109,97,105,110,32,123,10]⟩++M++⟨#[125,10]⟩):=by
    show _=_;rw [<-J];apply ByteArray.ext;apply Array.toList_inj.1;simp
   have HB:=Aa a4;clear J hd a4;go_wp2_with fail;refine mo (KM.o _ (Ab b7.o HB.o)) fun w3 ap=>?_;have a0:=Aa (Ab b7.o (Ab HB.o ap));clear ap KM;go_wp2_with fail;go_ret;exact ⟨by rw [HV.o];rfl,a0.o⟩
theorem Fj (ao:Option Addr) (cap:Nat) (inb:ByteArray) (w:World):Ro 46 #[zd ao 0 cap,.string inb] w (.string ⟨#[]⟩):=by
 go_enter Tryz.func46,Tryz.ntmps46;go_wp2_with fail;go_loopw [5,6] (fun s i wr=>s=.string ⟨#[]⟩/\i=O zc 0/\wr=w) (fun _ _ _=>0)
 case atStart=>exact ⟨rfl,rfl,rfl⟩
 case round=>
  obtain ⟨rfl,rfl,rfl⟩:=hrel;go_wp2_with fail;go_ret;exact ⟨rfl,Below.refl _ _⟩
theorem P7 {inb:ByteArray} {dn:Nat} (hin:inb.data.toList=inT dn):(inb++⟨#[32,32]⟩).data.toList=inT (dn+1):=by
 rw [Kl,<-hin];simp
theorem Gj (ke:Nat):∀ (k g:Nat) (l:List D) (dn:Nat) (inb:ByteArray) (ao:Option Addr) (nn cap:Nat) (w:World),nn=l.length->LS 12 (ZC w ke k) w (zd ao nn cap) l->(∀ s∈l,sfK ke k s=true/\gdC ke g s)->inb.data.toList=inT dn->dn+g<=10->(AO ke k dn l).length<=1000000->Ro 46 #[zd ao nn cap,.string inb] w (.string ⟨(AO ke k dn l).toArray⟩):=by
 intro k
 induction k with
 | zero=>
  intro g l dn inb ao nn cap w a u i b A r
  cases l with
  | nil=>subst a;exact Fj ao cap inb w
  | cons s l=>have:=(i s (by simp)).1;cases this
 | succ k ih=>
  intro g l dn inb ao nn cap w a u i b A r
  cases g with
  | zero=>
   cases l with
   | nil=>subst a;exact Fj ao cap inb w
   | cons s l=>exact (i s (by simp)).2.elim
  | succ g=>
   refine GU ke k g dn nn l inb ao cap w a u i b (by omega) r ?_;intro y n c X v j f;have x:=P7 b;generalize (inb++⟨#[32,32]⟩:ByteArray)=in2 at x ⊢;generalize hN:y.length=nd at v ⊢;exact ih g y (dn+1) in2 n nd c X hN.symm v j x (by omega) f
theorem Lb (ke kc:Nat) (ds l:List D) (v:Value) (w:World) (hz:ZT w ke kc v ds l) (h0:ckT ke kc ds l=0):Ro 20 #[v] w (.string ⟨(trT ke kc ds l).toArray⟩):=by
 obtain ⟨a,c,y,x,rfl,B,A⟩:=hz;have r:=Hk h0;have b:=NC h0;have g:(AO ke kc 1 l).length<=1000000:=by
  unfold trT at b;simp only [List.length_append] at b;omega
 exact Hy ke kc _ _ ds l a y c x w rfl rfl B r (by omega)
  (fun f E C X n j i=>Gj ke kc 6 f 1 ⟨#[32,32]⟩ E f.length C X rfl n j rfl (by decide) i)
  (fun X n=>Gj ke kc 6 l 1 ⟨#[32,32]⟩ y l.length x X rfl (Ar n A) (fun s u=>⟨r.2.1 s u,r.2.2 s u⟩) rfl (by decide) g)
end Go.Proofs.YtipngnjffjajpaaGreatDoor.Tx
