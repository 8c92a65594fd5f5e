/- The document's answer: a tree's text. -/
import Derived.Test.YtipngnjffjajpaaGreatDoorI32
import Derived.Test.YtipngnjffjajpaaGreatDoorI31
set_option linter.unusedVariables false
set_option maxHeartbeats 8000000
set_option maxRecDepth 100000
namespace Go.Proofs.YtipngnjffjajpaaGreatDoor.Tx
open Go.RowKit
open Go.Value renaming int -> A, slice -> O, bool -> zc, agg -> ze, pointer -> zf, tuple -> zh
open Go.IntKind renaming i64 -> J
open Go.Obj renaming cells -> zd
open Go.Ending renaming returned -> zg
theorem OL (ke kc:Nat) (kd a:Int) (x y:ByteArray) (gv:Bool) (lb:List D) (ps:List ByteArray) (body:List D) (r:D):deT ke kc (deD kd a x y gv lb ps body r)=if kd=7 then wdT 7++x.data.toList++[40]++Ax [44,32] (ps.map (fun y=>y.data.toList))++[41,32,123,10]++AJ ke kc 1 body++[32,32,114,101,116,117,114,110,32]++exT ke r++[59,10,125,10] else wdT kd++x.data.toList++(if kd=2 then [32]++y.data.toList else [])++(if gv=true then [32]++([123]++Ax [59,32] (lb.map poT)++[125]) else [])++[59,10]:=by
 unfold deT laT;simp only [gDd,List.map_map];split
 ·rfl
 ·cases gv <;> simp
theorem Gd (ke kc nn nl:Nat) (ds l:List D) (a_ a2:Option Addr) (cap c2:Nat) (w:World) (hnn:nn=ds.length) (hnl:nl=l.length) (hc:LS 13 (ZD w ke kc) w (O a_ nn cap) ds) (hG:MW ke kc ds l) (hl:(trT ke kc ds l).length<=1000000)
  (KS:Hx (∀ (ds:List D) (ao:Option Addr) (c:Nat) (X:World),LS 12 (ZC X ke kc) X (O ao ds.length c) ds->(∀ s∈ds,sfK ke kc s=true/\gdC ke 6 s)->(AJ ke kc 1 ds).length<=1000000->Ro 46 #[O ao ds.length c,.string ⟨#[32,32]⟩] X (.string ⟨(AJ ke kc 1 ds).toArray⟩)))
  (KM:Hx (∀ X,Ov w X->Ro 46 #[O a2 nl c2,.string ⟨#[32,32]⟩] X (.string ⟨(AJ ke kc 1 l).toArray⟩))) :
  Ro 20 #[ze #[O a_ nn cap,O a2 nl c2]] w (.string ⟨(trT ke kc ds l).toArray⟩):=by
 obtain ⟨az,bu⟩:=nm ((ds.map (deT ke kc)).flatten);obtain ⟨M,hM⟩:=nm (⟨(AJ ke kc 1 l).toArray⟩:ByteArray);have co:trT ke kc ds l=az++[109,97,105,110,32,123,10]++M.data.toList++[125,10]:=by rw [bu,hM];rfl
 rw [co] at hl ⊢;rw [<-hM] at KM;have ee:M.size<=1000000:=by
  have e:M.data.toList.length=M.size:=rfl;simp only [List.length_append] at hl;omega
 have cr:az.length<=1000000:=by simp only [List.length_append] at hl;omega
 have HF:=Aa bu;have HC:=Aa hc;have HG:=Aa hG;have HN:=Aa hnn;have bw:=Aa cr;have df:=hc.max;rw [<-hnn] at df;obtain ⟨V0,b2⟩:=nm (w.alloc (zd #[O a_ nn cap,O a2 nl c2] 25));obtain ⟨bt,cj⟩:=nm w.heap.size;have cm:Hx (Ov w V0):=by show Ov _ _;rw [b2];exact bA _ _
 have de:Hx (Ac [O a_ nn cap,O a2 nl c2] V0 bt):=by show Ac _ _ _;rw [b2,cj];exact Ai w [O a_ nn cap,O a2 nl c2] 25
 clear bu hM co hc hG hnn hnl hl cr;go_enter Tryz.func20,Tryz.ntmps20;go_wp2_with fail;rw [<-b2,<-cj];clear b2 cj;go_loopw [3,4] (fun s i wr=>∃ (j:Nat) (x:ByteArray),j<=nn/\i=A J j/\s=.string x/\x.data.toList++((ds.drop j).map (deT ke kc)).flatten=az/\Ov V0 wr) (fun _ i _=>nn - (intOf i).toNat)
 case atStart=>exact ⟨0,⟨#[]⟩,Nat.zero_le _,rfl,rfl,by rw [HF.o];rfl,Below.refl _ _⟩
 case round=>
  obtain ⟨j,s,hj,rfl,rfl,L,br⟩:=hrel;obtain ⟨t0,t1⟩:=rc2 (de.o.over br);by_cases hjl:j < nn
  ·have bp:j < ds.length:=by have:=HN.o;omega
   have c8:(j:Int) < (nn:Int):=by omega
   have hB:Ov w wr:=Ab cm.o br;obtain ⟨b,c6,rfl,cs,c7,ag,hr⟩:=HC.o.at bp;obtain ⟨ci,cf,b0⟩:=HG.o.1 _ (List.getElem_mem bp);rw [List.drop_eq_getElem_cons bp,List.map_cons,List.flatten_cons] at L;generalize ds[j]=dj at hr L ci cf b0;obtain ⟨kd,a,x,y,gv,aL,cL,lb,aP,cP,ps,aB,cB,R,e0,e1,e2,e3,q,q1,q2,r,rfl,rfl,-,-,hL,hP,cy,hR⟩:=hr;obtain ⟨p1,p2,p3,p4,p5,p6⟩:=D7 ci;simp only [Cn,Bool.or_eq_false_iff,decide_eq_false_iff_not] at cf;obtain ⟨⟨⟨m1,m2⟩,m3⟩,m4⟩:=cf;simp only [gDd,List.length_map] at m1 m2 m3 m4 p1 p2 p3 p4 b0;have hx:x.size<=12:=Ck p3;have hy:y.size<=12:=Dm p4;have dz:s.size<=1000000:=by
    have:=congrArg List.length L;simp only [List.length_append] at this;have e:s.data.toList.length=s.size:=rfl;have:=bw.o;omega
   have b1:(deT ke kc (deD kd a x y gv lb ps R r)).length<=1000000:=by
    have:=congrArg List.length L;simp only [List.length_append] at this;have:=bw.o;omega
   rw [OL] at L b1;have d0:wr.cell? ⟨b,c6+j*13,none⟩=_:=ce1 hB (ag 0 _ rfl);have d1:=ce1 hB (ag 1 _ rfl);have d2:=ce1 hB (ag 2 _ rfl);have d3:=ce1 hB (ag 3 _ rfl);have d4:=ce1 hB (ag 4 _ rfl);have d5:=ce1 hB (ag 5 _ rfl);have d6:=ce1 hB (ag 6 _ rfl);have d7:=ce1 hB (ag 7 _ rfl);have d8:=ce1 hB (ag 8 _ rfl);have d9:=ce1 hB (ag 9 _ rfl);have be:=ce1 hB (ag 10 _ rfl);have bd:=ce1 hB (ag 11 _ rfl);have bc:=ce1 hB (ag 12 _ rfl);have a5:gv=true->∀ X,Ov wr X->Ro 48 #[O aL lb.length cL] X (.string ⟨([123]++Ax [59,32] (lb.map poT)++[125]).toArray⟩):=fun cg X hX=>by
    have hp:=((Cf p5).1 cg).2;simp only [gDd] at hp;refine Iv lb aL lb.length cL X rfl (CF hX (CF hB hL)) (by omega) fun p bs=>⟨hp p bs,?_⟩;have:=List.any_eq_false.1 m4 p bs;simp only [decide_eq_true_eq] at this;omega
   have ay:gv=true->(⟨([123]++Ax [59,32] (lb.map poT)++[125]).toArray⟩:ByteArray).size<=1000:=fun cg=>by
    have hp:=((Cf p5).1 cg).2;simp only [gDd] at hp;have l2:=BO [59,32] 100 (lb.map poT) fun z L=>by
     obtain ⟨p,bs,rfl⟩:=List.mem_map.1 L;refine DZ (hp p bs) ?_;have:=List.any_eq_false.1 m4 p bs;simp only [decide_eq_true_eq] at this;omega
    rw [List.length_map] at l2;have hm:lb.length*(100+2)<=4*(100+2):=Nat.mul_le_mul_right _ (by omega);rw [AW];simp only [List.length_append,List.length_cons,List.length_nil] at l2 ⊢;omega
   obtain ⟨T,hT⟩:=nm (⟨([123]++Ax [59,32] (lb.map poT)++[125]).toArray⟩:ByteArray);have cv:[123]++Ax [59,32] (lb.map poT)++[125]=T.data.toList:=by rw [hT]
   rw [cv] at L;rw [<-hT] at a5 ay;have Q:(kd=4\/kd=5->gv=true)/\(gv=true->kd=4\/kd=5\/kd=6):=by
    refine ⟨fun h=>?_,fun h=>((Cf p5).1 h).1⟩
    cases hgB:gv with
    | true=>rfl
    | false=>exact absurd h ((Cf p5).2 hgB).2
   have KF:kd=7->∃ P B E:ByteArray,P.size<=1000/\B.size<=1000000/\E.size<=1000/\Ax [44,32] (ps.map (fun y=>y.data.toList))=P.data.toList/\AJ ke kc 1 R=B.data.toList/\exT ke r=E.data.toList/\Hx (∀ X,Ov wr X->Ro 45 #[O aP ps.length cP] X (.string P))/\Hx (∀ X,Ov wr X->Ro 46 #[O aB R.length cB,.string ⟨#[32,32]⟩] X (.string B))/\Hx (∀ X,Ov wr X->Ro 47 #[ze #[A J e0,A J e1,A J e2,.string e3,O q q1 q2]] X (.string E)):=fun h7=>by
    subst h7;simp only [CK,gDd,if_true,Bool.and_eq_true,List.all_eq_true] at p6;obtain ⟨⟨f1,f2⟩,f3⟩:=p6;have cq:∀ z∈ps,z.size<=12:=fun z L=>by
     have:=Ck (f1 (dS z) (List.mem_map_of_mem L))
     rwa [Fc] at this
    have ea:(Ax [44,32] (ps.map (fun y=>y.data.toList))).length<=100:=by
     have:=BO [44,32] 12 (ps.map (fun y=>y.data.toList)) fun z L=>by
      obtain ⟨c,hc,rfl⟩:=List.mem_map.1 L;exact cq c hc
     rw [List.length_map] at this;have eb:ps.length*(12+2)<=4*(12+2):=Nat.mul_le_mul_right _ (by omega);simp only [List.length_cons,List.length_nil] at this;omega
    have ct:(AJ ke kc 1 R).length<=1000000:=by
     rw [if_pos rfl] at b1;simp only [List.length_append] at b1;omega
    have c9:=AV f3 m3;exact ⟨⟨(Ax [44,32] (ps.map (fun y=>y.data.toList))).toArray⟩,⟨(AJ ke kc 1 R).toArray⟩,⟨(exT ke r).toArray⟩,by rw [AW];omega,by rw [AW];exact ct,by rw [AW];omega,rfl,rfl,rfl,
     fun X hX=>F4 ps aP ps.length cP X rfl (BB hX (BB hB hP)) (fun z L=>Nat.le_trans (cq z L) (by decide)) (by omega),
     fun X hX=>KS.o R aB cB X (Ao hX (Ao hB cy)) b0 ct,
     fun X hX=>CY ke _ r X ((hR.over hB).over hX) f3 (Nat.le_trans c9 (by decide))⟩
   have HB:=Aa br;clear ag c7 hB br bp hj hL hP cy hR m1 m2 m3 m4 p3 p4 p5 p6 b0 ci hT cv b1;obtain rfl | rfl | rfl | rfl | rfl | rfl | rfl:kd=1\/kd=2\/kd=3\/kd=4\/kd=5\/kd=6\/kd=7:=by omega
   ·have bj:gv=false:=by
     cases hgB:gv with
     | false=>rfl
     | true=>have:=Q.2 hgB;omega
    subst bj;rw [if_neg (by decide),if_neg (by decide),if_neg (by decide)] at L;clear KF a5 ay Q p1 p2;generalize ps.length=nP at d6;generalize R.length=nB at d7;generalize lb.length=nL at d5;have HZ:=Aa L;clear L;obtain ⟨V,S⟩:=nm (wr.alloc (zd #[A J 1,A J a,.string x,.string y,zc false,O aL nL cL,O aP nP cP,O aB nB cB,A J e0,A J e1,A J e2,.string e3,O q q1 q2] 51));obtain ⟨bq,t⟩:=nm wr.heap.size;have I:Hx (Ov wr V):=by show Ov _ _;rw [S];exact bA _ _
    have u:Hx (Ac [A J 1,A J a,.string x,.string y,zc false,O aL nL cL,O aP nP cP,O aB nB cB,A J e0,A J e1,A J e2,.string e3,O q q1 q2] V bq):=by show Ac _ _ _;rw [S,t];exact Ai wr [A J 1,A J a,.string x,.string y,zc false,O aL nL cL,O aP nP cP,O aB nB cB,A J e0,A J e1,A J e2,.string e3,O q q1 q2] 51
    have w1:¬ 9223372036854775807 < 6+x.size:=by omega
    have w2:¬ 9223372036854775807 < s.size+(6+x.size):=by omega
    go_wp2_with fail;rw [<-S,<-t];clear S t d0 d1 d2 d3 d4 d5 d6 d7 d8 d9 be bd bc;obtain ⟨m0,m1,m2,m3,m4,m5,m6,m7,m8,m9,G,F,C⟩:=Ah u.o;refine Go.Proofs.YtipngnjffjajpaaGreatDoor.gS (fun Wz=>Below V.heap.size V Wz) (Below.refl _ _).drew fun f=>?_;generalize V.drew=Y at f ⊢;refine kO 0 ?_;refine kO 2 ?_;refine kO 3 ?_;refine kO 6 ?_;refine kO 7 ?_;refine rdA 1 rfl fun K v=>?_;go_simp;obtain ⟨U,W⟩:=nm (Y.alloc (zd #[.string ⟨#[]⟩,.string ⟨#[97,99,116,111,114,32]⟩,.string ⟨#[103,114,97,110,116,32]⟩,.string ⟨#[115,112,101,97,107,32]⟩,.string ⟨#[105,110,32]⟩,.string ⟨#[111,117,116,32]⟩,.string ⟨#[118,97,114,32]⟩,.string ⟨#[102,117,110,99,32]⟩] 9));obtain ⟨g,hg⟩:=nm Y.heap.size;have n:=Aa (Ab f (bA Y (zd #[.string ⟨#[]⟩,.string ⟨#[97,99,116,111,114,32]⟩,.string ⟨#[103,114,97,110,116,32]⟩,.string ⟨#[115,112,101,97,107,32]⟩,.string ⟨#[105,110,32]⟩,.string ⟨#[111,117,116,32]⟩,.string ⟨#[118,97,114,32]⟩,.string ⟨#[102,117,110,99,32]⟩] 9)));have H:U.cell? ⟨g,1,none⟩=some (.string ⟨#[97,99,116,111,114,32]⟩):=by rw [W,hg];exact Ai Y [.string ⟨#[]⟩,.string ⟨#[97,99,116,111,114,32]⟩,.string ⟨#[103,114,97,110,116,32]⟩,.string ⟨#[115,112,101,97,107,32]⟩,.string ⟨#[105,110,32]⟩,.string ⟨#[111,117,116,32]⟩,.string ⟨#[118,97,114,32]⟩,.string ⟨#[102,117,110,99,32]⟩] 9 1 _ rfl
    rw [<-W] at n;rw [<-W,<-hg];clear W hg f;refine xK v n.o fun f=>?_;clear v K;refine kO 4 ?_;refine rdA 5 rfl fun K v=>?_;go_simp;refine xK v n.o fun f=>?_;clear v K H;refine kO 8 ?_;refine kO 9 ?_;refine kO 10 ?_;refine gE ?_;have N:=Aa (Ab I.o n.o);have Z:=Aa (Ac.over u.o n.o);clear m0 m1 m2 m3 m4 m5 m6 m7 m8 m9 G F C I u n f w1 w2;obtain ⟨m0,m1,m2,m3,m4,m5,m6,m7,m8,m9,G,F,C⟩:=Ah Z.o;have s4:¬ 9223372036854775807 < s.size+(6+x.size)+2:=by omega
    have ad:Hx ((s++(⟨#[97,99,116,111,114,32]⟩++x)++⟨#[59,10]⟩:ByteArray).data.toList++((ds.drop (j+1)).map (deT ke kc)).flatten=az):=by
     show _=_;rw [<-HZ.o];simp only [A4];simp [wdT]
    clear HZ;go_wp2_with fail;exact ⟨⟨j+1,_,by omega,by go_num,rfl,ad.o,Ab HB.o N.o⟩,by simp [intOf];omega⟩
   ·have bj:gv=false:=by
     cases hgB:gv with
     | false=>rfl
     | true=>have:=Q.2 hgB;omega
    subst bj;rw [if_neg (by decide),if_pos rfl,if_neg (by decide)] at L;clear KF a5 ay Q p1 p2;generalize ps.length=nP at d6;generalize R.length=nB at d7;generalize lb.length=nL at d5;have HZ:=Aa L;clear L;obtain ⟨V,S⟩:=nm (wr.alloc (zd #[A J 2,A J a,.string x,.string y,zc false,O aL nL cL,O aP nP cP,O aB nB cB,A J e0,A J e1,A J e2,.string e3,O q q1 q2] 51));obtain ⟨bq,t⟩:=nm wr.heap.size;have I:Hx (Ov wr V):=by show Ov _ _;rw [S];exact bA _ _
    have u:Hx (Ac [A J 2,A J a,.string x,.string y,zc false,O aL nL cL,O aP nP cP,O aB nB cB,A J e0,A J e1,A J e2,.string e3,O q q1 q2] V bq):=by show Ac _ _ _;rw [S,t];exact Ai wr [A J 2,A J a,.string x,.string y,zc false,O aL nL cL,O aP nP cP,O aB nB cB,A J e0,A J e1,A J e2,.string e3,O q q1 q2] 51
    have w1:¬ 9223372036854775807 < 6+x.size:=by omega
    have w2:¬ 9223372036854775807 < s.size+(6+x.size):=by omega
    go_wp2_with fail;rw [<-S,<-t];clear S t d0 d1 d2 d3 d4 d5 d6 d7 d8 d9 be bd bc;obtain ⟨m0,m1,m2,m3,m4,m5,m6,m7,m8,m9,G,F,C⟩:=Ah u.o;refine Go.Proofs.YtipngnjffjajpaaGreatDoor.gS (fun Wz=>Below V.heap.size V Wz) (Below.refl _ _).drew fun f=>?_;generalize V.drew=Y at f ⊢;refine kO 0 ?_;refine kO 2 ?_;refine kO 3 ?_;refine kO 6 ?_;refine kO 7 ?_;refine rdA 1 rfl fun K v=>?_;go_simp;obtain ⟨U,W⟩:=nm (Y.alloc (zd #[.string ⟨#[]⟩,.string ⟨#[97,99,116,111,114,32]⟩,.string ⟨#[103,114,97,110,116,32]⟩,.string ⟨#[115,112,101,97,107,32]⟩,.string ⟨#[105,110,32]⟩,.string ⟨#[111,117,116,32]⟩,.string ⟨#[118,97,114,32]⟩,.string ⟨#[102,117,110,99,32]⟩] 9));obtain ⟨g,hg⟩:=nm Y.heap.size;have n:=Aa (Ab f (bA Y (zd #[.string ⟨#[]⟩,.string ⟨#[97,99,116,111,114,32]⟩,.string ⟨#[103,114,97,110,116,32]⟩,.string ⟨#[115,112,101,97,107,32]⟩,.string ⟨#[105,110,32]⟩,.string ⟨#[111,117,116,32]⟩,.string ⟨#[118,97,114,32]⟩,.string ⟨#[102,117,110,99,32]⟩] 9)));have H:U.cell? ⟨g,2,none⟩=some (.string ⟨#[103,114,97,110,116,32]⟩):=by rw [W,hg];exact Ai Y [.string ⟨#[]⟩,.string ⟨#[97,99,116,111,114,32]⟩,.string ⟨#[103,114,97,110,116,32]⟩,.string ⟨#[115,112,101,97,107,32]⟩,.string ⟨#[105,110,32]⟩,.string ⟨#[111,117,116,32]⟩,.string ⟨#[118,97,114,32]⟩,.string ⟨#[102,117,110,99,32]⟩] 9 2 _ rfl
    rw [<-W] at n;rw [<-W,<-hg];clear W hg f;refine xK v n.o fun f=>?_;clear v K;refine kO 4 ?_;refine rdA 5 rfl fun K v=>?_;go_simp;refine xK v n.o fun f=>?_;clear v K H;refine kO 8 ?_;refine kO 9 ?_;refine kO 10 ?_;refine gE ?_;have N:=Aa (Ab I.o n.o);have Z:=Aa (Ac.over u.o n.o);clear m0 m1 m2 m3 m4 m5 m6 m7 m8 m9 G F C I u n f w1 w2;obtain ⟨m0,m1,m2,m3,m4,m5,m6,m7,m8,m9,G,F,C⟩:=Ah Z.o;have s0:¬ 9223372036854775807 < 1+y.size:=by omega
    have s1:¬ 9223372036854775807 < s.size+(6+x.size)+(1+y.size):=by omega
    have s4:¬ 9223372036854775807 < s.size+(6+x.size)+(1+y.size)+2:=by omega
    have ad:Hx ((s++(⟨#[103,114,97,110,116,32]⟩++x)++(⟨#[32]⟩++y)++⟨#[59,10]⟩:ByteArray).data.toList++((ds.drop (j+1)).map (deT ke kc)).flatten=az):=by
     show _=_;rw [<-HZ.o];simp only [A4];simp [wdT]
    clear HZ;go_wp2_with fail;exact ⟨⟨j+1,_,by omega,by go_num,rfl,ad.o,Ab HB.o N.o⟩,by simp [intOf];omega⟩
   ·have bj:gv=false:=by
     cases hgB:gv with
     | false=>rfl
     | true=>have:=Q.2 hgB;omega
    subst bj;rw [if_neg (by decide),if_neg (by decide),if_neg (by decide)] at L;clear KF a5 ay Q p1 p2;generalize ps.length=nP at d6;generalize R.length=nB at d7;generalize lb.length=nL at d5;have HZ:=Aa L;clear L;obtain ⟨V,S⟩:=nm (wr.alloc (zd #[A J 3,A J a,.string x,.string y,zc false,O aL nL cL,O aP nP cP,O aB nB cB,A J e0,A J e1,A J e2,.string e3,O q q1 q2] 51));obtain ⟨bq,t⟩:=nm wr.heap.size;have I:Hx (Ov wr V):=by show Ov _ _;rw [S];exact bA _ _
    have u:Hx (Ac [A J 3,A J a,.string x,.string y,zc false,O aL nL cL,O aP nP cP,O aB nB cB,A J e0,A J e1,A J e2,.string e3,O q q1 q2] V bq):=by show Ac _ _ _;rw [S,t];exact Ai wr [A J 3,A J a,.string x,.string y,zc false,O aL nL cL,O aP nP cP,O aB nB cB,A J e0,A J e1,A J e2,.string e3,O q q1 q2] 51
    have w1:¬ 9223372036854775807 < 6+x.size:=by omega
    have w2:¬ 9223372036854775807 < s.size+(6+x.size):=by omega
    go_wp2_with fail;rw [<-S,<-t];clear S t d0 d1 d2 d3 d4 d5 d6 d7 d8 d9 be bd bc;obtain ⟨m0,m1,m2,m3,m4,m5,m6,m7,m8,m9,G,F,C⟩:=Ah u.o;refine Go.Proofs.YtipngnjffjajpaaGreatDoor.gS (fun Wz=>Below V.heap.size V Wz) (Below.refl _ _).drew fun f=>?_;generalize V.drew=Y at f ⊢;refine kO 0 ?_;refine kO 2 ?_;refine kO 3 ?_;refine kO 6 ?_;refine kO 7 ?_;refine rdA 1 rfl fun K v=>?_;go_simp;obtain ⟨U,W⟩:=nm (Y.alloc (zd #[.string ⟨#[]⟩,.string ⟨#[97,99,116,111,114,32]⟩,.string ⟨#[103,114,97,110,116,32]⟩,.string ⟨#[115,112,101,97,107,32]⟩,.string ⟨#[105,110,32]⟩,.string ⟨#[111,117,116,32]⟩,.string ⟨#[118,97,114,32]⟩,.string ⟨#[102,117,110,99,32]⟩] 9));obtain ⟨g,hg⟩:=nm Y.heap.size;have n:=Aa (Ab f (bA Y (zd #[.string ⟨#[]⟩,.string ⟨#[97,99,116,111,114,32]⟩,.string ⟨#[103,114,97,110,116,32]⟩,.string ⟨#[115,112,101,97,107,32]⟩,.string ⟨#[105,110,32]⟩,.string ⟨#[111,117,116,32]⟩,.string ⟨#[118,97,114,32]⟩,.string ⟨#[102,117,110,99,32]⟩] 9)));have H:U.cell? ⟨g,3,none⟩=some (.string ⟨#[115,112,101,97,107,32]⟩):=by rw [W,hg];exact Ai Y [.string ⟨#[]⟩,.string ⟨#[97,99,116,111,114,32]⟩,.string ⟨#[103,114,97,110,116,32]⟩,.string ⟨#[115,112,101,97,107,32]⟩,.string ⟨#[105,110,32]⟩,.string ⟨#[111,117,116,32]⟩,.string ⟨#[118,97,114,32]⟩,.string ⟨#[102,117,110,99,32]⟩] 9 3 _ rfl
    rw [<-W] at n;rw [<-W,<-hg];clear W hg f;refine xK v n.o fun f=>?_;clear v K;refine kO 4 ?_;refine rdA 5 rfl fun K v=>?_;go_simp;refine xK v n.o fun f=>?_;clear v K H;refine kO 8 ?_;refine kO 9 ?_;refine kO 10 ?_;refine gE ?_;have N:=Aa (Ab I.o n.o);have Z:=Aa (Ac.over u.o n.o);clear m0 m1 m2 m3 m4 m5 m6 m7 m8 m9 G F C I u n f w1 w2;obtain ⟨m0,m1,m2,m3,m4,m5,m6,m7,m8,m9,G,F,C⟩:=Ah Z.o;have s4:¬ 9223372036854775807 < s.size+(6+x.size)+2:=by omega
    have ad:Hx ((s++(⟨#[115,112,101,97,107,32]⟩++x)++⟨#[59,10]⟩:ByteArray).data.toList++((ds.drop (j+1)).map (deT ke kc)).flatten=az):=by
     show _=_;rw [<-HZ.o];simp only [A4];simp [wdT]
    clear HZ;go_wp2_with fail;exact ⟨⟨j+1,_,by omega,by go_num,rfl,ad.o,Ab HB.o N.o⟩,by simp [intOf];omega⟩
   ·have ch:gv=true:=Q.1 (by decide)
    subst ch;rw [if_neg (by decide),if_neg (by decide),if_pos rfl] at L;have KL:=Aa (a5 rfl);have cu:=ay rfl;clear KF a5 ay Q p1 p2;generalize ps.length=nP at d6;generalize R.length=nB at d7;generalize lb.length=nL at d5 KL;have HZ:=Aa L;clear L;obtain ⟨V,S⟩:=nm (wr.alloc (zd #[A J 4,A J a,.string x,.string y,zc true,O aL nL cL,O aP nP cP,O aB nB cB,A J e0,A J e1,A J e2,.string e3,O q q1 q2] 51));obtain ⟨bq,t⟩:=nm wr.heap.size;have I:Hx (Ov wr V):=by show Ov _ _;rw [S];exact bA _ _
    have u:Hx (Ac [A J 4,A J a,.string x,.string y,zc true,O aL nL cL,O aP nP cP,O aB nB cB,A J e0,A J e1,A J e2,.string e3,O q q1 q2] V bq):=by show Ac _ _ _;rw [S,t];exact Ai wr [A J 4,A J a,.string x,.string y,zc true,O aL nL cL,O aP nP cP,O aB nB cB,A J e0,A J e1,A J e2,.string e3,O q q1 q2] 51
    have w1:¬ 9223372036854775807 < 3+x.size:=by omega
    have w2:¬ 9223372036854775807 < s.size+(3+x.size):=by omega
    go_wp2_with fail;rw [<-S,<-t];clear S t d0 d1 d2 d3 d4 d5 d6 d7 d8 d9 be bd bc;obtain ⟨m0,m1,m2,m3,m4,m5,m6,m7,m8,m9,G,F,C⟩:=Ah u.o;refine Go.Proofs.YtipngnjffjajpaaGreatDoor.gS (fun Wz=>Below V.heap.size V Wz) (Below.refl _ _).drew fun f=>?_;generalize V.drew=Y at f ⊢;refine kO 0 ?_;refine kO 2 ?_;refine kO 3 ?_;refine kO 6 ?_;refine kO 7 ?_;refine rdA 1 rfl fun K v=>?_;go_simp;obtain ⟨U,W⟩:=nm (Y.alloc (zd #[.string ⟨#[]⟩,.string ⟨#[97,99,116,111,114,32]⟩,.string ⟨#[103,114,97,110,116,32]⟩,.string ⟨#[115,112,101,97,107,32]⟩,.string ⟨#[105,110,32]⟩,.string ⟨#[111,117,116,32]⟩,.string ⟨#[118,97,114,32]⟩,.string ⟨#[102,117,110,99,32]⟩] 9));obtain ⟨g,hg⟩:=nm Y.heap.size;have n:=Aa (Ab f (bA Y (zd #[.string ⟨#[]⟩,.string ⟨#[97,99,116,111,114,32]⟩,.string ⟨#[103,114,97,110,116,32]⟩,.string ⟨#[115,112,101,97,107,32]⟩,.string ⟨#[105,110,32]⟩,.string ⟨#[111,117,116,32]⟩,.string ⟨#[118,97,114,32]⟩,.string ⟨#[102,117,110,99,32]⟩] 9)));have H:U.cell? ⟨g,4,none⟩=some (.string ⟨#[105,110,32]⟩):=by rw [W,hg];exact Ai Y [.string ⟨#[]⟩,.string ⟨#[97,99,116,111,114,32]⟩,.string ⟨#[103,114,97,110,116,32]⟩,.string ⟨#[115,112,101,97,107,32]⟩,.string ⟨#[105,110,32]⟩,.string ⟨#[111,117,116,32]⟩,.string ⟨#[118,97,114,32]⟩,.string ⟨#[102,117,110,99,32]⟩] 9 4 _ rfl
    rw [<-W] at n;rw [<-W,<-hg];clear W hg f;refine xK v n.o fun f=>?_;clear v K;refine kO 4 ?_;refine rdA 5 rfl fun K v=>?_;go_simp;refine xK v n.o fun f=>?_;clear v K H;refine kO 8 ?_;refine kO 9 ?_;refine kO 10 ?_;refine gE ?_;have N:=Aa (Ab I.o n.o);have Z:=Aa (Ac.over u.o n.o);clear m0 m1 m2 m3 m4 m5 m6 m7 m8 m9 G F C I u n f w1 w2;obtain ⟨m0,m1,m2,m3,m4,m5,m6,m7,m8,m9,G,F,C⟩:=Ah Z.o;have s2:¬ 9223372036854775807 < 1+T.size:=by omega
    have s3:¬ 9223372036854775807 < s.size+(3+x.size)+(1+T.size):=by omega
    have s4:¬ 9223372036854775807 < s.size+(3+x.size)+(1+T.size)+2:=by omega
    have ad:Hx ((s++(⟨#[105,110,32]⟩++x)++(⟨#[32]⟩++T)++⟨#[59,10]⟩:ByteArray).data.toList++((ds.drop (j+1)).map (deT ke kc)).flatten=az):=by
     show _=_;rw [<-HZ.o];simp only [A4];simp [wdT]
    clear HZ;go_wp2_with fail;refine (KL.o _ N.o).mono ?_;rintro e W3 ⟨rfl,a6⟩;have bn:=Aa (Ab N.o a6);clear a6 KL m0 m1 m2 m3 m4 m5 m6 m7 m8 m9 G F C Z;go_wp2_with fail;exact ⟨⟨j+1,_,by omega,by go_num,rfl,ad.o,Ab HB.o bn.o⟩,by simp [intOf];omega⟩
   ·have ch:gv=true:=Q.1 (by decide)
    subst ch;rw [if_neg (by decide),if_neg (by decide),if_pos rfl] at L;have KL:=Aa (a5 rfl);have cu:=ay rfl;clear KF a5 ay Q p1 p2;generalize ps.length=nP at d6;generalize R.length=nB at d7;generalize lb.length=nL at d5 KL;have HZ:=Aa L;clear L;obtain ⟨V,S⟩:=nm (wr.alloc (zd #[A J 5,A J a,.string x,.string y,zc true,O aL nL cL,O aP nP cP,O aB nB cB,A J e0,A J e1,A J e2,.string e3,O q q1 q2] 51));obtain ⟨bq,t⟩:=nm wr.heap.size;have I:Hx (Ov wr V):=by show Ov _ _;rw [S];exact bA _ _
    have u:Hx (Ac [A J 5,A J a,.string x,.string y,zc true,O aL nL cL,O aP nP cP,O aB nB cB,A J e0,A J e1,A J e2,.string e3,O q q1 q2] V bq):=by show Ac _ _ _;rw [S,t];exact Ai wr [A J 5,A J a,.string x,.string y,zc true,O aL nL cL,O aP nP cP,O aB nB cB,A J e0,A J e1,A J e2,.string e3,O q q1 q2] 51
    have w1:¬ 9223372036854775807 < 4+x.size:=by omega
    have w2:¬ 9223372036854775807 < s.size+(4+x.size):=by omega
    go_wp2_with fail;rw [<-S,<-t];clear S t d0 d1 d2 d3 d4 d5 d6 d7 d8 d9 be bd bc;obtain ⟨m0,m1,m2,m3,m4,m5,m6,m7,m8,m9,G,F,C⟩:=Ah u.o;refine Go.Proofs.YtipngnjffjajpaaGreatDoor.gS (fun Wz=>Below V.heap.size V Wz) (Below.refl _ _).drew fun f=>?_;generalize V.drew=Y at f ⊢;refine kO 0 ?_;refine kO 2 ?_;refine kO 3 ?_;refine kO 6 ?_;refine kO 7 ?_;refine rdA 1 rfl fun K v=>?_;go_simp;obtain ⟨U,W⟩:=nm (Y.alloc (zd #[.string ⟨#[]⟩,.string ⟨#[97,99,116,111,114,32]⟩,.string ⟨#[103,114,97,110,116,32]⟩,.string ⟨#[115,112,101,97,107,32]⟩,.string ⟨#[105,110,32]⟩,.string ⟨#[111,117,116,32]⟩,.string ⟨#[118,97,114,32]⟩,.string ⟨#[102,117,110,99,32]⟩] 9));obtain ⟨g,hg⟩:=nm Y.heap.size;have n:=Aa (Ab f (bA Y (zd #[.string ⟨#[]⟩,.string ⟨#[97,99,116,111,114,32]⟩,.string ⟨#[103,114,97,110,116,32]⟩,.string ⟨#[115,112,101,97,107,32]⟩,.string ⟨#[105,110,32]⟩,.string ⟨#[111,117,116,32]⟩,.string ⟨#[118,97,114,32]⟩,.string ⟨#[102,117,110,99,32]⟩] 9)));have H:U.cell? ⟨g,5,none⟩=some (.string ⟨#[111,117,116,32]⟩):=by rw [W,hg];exact Ai Y [.string ⟨#[]⟩,.string ⟨#[97,99,116,111,114,32]⟩,.string ⟨#[103,114,97,110,116,32]⟩,.string ⟨#[115,112,101,97,107,32]⟩,.string ⟨#[105,110,32]⟩,.string ⟨#[111,117,116,32]⟩,.string ⟨#[118,97,114,32]⟩,.string ⟨#[102,117,110,99,32]⟩] 9 5 _ rfl
    rw [<-W] at n;rw [<-W,<-hg];clear W hg f;refine xK v n.o fun f=>?_;clear v K;refine kO 4 ?_;refine rdA 5 rfl fun K v=>?_;go_simp;refine xK v n.o fun f=>?_;clear v K H;refine kO 8 ?_;refine kO 9 ?_;refine kO 10 ?_;refine gE ?_;have N:=Aa (Ab I.o n.o);have Z:=Aa (Ac.over u.o n.o);clear m0 m1 m2 m3 m4 m5 m6 m7 m8 m9 G F C I u n f w1 w2;obtain ⟨m0,m1,m2,m3,m4,m5,m6,m7,m8,m9,G,F,C⟩:=Ah Z.o;have s2:¬ 9223372036854775807 < 1+T.size:=by omega
    have s3:¬ 9223372036854775807 < s.size+(4+x.size)+(1+T.size):=by omega
    have s4:¬ 9223372036854775807 < s.size+(4+x.size)+(1+T.size)+2:=by omega
    have ad:Hx ((s++(⟨#[111,117,116,32]⟩++x)++(⟨#[32]⟩++T)++⟨#[59,10]⟩:ByteArray).data.toList++((ds.drop (j+1)).map (deT ke kc)).flatten=az):=by
     show _=_;rw [<-HZ.o];simp only [A4];simp [wdT]
    clear HZ;go_wp2_with fail;refine (KL.o _ N.o).mono ?_;rintro e W3 ⟨rfl,a6⟩;have bn:=Aa (Ab N.o a6);clear a6 KL m0 m1 m2 m3 m4 m5 m6 m7 m8 m9 G F C Z;go_wp2_with fail;exact ⟨⟨j+1,_,by omega,by go_num,rfl,ad.o,Ab HB.o bn.o⟩,by simp [intOf];omega⟩
   ·rw [if_neg (by decide),if_neg (by decide)] at L
    clear KF Q p1 p2;generalize ps.length=nP at d6;generalize R.length=nB at d7;rcases Bool.eq_false_or_eq_true gv with rfl | rfl
    ·rw [if_pos rfl] at L
     have KL:=Aa (a5 rfl);have cu:=ay rfl;clear a5 ay;generalize lb.length=nL at d5 KL;have HZ:=Aa L;clear L;obtain ⟨V,S⟩:=nm (wr.alloc (zd #[A J 6,A J a,.string x,.string y,zc true,O aL nL cL,O aP nP cP,O aB nB cB,A J e0,A J e1,A J e2,.string e3,O q q1 q2] 51));obtain ⟨bq,t⟩:=nm wr.heap.size;have I:Hx (Ov wr V):=by show Ov _ _;rw [S];exact bA _ _
     have u:Hx (Ac [A J 6,A J a,.string x,.string y,zc true,O aL nL cL,O aP nP cP,O aB nB cB,A J e0,A J e1,A J e2,.string e3,O q q1 q2] V bq):=by show Ac _ _ _;rw [S,t];exact Ai wr [A J 6,A J a,.string x,.string y,zc true,O aL nL cL,O aP nP cP,O aB nB cB,A J e0,A J e1,A J e2,.string e3,O q q1 q2] 51
     have w1:¬ 9223372036854775807 < 4+x.size:=by omega
     have w2:¬ 9223372036854775807 < s.size+(4+x.size):=by omega
     go_wp2_with fail;rw [<-S,<-t];clear S t d0 d1 d2 d3 d4 d5 d6 d7 d8 d9 be bd bc;obtain ⟨m0,m1,m2,m3,m4,m5,m6,m7,m8,m9,G,F,C⟩:=Ah u.o;refine Go.Proofs.YtipngnjffjajpaaGreatDoor.gS (fun Wz=>Below V.heap.size V Wz) (Below.refl _ _).drew fun f=>?_;generalize V.drew=Y at f ⊢;refine kO 0 ?_;refine kO 2 ?_;refine kO 3 ?_;refine kO 6 ?_;refine kO 7 ?_;refine rdA 1 rfl fun K v=>?_;go_simp;obtain ⟨U,W⟩:=nm (Y.alloc (zd #[.string ⟨#[]⟩,.string ⟨#[97,99,116,111,114,32]⟩,.string ⟨#[103,114,97,110,116,32]⟩,.string ⟨#[115,112,101,97,107,32]⟩,.string ⟨#[105,110,32]⟩,.string ⟨#[111,117,116,32]⟩,.string ⟨#[118,97,114,32]⟩,.string ⟨#[102,117,110,99,32]⟩] 9));obtain ⟨g,hg⟩:=nm Y.heap.size;have n:=Aa (Ab f (bA Y (zd #[.string ⟨#[]⟩,.string ⟨#[97,99,116,111,114,32]⟩,.string ⟨#[103,114,97,110,116,32]⟩,.string ⟨#[115,112,101,97,107,32]⟩,.string ⟨#[105,110,32]⟩,.string ⟨#[111,117,116,32]⟩,.string ⟨#[118,97,114,32]⟩,.string ⟨#[102,117,110,99,32]⟩] 9)));have H:U.cell? ⟨g,6,none⟩=some (.string ⟨#[118,97,114,32]⟩):=by rw [W,hg];exact Ai Y [.string ⟨#[]⟩,.string ⟨#[97,99,116,111,114,32]⟩,.string ⟨#[103,114,97,110,116,32]⟩,.string ⟨#[115,112,101,97,107,32]⟩,.string ⟨#[105,110,32]⟩,.string ⟨#[111,117,116,32]⟩,.string ⟨#[118,97,114,32]⟩,.string ⟨#[102,117,110,99,32]⟩] 9 6 _ rfl
     rw [<-W] at n;rw [<-W,<-hg];clear W hg f;refine xK v n.o fun f=>?_;clear v K;refine kO 4 ?_;refine rdA 5 rfl fun K v=>?_;go_simp;refine xK v n.o fun f=>?_;clear v K H;refine kO 8 ?_;refine kO 9 ?_;refine kO 10 ?_;refine gE ?_;have N:=Aa (Ab I.o n.o);have Z:=Aa (Ac.over u.o n.o);clear m0 m1 m2 m3 m4 m5 m6 m7 m8 m9 G F C I u n f w1 w2;obtain ⟨m0,m1,m2,m3,m4,m5,m6,m7,m8,m9,G,F,C⟩:=Ah Z.o;have s2:¬ 9223372036854775807 < 1+T.size:=by omega
     have s3:¬ 9223372036854775807 < s.size+(4+x.size)+(1+T.size):=by omega
     have s4:¬ 9223372036854775807 < s.size+(4+x.size)+(1+T.size)+2:=by omega
     have ad:Hx ((s++(⟨#[118,97,114,32]⟩++x)++(⟨#[32]⟩++T)++⟨#[59,10]⟩:ByteArray).data.toList++((ds.drop (j+1)).map (deT ke kc)).flatten=az):=by
      show _=_;rw [<-HZ.o];simp only [A4];simp [wdT]
     clear HZ;go_wp2_with fail;refine (KL.o _ N.o).mono ?_;rintro e W3 ⟨rfl,a6⟩;have bn:=Aa (Ab N.o a6);clear a6 KL m0 m1 m2 m3 m4 m5 m6 m7 m8 m9 G F C Z;go_wp2_with fail;exact ⟨⟨j+1,_,by omega,by go_num,rfl,ad.o,Ab HB.o bn.o⟩,by simp [intOf];omega⟩
    ·rw [if_neg (by decide)] at L
     clear a5 ay;generalize lb.length=nL at d5;have HZ:=Aa L;clear L;obtain ⟨V,S⟩:=nm (wr.alloc (zd #[A J 6,A J a,.string x,.string y,zc false,O aL nL cL,O aP nP cP,O aB nB cB,A J e0,A J e1,A J e2,.string e3,O q q1 q2] 51));obtain ⟨bq,t⟩:=nm wr.heap.size;have I:Hx (Ov wr V):=by show Ov _ _;rw [S];exact bA _ _
     have u:Hx (Ac [A J 6,A J a,.string x,.string y,zc false,O aL nL cL,O aP nP cP,O aB nB cB,A J e0,A J e1,A J e2,.string e3,O q q1 q2] V bq):=by show Ac _ _ _;rw [S,t];exact Ai wr [A J 6,A J a,.string x,.string y,zc false,O aL nL cL,O aP nP cP,O aB nB cB,A J e0,A J e1,A J e2,.string e3,O q q1 q2] 51
     have w1:¬ 9223372036854775807 < 4+x.size:=by omega
     have w2:¬ 9223372036854775807 < s.size+(4+x.size):=by omega
     go_wp2_with fail;rw [<-S,<-t];clear S t d0 d1 d2 d3 d4 d5 d6 d7 d8 d9 be bd bc;obtain ⟨m0,m1,m2,m3,m4,m5,m6,m7,m8,m9,G,F,C⟩:=Ah u.o;refine Go.Proofs.YtipngnjffjajpaaGreatDoor.gS (fun Wz=>Below V.heap.size V Wz) (Below.refl _ _).drew fun f=>?_;generalize V.drew=Y at f ⊢;refine kO 0 ?_;refine kO 2 ?_;refine kO 3 ?_;refine kO 6 ?_;refine kO 7 ?_;refine rdA 1 rfl fun K v=>?_;go_simp;obtain ⟨U,W⟩:=nm (Y.alloc (zd #[.string ⟨#[]⟩,.string ⟨#[97,99,116,111,114,32]⟩,.string ⟨#[103,114,97,110,116,32]⟩,.string ⟨#[115,112,101,97,107,32]⟩,.string ⟨#[105,110,32]⟩,.string ⟨#[111,117,116,32]⟩,.string ⟨#[118,97,114,32]⟩,.string ⟨#[102,117,110,99,32]⟩] 9));obtain ⟨g,hg⟩:=nm Y.heap.size;have n:=Aa (Ab f (bA Y (zd #[.string ⟨#[]⟩,.string ⟨#[97,99,116,111,114,32]⟩,.string ⟨#[103,114,97,110,116,32]⟩,.string ⟨#[115,112,101,97,107,32]⟩,.string ⟨#[105,110,32]⟩,.string ⟨#[111,117,116,32]⟩,.string ⟨#[118,97,114,32]⟩,.string ⟨#[102,117,110,99,32]⟩] 9)));have H:U.cell? ⟨g,6,none⟩=some (.string ⟨#[118,97,114,32]⟩):=by rw [W,hg];exact Ai Y [.string ⟨#[]⟩,.string ⟨#[97,99,116,111,114,32]⟩,.string ⟨#[103,114,97,110,116,32]⟩,.string ⟨#[115,112,101,97,107,32]⟩,.string ⟨#[105,110,32]⟩,.string ⟨#[111,117,116,32]⟩,.string ⟨#[118,97,114,32]⟩,.string ⟨#[102,117,110,99,32]⟩] 9 6 _ rfl
     rw [<-W] at n;rw [<-W,<-hg];clear W hg f;refine xK v n.o fun f=>?_;clear v K;refine kO 4 ?_;refine rdA 5 rfl fun K v=>?_;go_simp;refine xK v n.o fun f=>?_;clear v K H;refine kO 8 ?_;refine kO 9 ?_;refine kO 10 ?_;refine gE ?_;have N:=Aa (Ab I.o n.o);have Z:=Aa (Ac.over u.o n.o);clear m0 m1 m2 m3 m4 m5 m6 m7 m8 m9 G F C I u n f w1 w2;obtain ⟨m0,m1,m2,m3,m4,m5,m6,m7,m8,m9,G,F,C⟩:=Ah Z.o;have s4:¬ 9223372036854775807 < s.size+(4+x.size)+2:=by omega
     have ad:Hx ((s++(⟨#[118,97,114,32]⟩++x)++⟨#[59,10]⟩:ByteArray).data.toList++((ds.drop (j+1)).map (deT ke kc)).flatten=az):=by
      show _=_;rw [<-HZ.o];simp only [A4];simp [wdT]
     clear HZ;go_wp2_with fail;exact ⟨⟨j+1,_,by omega,by go_num,rfl,ad.o,Ab HB.o N.o⟩,by simp [intOf];omega⟩
   ·obtain ⟨P,B,E,ed,eg,ef,cw,cz,cx,KP,cl,KE⟩:=KF rfl
    have bj:gv=false:=by
     cases hgB:gv with
     | false=>rfl
     | true=>have:=Q.2 hgB;omega
    subst bj;rw [if_pos rfl,cw,cz,cx] at L;clear KF a5 ay Q p1 p2 cw cz cx;generalize ps.length=nP at d6 KP;generalize R.length=nB at d7 cl;generalize lb.length=nL at d5;have HZ:=Aa L;clear L;obtain ⟨V,S⟩:=nm (wr.alloc (zd #[A J 7,A J a,.string x,.string y,zc false,O aL nL cL,O aP nP cP,O aB nB cB,A J e0,A J e1,A J e2,.string e3,O q q1 q2] 51));obtain ⟨bq,t⟩:=nm wr.heap.size;have I:Hx (Ov wr V):=by show Ov _ _;rw [S];exact bA _ _
    have u:Hx (Ac [A J 7,A J a,.string x,.string y,zc false,O aL nL cL,O aP nP cP,O aB nB cB,A J e0,A J e1,A J e2,.string e3,O q q1 q2] V bq):=by show Ac _ _ _;rw [S,t];exact Ai wr [A J 7,A J a,.string x,.string y,zc false,O aL nL cL,O aP nP cP,O aB nB cB,A J e0,A J e1,A J e2,.string e3,O q q1 q2] 51
    have w1:¬ 9223372036854775807 < 5+x.size:=by omega
    have w2:¬ 9223372036854775807 < s.size+(5+x.size):=by omega
    go_wp2_with fail;rw [<-S,<-t];clear S t d0 d1 d2 d3 d4 d5 d6 d7 d8 d9 be bd bc;obtain ⟨m0,m1,m2,m3,m4,m5,m6,m7,m8,m9,G,F,C⟩:=Ah u.o;refine Go.Proofs.YtipngnjffjajpaaGreatDoor.gS (fun Wz=>Below V.heap.size V Wz) (Below.refl _ _).drew fun f=>?_;generalize V.drew=Y at f ⊢;refine kO 0 ?_;refine kO 2 ?_;refine kO 3 ?_;refine kO 6 ?_;refine kO 7 ?_;refine rdA 1 rfl fun K v=>?_;go_simp;obtain ⟨U,W⟩:=nm (Y.alloc (zd #[.string ⟨#[]⟩,.string ⟨#[97,99,116,111,114,32]⟩,.string ⟨#[103,114,97,110,116,32]⟩,.string ⟨#[115,112,101,97,107,32]⟩,.string ⟨#[105,110,32]⟩,.string ⟨#[111,117,116,32]⟩,.string ⟨#[118,97,114,32]⟩,.string ⟨#[102,117,110,99,32]⟩] 9));obtain ⟨g,hg⟩:=nm Y.heap.size;have n:=Aa (Ab f (bA Y (zd #[.string ⟨#[]⟩,.string ⟨#[97,99,116,111,114,32]⟩,.string ⟨#[103,114,97,110,116,32]⟩,.string ⟨#[115,112,101,97,107,32]⟩,.string ⟨#[105,110,32]⟩,.string ⟨#[111,117,116,32]⟩,.string ⟨#[118,97,114,32]⟩,.string ⟨#[102,117,110,99,32]⟩] 9)));have H:U.cell? ⟨g,7,none⟩=some (.string ⟨#[102,117,110,99,32]⟩):=by rw [W,hg];exact Ai Y [.string ⟨#[]⟩,.string ⟨#[97,99,116,111,114,32]⟩,.string ⟨#[103,114,97,110,116,32]⟩,.string ⟨#[115,112,101,97,107,32]⟩,.string ⟨#[105,110,32]⟩,.string ⟨#[111,117,116,32]⟩,.string ⟨#[118,97,114,32]⟩,.string ⟨#[102,117,110,99,32]⟩] 9 7 _ rfl
    rw [<-W] at n;rw [<-W,<-hg];clear W hg f;refine xK v n.o fun f=>?_;clear v K;refine kO 4 ?_;refine rdA 5 rfl fun K v=>?_;go_simp;refine xK v n.o fun f=>?_;clear v K H;refine kO 8 ?_;refine kO 9 ?_;refine kO 10 ?_;refine gE ?_;have N:=Aa (Ab I.o n.o);have Z:=Aa (Ac.over u.o n.o);clear m0 m1 m2 m3 m4 m5 m6 m7 m8 m9 G F C I u n f w1 w2;obtain ⟨m0,m1,m2,m3,m4,m5,m6,m7,m8,m9,G,F,C⟩:=Ah Z.o;have s0:¬ 9223372036854775807 < 1+P.size:=by omega
    have s1:¬ 9223372036854775807 < 1+P.size+4:=by omega
    have s2:¬ 9223372036854775807 < 1+P.size+4+B.size:=by omega
    have s3:¬ 9223372036854775807 < 1+P.size+4+B.size+9:=by omega
    have s4:¬ 9223372036854775807 < 1+P.size+4+B.size+9+E.size:=by omega
    have s5:¬ 9223372036854775807 < 1+P.size+4+B.size+9+E.size+4:=by omega
    have s9:¬ 9223372036854775807 < s.size+(5+x.size)+(1+P.size+4+B.size+9+E.size+4):=by omega
    have ad:Hx ((s++(⟨#[102,117,110,99,32]⟩++x)++(⟨#[40]⟩++P++⟨#[41,32,123,10]⟩++B++⟨#[32,32,114,101,116,117,114,110,32]⟩++E++⟨#[59,10,125,10]⟩):ByteArray).data.toList++((ds.drop (j+1)).map (deT ke kc)).flatten=az):=by
     show _=_;rw [<-HZ.o];simp only [A4];simp [wdT]
    clear HZ;go_wp2_with fail;refine Go.Proofs.YtipngnjffjajpaaGreatDoor.gS (fun Wz=>Below U.heap.size U Wz) (Below.refl _ _).drew fun f=>?_;generalize U.drew=Y2 at f ⊢;refine kO 0 ?_;refine kO 1 ?_;refine kO 2 ?_;refine kO 6 ?_;refine kO 7 ?_;refine kO 11 ?_;refine kO 12 ?_;refine rdA 3 rfl fun K v=>?_;go_simp;refine (KP.o _ (Ab N.o f)).mono ?_;rintro e Z1 ⟨rfl,hb⟩;have di:=Aa (Ab f hb);clear hb f KP;go_simp;refine xK v di.o fun f=>?_;clear v K;refine kO 4 ?_;refine kO 5 ?_;refine rdA 8 rfl fun K v=>?_;go_simp;refine (cl.o _ (Ab N.o f)).mono ?_;rintro e Z2 ⟨rfl,hb⟩;have dh:=Aa (Ab f hb);clear hb f cl;go_simp;refine xK v dh.o fun f=>?_;clear v K;refine kO 9 ?_;refine kO 10 ?_;refine rdA 13 rfl fun K v=>?_;go_simp;refine (KE.o _ (Ab N.o f)).mono ?_;rintro e Z3 ⟨rfl,hb⟩;have dg:=Aa (Ab f hb);clear hb f KE;go_simp;refine xK v dg.o fun f=>?_;clear v K;refine kO 14 ?_;refine kO 15 ?_;refine kO 16 ?_;refine kO 17 ?_;refine gE ?_;have dk:=Aa (Ab HB.o (Ab N.o f));clear f m0 m1 m2 m3 m4 m5 m6 m7 m8 m9 G F C;go_wp2_with fail;exact ⟨⟨j+1,_,by omega,by go_num,rfl,ad.o,dk.o⟩,by simp [intOf];omega⟩
  ·have c8:¬ (j:Int) < (nn:Int):=by omega
   have hd:ds.drop j=[]:=List.drop_eq_nil_of_le (by have:=HN.o;omega);rw [hd,List.map_nil,List.flatten_nil,List.append_nil] at L;have dy:s.size<=1000000:=by
    have e:s.data.toList.length=s.size:=rfl;have:=bw.o;rw [L] at e;omega
   have s1:¬ 9223372036854775807 < s.size+7:=by omega
   have s2:¬ 9223372036854775807 < s.size+7+M.size:=by omega
   have s3:¬ 9223372036854775807 < s.size+7+M.size+2:=by omega
   have HV:Hx ((⟨(az++[109,97,105,110,32,123,10]++M.data.toList++[125,10]).toArray⟩:ByteArray)=s++⟨#[109,97,105,110,32,123,10]⟩++M++⟨#[125,10]⟩):=by
    show _=_;rw [<-L];apply ByteArray.ext;apply Array.toList_inj.1;simp
   have HB:=Aa br;clear L hd br;go_wp2_with fail;refine (KM.o _ (Ab cm.o HB.o)).mono ?_;rintro e w3 ⟨rfl,a6⟩;have bn:=Aa (Ab cm.o (Ab HB.o a6));clear a6 KM;go_wp2_with fail;go_ret;exact ⟨by rw [HV.o];rfl,bn.o⟩
end Go.Proofs.YtipngnjffjajpaaGreatDoor.Tx
