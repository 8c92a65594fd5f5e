/- The document's answer: ParseOf of any text. -/
import Derived.Test.YtipngnjffjajpaaGreatDoorK25
import Derived.Test.YtipngnjffjajpaaGreatDoorK12
import Derived.Test.YtipngnjffjajpaaGreatDoorK26
set_option linter.unusedVariables false
set_option maxHeartbeats 8000000
set_option maxRecDepth 100000
namespace Go.Proofs.YtipngnjffjajpaaGreatDoor.Tx
open Go.RowKit
open Go.Value renaming int -> O, slice -> zd, bool -> ze, agg -> zf, pointer -> zh, tuple -> zj
open Go.IntKind renaming i64 -> zc
open Go.Obj renaming cells -> zg
open Go.Ending renaming returned -> zi
section
variable {rb:Nat} {tv:Value} {ts:List Tok} {en b j:Nat} {s s':Sg} {w V V':World} {u:Value}
structure RqT (w:World) (rb:Nat) (tv:Value) (ts:List Tok) (en:Nat) (s:Sg) (V:World):Prop where
 tk:Hr tv ts w
 hr:w.heap.size<=rb
 st:Sd rb tv ts en s V
 bel:Below w.heap.size w V
theorem RqT.mk' (tk:Hr tv ts w) (hr:w.heap.size<=rb) (hn:s.1<=ts.length) (hb:V.heap[rb]? = some (Obj.cells #[tv,O zc (s.1:Int),O zc (en:Int),ze s.2] 58 (0,0))) (bel:Below w.heap.size w V):RqT w rb tv ts en s V:=by
 obtain ⟨n,y,g,i,A⟩:=id tk;refine ⟨tk,hr,⟨hb,hn,n,y,g,i,fun f=>?_⟩,bel⟩;obtain ⟨b,a,x,v,r⟩:=L8 (c:=0) tk i f;exact ⟨b,a,x,by omega,fun j u l=>by rw [bel.cell (p:=⟨b,a+j,none⟩) v];exact r j u l⟩
theorem RqT.size (h:RqT w rb tv ts en s V):w.heap.size<=V.heap.size:=h.bel.size
theorem RqT.call (h:RqT w rb tv ts en s V) (hq:Qo rb tv ts en V s s' V'):RqT w rb tv ts en s' V':=
 ⟨h.tk,h.hr,hq.2.1,h.bel.grown hq.1 h.size fun k hk=>by injection hk with hk;rw [<-hk];exact h.hr⟩
theorem RqT.over (h:RqT w rb tv ts en s V) (hb:Ov V V'):RqT w rb tv ts en s V':=⟨h.tk,h.hr,h.st.below hb,h.bel.trans (hb.mono h.size)⟩
theorem RqT.set (h:RqT w rb tv ts en s V) (hb:w.heap.size<=b) (hne:b≠rb):RqT w rb tv ts en s (V.setCell ⟨b,j,none⟩ u):=
 RqT.mk' h.tk h.hr h.st.2.1 (by rw [Below.heap_setCell _ _ _ _ (by show rb≠b;omega)];exact h.st.1) (h.bel.setCell hb u)
theorem RqT.row {B T q k:Nat} {v:Value} {xs:List Value} (h:RqT w rb tv ts en s V) (ho:V.ownsRow B T q v k xs) (hB:rb < B) (hg:V.grownBy V' v.ownBlock):RqT w rb tv ts en s V':=
 RqT.mk' h.tk h.hr h.st.2.1 (by rw [hg.block rb h.st.lt (fun e=>by have:=(AL ho e.symm).1;omega)];exact h.st.1) (h.bel.grown hg h.size fun k hk=>by have:=(AL ho hk).1;have:=h.hr;omega)
theorem Hh (g:Nat) (acc:List D) (s:Sg) (h:s.2=true\/AN (tl ts s 0)=0):CD ts en g acc s=(acc,s):=by
 cases g with
 | zero=>rfl
 | succ g=>
  rw [CD,if_neg];rintro ⟨a,b⟩;rcases h with h | h
  ·rw [h] at a;cases a
  ·exact b h
theorem LL (g:Nat) (acc:List D) (s:Sg) (h:s.2=false) (h2:¬ AN (tl ts s 0)=0):CD ts en (g+1) acc s=CD ts en g (acc++[(Ep ts en s).1]) (Ep ts en s).2:=by
 rw [CD,if_pos ⟨h,h2⟩]
theorem N6:Mj ts en=(fun ds:List D × Sg=>(fun m:List D × Sg=>((ds.1,m.1),m.2)) (Bd ts (fun s=>AH ts en (2*ts.length+3) [125] [] s) (Ak ts [109,97,105,110] ds.2))) (CD ts en (ts.length+2) [] (0,false)):=rfl
theorem RI {a a2:Option Addr} {c c2:Nat} {ds l:List D} {W:World} (hall:ts.all Ai=true) {n:Nat} (hp:DQ ts en=.inl ((ds,l),n)) (h1:LS 13 (XD W (2*ts.length+3)) W (zd a ds.length c) ds) (h2:LS 12 (XC W (2*ts.length+3)) W (zd a2 l.length c2) l):ZT W 61 (2*ts.length+3) (zf #[zd a ds.length c,zd a2 l.length c2]) ds l:=by
 obtain ⟨s1,g⟩:=J3 ts en hall (ds,l) n hp;exact ⟨a,c,a2,c2,rfl,h1.imp fun i d b f=>f.z (s1 d b),h2.imp fun i d b f=>f.z (g d b)⟩
end
theorem Iy (s:ByteArray) (hs:s.size<=maxLen) (w:World):Calls Tryz.prog 11 #[.string s] w (Ec s w):=by
 have fs:s.size<=9223372036854775807:=hs;obtain ⟨a7,a0⟩:=nm (AV s);unfold Ec;rw [<-a0];have HR:=Aa a0;obtain ⟨V,hV⟩:=nm (w.alloc (zg #[zd none 0 0,zd none 0 0] 25));obtain ⟨J,bh⟩:=nm w.heap.size;have b4:=aov hV;have c7:=A1 bh hV;have M:=Aa bh;have KS:=Aa (Lq s hs V);clear a0 hs;go_enter Tryz.func11,Tryz.ntmps11;go_wp2_with fail;rw [<-hV,<-bh];clear hV bh;refine KS.o.mono ?_;rintro e w1 ⟨v,a,p,r,rfl,A,U,ah⟩;have bs:=Aa (Ab b4.o U);have c:=Aa (c7.o.over U);clear KS c7 b4;obtain ⟨va,vn,vc,rfl⟩:=AP A;by_cases hgood:s.size<=6000/\AZ s=0
 ·obtain ⟨h6,he⟩:=hgood
  rw [if_pos h6] at ah;obtain ⟨az,rfl,hr⟩:=ah;rw [he] at hr;subst hr
  have bd:AV s=match DQ (Aq s) s.size with
   | .inr m=>.inr (Al (Aq s) s.size m,1)
   | .inl ((ds,l),_)=>if ckT 61 (2*(Aq s).length+3) ds l=0 then .inl (ds,l) else .inr (0,ckT 61 (2*(Aq s).length+3) ds l):=by
   unfold AV;rw [if_pos h6,if_pos he];rfl
  rw [<-az] at bd;have am:Hx (a.all Ai=true):=by show _=_;rw [az];exact DB s h6
  have cx:a.length<=6000:=by rw [az];exact JS s h6
  have cf:=Aa (JE A cx);have d2:=Cq A;have eh:=Aa az;obtain ⟨en,cb⟩:=nm s.size;rw [<-cb] at bd;have da:=Aa (HR.o.trans bd);subst d2;obtain ⟨tv,bc⟩:=nm (Value.slice va a.length vc);rw [<-bc] at cf;have fw:=Aa bc;obtain ⟨V2,a2⟩:=nm ((w1.alloc (zg #[zd va a.length vc,O zc 0,O zc (en:Int),ze false] 58)).alloc (zg #[zd none 0 0,zd none 0 0] 25));obtain ⟨rb,ap⟩:=nm w1.heap.size;obtain ⟨bt,bg⟩:=nm (w1.heap.size+1);have cc:Below w1.heap.size w1 V2:=by rw [a2];exact Ab (bA _ _) (bA _ _)
  have b:Hx (J < rb/\bt=rb+1/\w1.heap.size<=rb):=⟨by rw [ap];exact c.o.lt,by rw [bg,ap],by rw [ap];exact Nat.le_refl _⟩;have E:Hx (RqT w1 rb tv a en ((0,false):Sg) V2):=RqT.mk' cf.o b.o.2.2 (Nat.zero_le _) (by rw [a2,ap,bc];exact Cn (GL w1 _)) cc;replace c:=Aa (c.o.over cc);have HT:Hx (Bx bt [zd none 0 0,zd none 0 0] V2):=by
   have h9:=Bx.new (w1.alloc (zg #[zd va a.length vc,O zc 0,O zc (en:Int),ze false] 58)) [zd none 0 0,zd none 0 0] 25;rw [alS] at h9;show Bx _ _ _;rw [a2,bg];exact h9
  obtain ⟨ak,ag⟩:=nm (CD a en (a.length+2) [] (0,false));have ei:Hx (Mj a en=(fun ds:List D × Sg=>(fun m:List D × Sg=>((ds.1,m.1),m.2)) (Bd a (fun s=>AH a en (2*a.length+3) [125] [] s) (Ak a [109,97,105,110] ds.2))) ak):=by show _=_;rw [ag];exact N6
  have aa:=Aa ag;obtain ⟨i0,hi,dy,dx,dw⟩:=info_parts Tryz.infoTD;clear A U bd he az cc ag bc cf
  go_upto_region 6 with fail
  rw [<-cb,<-a2,<-bg,<-ap];clear a2 bg ap cb;go_wp2_with fail;go_loopw [] (fun wr=>∃ (acc:List D) (s2:Sg) (g:Nat) (la:Option Addr) (k lc:Nat),k=acc.length/\RqT w1 rb tv a en s2 wr/\Bx J [zd none 0 0,zd none 0 0] wr/\Bx bt [zd la k lc,zd none 0 0] wr/\Cop (bt+1) 51 13 (fun i cs W=>∀ x,acc[i]? = some x->XD W (2*a.length+3) cs x) k (zd la k lc) wr/\CD a en g acc s2=ak/\(s2.2=true\/a.length - s2.1 < g)/\acc.length+bN s2.2<=s2.1+1) (fun wr=>mQ rb a.length wr)
  case atStart=>exact ⟨[],(0,false),a.length+2,none,0,0,rfl,E.o,c.o,HT.o,Cop.nil,aa.o.symm,Or.inr (by omega),by simp [bN]⟩
  case round=>
   clear E c HT aa;obtain ⟨acc,s2,g,la,k,lc,hk,hd,hx,ht,cy,cr,cw,cz⟩:=hrel;have ek:=Aa (CT a.length hd.st);have eb:s2.1<=a.length:=hd.st.2.1;have E:=Aa hd;have c:=Aa hx;have HT:=Aa ht;have B:=Aa cy;have aa:=Aa cr;have HK:=Aa hk;have HF:Hx ((s2.2=true\/a.length - s2.1 < g)/\acc.length+bN s2.2<=s2.1+1/\acc.length<=6001):=⟨cw,cz,by omega⟩;clear hk hd hx ht cy cr cw cz eb;obtain ⟨ao,ae,rc2,P,-,-⟩:=E.o.st.cells;by_cases hfl:s2.2=true
   case' pos=>
    have HE:Hx (ak=(acc,s2)):=by show _=_;rw [<-aa.o];exact Hh _ _ _ (Or.inl hfl)
    rw [hfl] at P;clear hfl;go_wp2_with fail;clear ao ae rc2 P
   case' neg=>
    replace hfl:s2.2=false:=by simpa using hfl
    rw [hfl] at P;have cg:=Aa hfl;have KD:=Aa (Rk (rb:=rb) (tv:=tv) (en:=en) am.o s2 _ E.o.st hfl);clear hfl;go_wp2_with fail;clear ao ae rc2 P;refine KD.o.mono ?_;rintro e w3 ⟨b9,b7⟩;by_cases hk0:AN (tl a s2 0)=0
    case' pos=>
     obtain ⟨⟨kd,a9,x,y,gv,l0,l1,l2,p0,p1,p2,c0,c1,c2,e0,G,e2,e3,q0,q1,q2,rfl⟩,Q⟩:=b9 hk0;have HE:Hx (ak=(acc,s2)):=by show _=_;rw [<-aa.o];exact Hh _ _ _ (Or.inr hk0)
     obtain ⟨W4,Z⟩:=nm (w3.alloc (zg #[O zc kd,O zc a9,.string x,.string y,ze gv,zd l0 l1 l2,zd p0 p1 p2,zd c0 c1 c2,O zc e0,O zc G,O zc e2,.string e3,zd q0 q1 q2] 51));have I:=(aov Z).o;have K:=Q.1;replace c:=Aa ((c.o.keep K (by have:=b.o;omega)).over I);replace HT:=Aa ((HT.o.keep K (by have:=b.o;omega)).over I);replace B:=Aa ((B.o.keep K (by have:=b.o;omega)).over I);replace E:=Aa ((E.o.call Q).over I);clear K Q I b9 b7 KD hk0
     go_upto_region 10 with fail
     rw [<-Z];clear Z
    case' neg=>
     obtain ⟨kd,a9,x,y,gv,l0,l1,l2,p0,p1,p2,c0,c1,c2,e0,G,e2,e3,q0,q1,q2,rfl,C,S,Q⟩:=b7 hk0;obtain ⟨g,rfl⟩:∃ g',g=g' + 1:=⟨g - 1,by have h1:=HF.o.1;rw [cg.o] at h1;simp at h1;omega⟩;have hr:=aa.o;rw [LL _ _ _ cg.o hk0] at hr;obtain ⟨pd,cv⟩:=nm (Ep a en s2);rw [<-cv] at hr C S Q;obtain ⟨d,s4⟩:=pd;dsimp only at hr C S Q;replace aa:=Aa hr;obtain ⟨W4,Z⟩:=nm (w3.alloc (zg #[O zc kd,O zc a9,.string x,.string y,ze gv,zd l0 l1 l2,zd p0 p1 p2,zd c0 c1 c2,O zc e0,O zc G,O zc e2,.string e3,zd q0 q1 q2] 51));have I:=(aov Z).o;have dd:Hx (Bx w3.heap.size [O zc kd,O zc a9,.string x,.string y,ze gv,zd l0 l1 l2,zd p0 p1 p2,zd c0 c1 c2,O zc e0,O zc G,O zc e2,.string e3,zd q0 q1 q2] W4):=by show Bx _ _ _;rw [Z];exact Bx.new w3 [O zc kd,O zc a9,.string x,.string y,ze gv,zd l0 l1 l2,zd p0 p1 p2,zd c0 c1 c2,O zc e0,O zc G,O zc e2,.string e3,zd q0 q1 q2] 51
     have K:=Q.1;have b1:Hx (∀ q,(Value.slice la k lc).ownBlock=some q->q < wr.heap.size):=fun q K=>by
      obtain ⟨ys,h1,-⟩:=B.o;exact (AL h1 K).2
     have eg:Hx (bt+1<=wr.heap.size):=HT.o.lt;replace c:=Aa ((c.o.keep K (by have:=b.o;omega)).over I);replace HT:=Aa ((HT.o.keep K (by have:=b.o;omega)).over I);replace B:=Aa ((B.o.keep K (by have:=b.o;omega)).over I);replace E:=Aa ((E.o.call Q).over I);have aj:=Aa (C.over I);have df:=Aa S;have el:=Aa Q.2.2;clear K Q I b9 b7 KD hk0 C S cv hr
     go_upto_region 9 with fail
     rw [<-Z];clear Z;obtain ⟨W5,ar⟩:=nm (W4.alloc (zg #[O zc kd,O zc a9,.string x,.string y,ze gv,zd l0 l1 l2,zd p0 p1 p2,zd c0 c1 c2,O zc e0,O zc G,O zc e2,.string e3,zd q0 q1 q2] 51));have aq:=(aov ar).o;have dc:Hx (Ad [O zc kd,O zc a9,.string x,.string y,ze gv,zd l0 l1 l2,zd p0 p1 p2,zd c0 c1 c2,O zc e0,O zc G,O zc e2,.string e3,zd q0 q1 q2] W5 W4.heap.size):=by show Ad _ _ _;rw [ar];exact A5 W4 [O zc kd,O zc a9,.string x,.string y,ze gv,zd l0 l1 l2,zd p0 p1 p2,zd c0 c1 c2,O zc e0,O zc G,O zc e2,.string e3,zd q0 q1 q2] 51
     obtain ⟨n0,n1,n2,n3,n4,n5,n6,n7,n8,n9,dv,du,dt⟩:=B8 dd.o.row;have ay:=HT.o.row 0 _ rfl;have cn:=HT.o.fz 0;replace c:=Aa (c.o.over aq);replace HT:=Aa (HT.o.over aq);replace B:=Aa (B.o.over aq);replace E:=Aa (E.o.over aq);replace aj:=Aa (aj.o.over aq);obtain ⟨xs,A,bu⟩:=B.o;have c3:bt+1<=W5.heap.size:=HT.o.lt;have d9:k<=6001:=by have h1:=HF.o;have h2:=HK.o;omega
     have b2:=Aa bu;clear bu aq B dd;go_wp2_with (at_builtin;(try rw [<-ar]);refine wpList_append_own_at _ rfl _ _ 22 rfl (bt+1) 51 i0 (zf #[O zc 0,O zc 0,.string ⟨#[]⟩,.string ⟨#[]⟩,ze false,zd none 0 0,zd none 0 0,zd none 0 0,O zc 0,O zc 0,O zc 0,.string ⟨#[]⟩,zd none 0 0]) 13 192 Tryz.underlying22 hi dy dx dw rfl (by decide) _ _ _ rfl A ⟨W4.heap.size,0,none⟩ 1 1 [O zc kd,O zc a9,.string x,.string y,ze gv,zd l0 l1 l2,zd p0 p1 p2,zd c0 c1 c2,O zc e0,O zc G,O zc e2,.string e3,zd q0 q1 q2] rfl rfl (fun jj u hu=>by rw [Addr.add_lit,Nat.zero_add];exact dc.o jj u hu) (by simp [Value.oneCell']) (by unfold maxLen;omega) (by omega) c3 ?_);intro v2 W6 R N _ bi;rw [<-ar] at N;have cp:W5.heap.size=W4.heap.size+1:=by rw [ar];simp
     replace bi:v2.ownBlock=(Value.slice la k lc).ownBlock\/v2.ownBlock=some W5.heap.size:=by rw [cp];simpa using bi
     have bv:Cop (bt+1) 51 13 (fun i cs W=>∀ x,(acc++[d])[i]? = some x->XD W (2*a.length+3) cs x) (k+1) v2 W6:=Cop.add (B1:=wr.heap.size) A (fun i hi=>by
       obtain ⟨ds,z1,z2,z3⟩:=b2.o i hi;exact ⟨ds,z1,z2,z3.imp fun W hW x hx=>hW x (by rw [List.getElem?_append_left (by rw [<-HK.o];exact hi)] at hx;exact hx)⟩) rfl (aj.o.imp fun W hW x hx=>by
        rw [List.getElem?_append_right (by rw [HK.o];exact Nat.le_refl _),HK.o,Nat.sub_self] at hx;injection hx with hx;rw [<-hx];exact hW) eg.o b1.o R N bi
     replace E:=Aa (E.o.row A (by have:=b.o;omega) N);replace c:=Aa (c.o.grown N (fun e=>by have h1:=(AL A e.symm).1;have h2:=b.o;omega));replace HT:=Aa (HT.o.grown N (fun e=>by have h1:=(AL A e.symm).1;omega));obtain ⟨b6,e8,b5,d4⟩:=AP R;subst d4;obtain rfl:=Cq R;have a3:=Aa bv;clear bv A R N bi c3 cp ar ay cn n0 n1 n2 n3 n4 n5 n6 n7 n8 n9 dv du dt b2 b1 d9 aj dc;have ay:=HT.o.row 0 _ rfl;have cn:=HT.o.fz 0;obtain ⟨W7,H⟩:=nm (W6.setCell ⟨bt,0,none⟩ (zd b6 (k+1) b5));replace HT:=zs0 HT H;replace c:Hx (Bx J [zd none 0 0,zd none 0 0] W7):=by show Bx _ _ _;rw [H];exact c.o.far (by have:=b.o;omega)
     replace E:Hx (RqT w1 rb tv a en s4 W7):=by show RqT _ _ _ _ _ _ _;rw [H];exact E.o.set (by have:=b.o;omega) (by have:=b.o;omega)
     replace a3:Hx (Cop (bt+1) 51 13 (fun i cs W=>∀ x,(acc++[d])[i]? = some x->XD W (2*a.length+3) cs x) (k+1) (zd b6 (k+1) b5) W7):=by show Cop _ _ _ _ _ _ _;rw [H];exact a3.o.set (Nat.lt_succ_self _)
     go_wp2_with fail;rw [<-H];have d8:=CT a.length E.o.st;have ca:=Du (L:=a.length) (k:=acc.length) (g:=g) (s:=s2) (s4:=s4) HF.o.1 cg.o HF.o.2.1 el.o df.o E.o.st.2.1;exact ⟨⟨acc++[d],s4,g,b6,k+1,b5,by rw [List.length_append,HK.o];rfl,E.o,c.o,HT.o,a3.o,aa.o,ca.1,by rw [List.length_append];exact ca.2.1⟩,by rw [d8,ek.o];exact ca.2.2⟩
   all_goals
    have af:=ei.o;rw [HE.o] at af;dsimp only at af;obtain ⟨s3,cq⟩:=nm (Ak a [109,97,105,110] s2);have KN:=Aa (DH ⟨#[109,97,105,110]⟩ [109,97,105,110] rfl (by decide) s2 _ E.o.st);rw [<-cq] at KN af;obtain ⟨pl,b8⟩:=nm (Bd a (fun s=>AH a en (2*a.length+3) [125] [] s) s3);rw [<-b8] at af;have db:=Aa b8;obtain ⟨l,s4⟩:=pl;dsimp only at af;have ej:=Aa af;clear af cq b8 HE;go_wp2_with fail;refine mo KN.o fun w5 Q=>?_;have K:=Q.1;replace c:=Aa (c.o.keep K (by have:=b.o;omega));replace HT:=Aa (HT.o.keep K (by have:=b.o;omega));replace B:=Aa (B.o.keep K (by have:=b.o;omega));replace E:=Aa (E.o.call Q);clear K Q KN;have KL:=Aa (GI (2*a.length+3) (Pc (rb:=rb) (tv:=tv) (en:=en) am.o (2*a.length+3)).1 s3 _ E.o.st (Or.inr (by omega)));rw [<-db.o] at KL;obtain ⟨z,hz⟩:=nm w5.heap.size;have c8:=zlb HT hz;go_wp2_with fail;refine KL.o.mono ?_;rintro e w6 ⟨ma,mc,rfl,C,-,Q⟩;dsimp only at C Q;rw [<-hz] at C;obtain ⟨mk,be⟩:=nm l.length;rw [<-be] at C;try dsimp only
    rw [<-be];have K:=Q.1;replace c:=Aa (c.o.keep K (by have:=b.o;omega));replace HT:=Aa (HT.o.keep K (by have:=b.o;omega));replace B:=Aa (B.o.keep K (by have:=b.o;omega));replace E:=Aa (E.o.call Q);have bq:=Aa C;have de:=Aa be;clear K Q KL C be hz db;have d6:=HT.o.row 0 _ rfl;have d5:=HT.o.row 1 _ rfl;have ea:=HT.o.fz 1;obtain ⟨W7,H⟩:=nm (w6.setCell ⟨bt,1,none⟩ (zd ma mk mc));replace HT:=zs1 HT H;replace c:Hx (Bx J [zd none 0 0,zd none 0 0] W7):=by show Bx _ _ _;rw [H];exact c.o.far (by have:=b.o;omega)
    replace E:Hx (RqT w1 rb tv a en s4 W7):=by show RqT _ _ _ _ _ _ _;rw [H];exact E.o.set (by have:=b.o;omega) (by have:=b.o;omega)
    replace B:Hx (Cop (bt+1) 51 13 (fun i cs W=>∀ x,acc[i]? = some x->XD W (2*a.length+3) cs x) k (zd la k lc) W7):=by show Cop _ _ _ _ _ _ _;rw [H];exact B.o.set (Nat.lt_succ_self _)
    replace bq:=zos bq H c8
    go_upto_region 12 with fail
    rw [<-H];clear d6 d5 ea H;have f:=NP a en (Gz am.o);rw [ej.o] at f;obtain ⟨ao,ae,rc2,P,-,-⟩:=E.o.st.cells;obtain ⟨n4,f4⟩:=s4;dsimp only at ae P f;by_cases hbad:f4=true\/n4 < a.length
    ·have Y:DQ a en=.inr n4:=by
      revert f
      cases hp:DQ a en with
      | inl q=>
       obtain ⟨q1,q2⟩:=q;intro f;obtain ⟨G,e2⟩:=f;injection G with G e3;injection e3 with e3 e4;rcases hbad with h | h
       ·rw [h] at e4;cases e4
       ·rw [e3] at h;exact absurd h e2
      | inr m=>
       intro f;rcases f with G | ⟨G,-⟩ <;> (injection G with G e2;rw [G])
     have HP:Hx (a7=.inr (Al a en n4,1)):=by show _=_;rw [da.o,Y]
     have KH:Hx (Ro 28 #[zh (some ⟨rb,0,none⟩)] W7 (O zc (Al a en n4))):=OQ (n4,f4) _ E.o.st;obtain ⟨ps,cu⟩:=nm (Al a en n4);rw [<-cu] at KH HP;clear f Y cu
     cases f4 with
     | true=>
      clear hbad;go_wp2_with fail;refine mo KH.o fun w8 U=>?_;replace c:=Aa (c.o.over U);have av:Hx (Ov w w8):=Ab (Ab bs.o E.o.bel) U;clear KH U ao ae rc2 P;have x0:=c.o.row 0 _ rfl;have x1:=c.o.row 1 _ rfl;have z0:=c.o.fz 0;have z1:=c.o.fz 1;go_wp2_with fail;obtain ⟨V9,n⟩:=nm ((w8.setCell ⟨J,0,none⟩ (zd none 0 0)).setCell ⟨J,1,none⟩ (zd none 0 0));have F:Bx J [zd none 0 0,zd none 0 0] V9:=by rw [n];exact (c.o.set (j:=0) (by simp)).set (j:=1) (by simp)
      have T:Ov w V9:=by rw [n];exact ((av.o).setCell (by have:=M.o;simp;omega) _).setCell (by have:=M.o;simp;omega) _
      rw [<-n];have d0:=F.row 0 _ rfl;have d1:=F.row 1 _ rfl;refine bodyPost_ret (v:=zj #[zf #[zd none 0 0,zd none 0 0],O zc ps,O zc 1]) (by simp [results,Tryz.results11,go_sem,d0,d1]) rfl ⟨T,?_⟩;rw [HP.o];exact rfl
     | false=>
      have S:n4 < a.length:=hbad.elim (fun h=>by cases h) id;have a1:(n4:Int) < (a.length:Int):=by omega
      clear hbad;generalize a.length=tl0 at *;go_wp2_with fail;refine mo KH.o fun w8 U=>?_;replace c:=Aa (c.o.over U);have av:Hx (Ov w w8):=Ab (Ab bs.o E.o.bel) U;clear KH U ao ae rc2 P;have x0:=c.o.row 0 _ rfl;have x1:=c.o.row 1 _ rfl;have z0:=c.o.fz 0;have z1:=c.o.fz 1;go_wp2_with fail;obtain ⟨V9,n⟩:=nm ((w8.setCell ⟨J,0,none⟩ (zd none 0 0)).setCell ⟨J,1,none⟩ (zd none 0 0));have F:Bx J [zd none 0 0,zd none 0 0] V9:=by rw [n];exact (c.o.set (j:=0) (by simp)).set (j:=1) (by simp)
      have T:Ov w V9:=by rw [n];exact ((av.o).setCell (by have:=M.o;simp;omega) _).setCell (by have:=M.o;simp;omega) _
      rw [<-n];have d0:=F.row 0 _ rfl;have d1:=F.row 1 _ rfl;refine bodyPost_ret (v:=zj #[zf #[zd none 0 0,zd none 0 0],O zc ps,O zc 1]) (by simp [results,Tryz.results11,go_sem,d0,d1]) rfl ⟨T,?_⟩;rw [HP.o];exact rfl
    ·have hf:f4=false:=by cases f4 with
      | true=>exact absurd (Or.inl rfl) hbad
      | false=>rfl
     subst hf;have S:¬ n4 < a.length:=fun h=>hbad (Or.inr h);have a1:¬ (n4:Int) < (a.length:Int):=by omega
     have Y:∃ q,DQ a en=.inl ((acc,l),q):=by
      revert f
      cases hp:DQ a en with
      | inl q=>
       obtain ⟨q1,q2⟩:=q;intro f;obtain ⟨G,-⟩:=f;injection G with G e2;exact ⟨q2,by rw [G]⟩
      | inr m=>
       intro f;rcases f with G | ⟨G,e2⟩
       ·injection G with G e3;cases e3
       ·injection G with G e3;rw [<-G] at e2;exact absurd e2 S
     obtain ⟨qn,Y⟩:=Y;obtain ⟨ck,bf⟩:=nm (ckT 61 (2*a.length+3) acc l);have HP:Hx (a7=if ck=0 then .inl (acc,l) else .inr (0,ck)):=by show _=_;rw [da.o,Y,bf]
     have aj:Hx (Off (bt+1) none W7 (fun W=>LS 13 (XD W (2*a.length+3)) W (zd la k lc) acc)):=by
      have hc:=B.o;rw [HK.o] at hc;obtain ⟨a9,c9,d3,d7⟩:=Cop.ls hc (by decide) (by have h1:=HF.o;omega);injection d3 with v1 v2 v3;exact d7.imp fun W hW=>by rw [HK.o,v1,v3];exact hW
     have HZ:Hx (∀ W:World,(∀ i,bt+1<=i->i < W7.heap.size->W.heap[i]? = W7.heap[i]?)->ZT W 61 (2*a.length+3) (zf #[zd la k lc,zd ma mk mc]) acc l):=fun W hW=>by
      have h1:=aj.o W fun i h1 h2 _=>hW i h1 h2;have h2:=bq.o W fun i h3 h4 _=>hW i (by have:=c8.o;omega) h4;rw [HK.o] at h1;rw [de.o] at h2;rw [HK.o,de.o];exact RI am.o Y h1 h2
     have KC:Hx (∀ X,Ov W7 X->Ro 15 #[zf #[zd la k lc,zd ma mk mc]] X (O zc ck)):=fun X hX=>by
      rw [bf];exact Kw 61 _ acc l _ X ((HZ.o W7 fun _ _ _=>rfl).over hX)
     clear f hbad Y bf bq aj B;have ay:=HT.o.row 0 _ rfl;have co:=HT.o.row 1 _ rfl;generalize a.length=tl0 at a1 S ⊢;go_wp2_with fail;refine mo (KC.o _ (Below.refl _ _)) fun w8 U=>?_;replace c:=Aa (c.o.over U);replace HT:=Aa (HT.o.over U);have dh:=Aa U;have av:Hx (Ov w w8):=Ab (Ab bs.o E.o.bel) U;clear KC U ay co ao ae rc2 P S a1;have x0:=c.o.row 0 _ rfl;have x1:=c.o.row 1 _ rfl;have z0:=c.o.fz 0;have z1:=c.o.fz 1;have ay:=HT.o.row 0 _ rfl;have co:=HT.o.row 1 _ rfl;have fe:J≠bt:=by have:=b.o;omega
     have fd:bt≠J:=by have:=b.o;omega
     by_cases hc0:ck=0
     ·subst hc0
      go_wp2_with fail;obtain ⟨V9,n⟩:=nm ((w8.setCell ⟨J,0,none⟩ (zd la k lc)).setCell ⟨J,1,none⟩ (zd ma mk mc));have F:Bx J [zd la k lc,zd ma mk mc] V9:=by rw [n];exact (c.o.set (j:=0) (by simp)).set (j:=1) (by simp)
      have T:Ov w V9:=by rw [n];exact ((av.o).setCell (by have:=M.o;simp;omega) _).setCell (by have:=M.o;simp;omega) _
      rw [<-n];have d0:=F.row 0 _ rfl;have d1:=F.row 1 _ rfl;refine bodyPost_ret (v:=zj #[zf #[zd la k lc,zd ma mk mc],O zc 0,O zc 0]) (by simp [results,Tryz.results11,go_sem,d0,d1]) rfl ⟨T,?_⟩;rw [show a7=.inl (acc,l) by have h:=HP.o;simpa using h];exact ⟨_,rfl,by
       have h9:=HZ.o V9 fun i h1 h2=>by
        rw [n,Below.heap_setCell _ _ _ _ (by show i≠J;have:=b.o;omega),Below.heap_setCell _ _ _ _ (by show i≠J;have:=b.o;omega)];exact dh.o.block i h2
       rw [eh.o] at h9;exact h9⟩
     ·have bf:(ck == 0)=false:=by simpa using hc0
      go_wp2_with fail;obtain ⟨V9,n⟩:=nm ((w8.setCell ⟨J,0,none⟩ (zd none 0 0)).setCell ⟨J,1,none⟩ (zd none 0 0));have F:Bx J [zd none 0 0,zd none 0 0] V9:=by rw [n];exact (c.o.set (j:=0) (by simp)).set (j:=1) (by simp)
      have T:Ov w V9:=by rw [n];exact ((av.o).setCell (by have:=M.o;simp;omega) _).setCell (by have:=M.o;simp;omega) _
      rw [<-n];have d0:=F.row 0 _ rfl;have d1:=F.row 1 _ rfl;refine bodyPost_ret (v:=zj #[zf #[zd none 0 0,zd none 0 0],O zc 0,O zc ck]) (by simp [results,Tryz.results11,go_sem,d0,d1]) rfl ⟨T,?_⟩;rw [HP.o,if_neg hc0];exact rfl
 ·have hr:a7=.inr ((p:Int),(r:Int))/\r≠0:=by
   rw [HR.o];unfold AV;by_cases h6:s.size<=6000
   ·rw [if_pos h6] at ah ⊢
    obtain ⟨-,rfl,rfl⟩:=ah;have he:¬ AZ s=0:=fun h=>hgood ⟨h6,h⟩;rw [if_neg he];exact ⟨rfl,he⟩
   ·rw [if_neg h6] at ah ⊢
    obtain ⟨-,rfl,rfl⟩:=ah;exact ⟨rfl,by omega⟩
  obtain ⟨ct,fq⟩:=hr;have HP:=Aa ct;have fp:¬ (r:Int)=0:=by omega
  have x0:=c.o.row 0 _ rfl;have x1:=c.o.row 1 _ rfl;have z0:=c.o.fz 0;have z1:=c.o.fz 1;clear A U ah ct hgood;go_wp2_with fail;obtain ⟨V9,n⟩:=nm ((w1.setCell ⟨J,0,none⟩ (zd none 0 0)).setCell ⟨J,1,none⟩ (zd none 0 0));have F:Bx J [zd none 0 0,zd none 0 0] V9:=by rw [n];exact (c.o.set (j:=0) (by simp)).set (j:=1) (by simp)
  have T:Ov w V9:=by rw [n];exact ((bs.o).setCell (by have:=M.o;simp;omega) _).setCell (by have:=M.o;simp;omega) _
  rw [<-n];have d0:=F.row 0 _ rfl;have d1:=F.row 1 _ rfl;refine bodyPost_ret (v:=zj #[zf #[zd none 0 0,zd none 0 0],O zc (p:Int),O zc (r:Int)]) (by simp [results,Tryz.results11,go_sem,d0,d1]) rfl ⟨T,?_⟩;rw [HP.o];exact rfl
end Go.Proofs.YtipngnjffjajpaaGreatDoor.Tx
