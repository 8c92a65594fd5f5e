/- The document's answer: ParseOf of any text. -/
import Derived.Test.YtipngnjffjajpaaGreatDoorI23
import Derived.Test.YtipngnjffjajpaaGreatDoorI11
import Derived.Test.YtipngnjffjajpaaGreatDoorI24
set_option linter.unusedVariables false
set_option maxHeartbeats 8000000
set_option maxRecDepth 100000
namespace Go.Proofs.YtipngnjffjajpaaGreatDoor.Tx
open Go.RowKit
open Go.Value renaming int -> A, slice -> O, bool -> zc, agg -> ze, pointer -> zf, tuple -> zh
open Go.IntKind renaming i64 -> J
open Go.Obj renaming cells -> zd
open Go.Ending renaming returned -> zg
section
variable {rb:Nat} {tv:Value} {ts:List Tok} {en b j:Nat} {s s':Sg} {w V V':World} {u:Value}
structure RqT (w:World) (rb:Nat) (tv:Value) (ts:List Tok) (en:Nat) (s:Sg) (V:World):Prop where
 tk:J3 tv ts w
 hr:w.heap.size<=rb
 st:Sd rb tv ts en s V
 bel:Below w.heap.size w V
theorem RqT.mk' (tk:J3 tv ts w) (hr:w.heap.size<=rb) (hn:s.1<=ts.length) (hb:V.heap[rb]? = some (Obj.cells #[tv,A J (s.1:Int),A J (en:Int),zc s.2] 58 (0,0))) (bel:Below w.heap.size w V):RqT w rb tv ts en s V:=by
 obtain ⟨n,v,g,i,x⟩:=id tk;refine ⟨tk,hr,⟨hb,hn,n,v,g,i,fun f=>?_⟩,bel⟩;obtain ⟨b,a,t,r,q⟩:=M4 (c:=0) tk i f;exact ⟨b,a,t,by omega,fun j u l=>by rw [bel.cell (p:=⟨b,a+j,none⟩) r];exact q j u l⟩
theorem RqT.size (h:RqT w rb tv ts en s V):w.heap.size<=V.heap.size:=h.bel.size
theorem RqT.call (h:RqT w rb tv ts en s V) (hq:Qo rb tv ts en V s s' V'):RqT w rb tv ts en s' V':=
 ⟨h.tk,h.hr,hq.2.1,h.bel.grown hq.1 h.size fun k hk=>by injection hk with hk;rw [<-hk];exact h.hr⟩
theorem RqT.over (h:RqT w rb tv ts en s V) (hb:Ov V V'):RqT w rb tv ts en s V':=⟨h.tk,h.hr,h.st.below hb,h.bel.trans (hb.mono h.size)⟩
theorem RqT.set (h:RqT w rb tv ts en s V) (hb:w.heap.size<=b) (hne:b≠rb):RqT w rb tv ts en s (V.setCell ⟨b,j,none⟩ u):=
 RqT.mk' h.tk h.hr h.st.2.1 (by rw [Below.heap_setCell _ _ _ _ (by show rb≠b;omega)];exact h.st.1) (h.bel.setCell hb u)
theorem RqT.row {B T q k:Nat} {v:Value} {xs:List Value} (h:RqT w rb tv ts en s V) (ho:V.ownsRow B T q v k xs) (hB:rb < B) (hg:V.grownBy V' v.ownBlock):RqT w rb tv ts en s V':=
 RqT.mk' h.tk h.hr h.st.2.1 (by rw [hg.block rb h.st.lt (fun e=>by have:=(AK ho e.symm).1;omega)];exact h.st.1) (h.bel.grown hg h.size fun k hk=>by have:=(AK ho hk).1;have:=h.hr;omega)
theorem F3 (g:Nat) (acc:List D) (s:Sg) (h:s.2=true\/Ba (tl ts s 0)=0):Cd ts en g acc s=(acc,s):=by
 cases g with
 | zero=>rfl
 | succ g=>
  rw [Cd,if_neg];rintro ⟨a,b⟩;rcases h with h | h
  ·rw [h] at a;cases a
  ·exact b h
theorem Jn (g:Nat) (acc:List D) (s:Sg) (h:s.2=false) (h2:¬ Ba (tl ts s 0)=0):Cd ts en (g+1) acc s=Cd ts en g (acc++[(Dt ts en s).1]) (Dt ts en s).2:=by
 rw [Cd,if_pos ⟨h,h2⟩]
theorem LZ:JL ts en=(fun ds:List D × Sg=>(fun m:List D × Sg=>((ds.1,m.1),m.2)) (AU ts (fun s=>AC ts en (2*ts.length+3) [125] [] s) (Af ts [109,97,105,110] ds.2))) (Cd ts en (ts.length+2) [] (0,false)):=rfl
theorem N1 {a a2:Option Addr} {c c2:Nat} {ds l:List D} {W:World} (hall:ts.all Ak=true) {n:Nat} (hp:C3 ts en=.inl ((ds,l),n)) (h1:LS 13 (XD W (2*ts.length+3)) W (O a ds.length c) ds) (h2:LS 12 (XC W (2*ts.length+3)) W (O a2 l.length c2) l):ZT W 61 (2*ts.length+3) (ze #[O a ds.length c,O a2 l.length c2]) ds l:=by
 obtain ⟨i,g⟩:=L6 ts en hall (ds,l) n hp;exact ⟨a,c,a2,c2,rfl,h1.imp fun j d b f=>f.z (i d b),h2.imp fun j d b f=>f.z (g d b)⟩
end
theorem Kj (s:ByteArray) (hs:s.size<=maxLen) (w:World):Calls Tryz.prog 11 #[.string s] w (GM s w):=by
 have f9:s.size<=9223372036854775807:=hs;obtain ⟨a2,bl⟩:=nm (E5 s);unfold GM;rw [<-bl];have HR:=Aa bl;obtain ⟨V,hV⟩:=nm (w.alloc (zd #[O none 0 0,O none 0 0] 25));obtain ⟨H,cf⟩:=nm w.heap.size;have cx:Hx (Ov w V):=by show Ov _ _;rw [hV];exact bA _ _
 have ea:Hx (Bx H [O none 0 0,O none 0 0] V):=by show Bx _ _ _;rw [hV,cf];exact Bx.new w [O none 0 0,O none 0 0] 25
 have K:=Aa cf;have KS:=Aa (I6 s hs V);clear bl hs;go_enter Tryz.func11,Tryz.ntmps11;go_wp2_with fail;rw [<-hV,<-cf];clear hV cf;refine KS.o.mono ?_;rintro e w1 ⟨v,b,p,r,rfl,I,P,a6⟩;have ba:Hx (Ov w w1):=Ab cx.o P;have c:=Aa (ea.o.over P);clear KS ea cx;obtain ⟨va,vn,vc,rfl⟩:=Be I;by_cases hgood:s.size<=6000/\A7 s=0
 ·obtain ⟨h6,he⟩:=hgood
  rw [if_pos h6] at a6;obtain ⟨bj,rfl,hr⟩:=a6;rw [he] at hr;subst hr
  have cd:E5 s=match C3 (Aw s) s.size with
   | .inr m=>.inr (AA (Aw s) s.size m,1)
   | .inl ((ds,l),_)=>if ckT 61 (2*(Aw s).length+3) ds l=0 then .inl (ds,l) else .inr (0,ckT 61 (2*(Aw s).length+3) ds l):=by
   unfold E5;rw [if_pos h6,if_pos he];rfl
  rw [<-bj] at cd;have ai:Hx (b.all Ak=true):=by show _=_;rw [bj];exact FP s h6
  have dz:b.length<=6000:=by rw [bj];exact LV s h6
  have df:=Aa (Lw I dz);have e5:=BV I;have eb:=Aa bj;obtain ⟨en,db⟩:=nm s.size;rw [<-db] at cd;have co:=Aa (HR.o.trans cd);subst e5;obtain ⟨tv,cc⟩:=nm (Value.slice va b.length vc);rw [<-cc] at df;have gc:=Aa cc;obtain ⟨V2,bn⟩:=nm ((w1.alloc (zd #[O va b.length vc,A J 0,A J (en:Int),zc false] 58)).alloc (zd #[O none 0 0,O none 0 0] 25));obtain ⟨rb,bd⟩:=nm w1.heap.size;obtain ⟨bt,ce⟩:=nm (w1.heap.size+1);have dc:Below w1.heap.size w1 V2:=by rw [bn];exact Ab (bA _ _) (bA _ _)
  have f:Hx (H < rb/\bt=rb+1/\w1.heap.size<=rb):=⟨by rw [bd];exact c.o.lt,by rw [ce,bd],by rw [bd];exact Nat.le_refl _⟩;have F:Hx (RqT w1 rb tv b en ((0,false):Sg) V2):=RqT.mk' df.o f.o.2.2 (Nat.zero_le _) (by rw [bn,bd,cc];exact IT (J2 w1 _)) dc;replace c:=Aa (c.o.over dc);have HT:Hx (Bx bt [O none 0 0,O none 0 0] V2):=by
   have h9:=Bx.new (w1.alloc (zd #[O va b.length vc,A J 0,A J (en:Int),zc false] 58)) [O none 0 0,O none 0 0] 25;rw [alS] at h9;show Bx _ _ _;rw [bn,ce];exact h9
  obtain ⟨bb,a4⟩:=nm (Cd b en (b.length+2) [] (0,false));have ec:Hx (JL b en=(fun ds:List D × Sg=>(fun m:List D × Sg=>((ds.1,m.1),m.2)) (AU b (fun s=>AC b en (2*b.length+3) [125] [] s) (Af b [109,97,105,110] ds.2))) bb):=by show _=_;rw [a4];exact LZ
  have a0:=Aa a4;obtain ⟨i0,hi,ez,ey,ex⟩:=info_parts Tryz.infoTD;clear I P cd he bj dc a4 cc df
  go_upto_region 6 with fail
  rw [<-db,<-bn,<-ce,<-bd];clear bn ce bd db;go_wp2_with fail;go_loopw [] (fun wr=>∃ (acc:List D) (s2:Sg) (g:Nat) (la:Option Addr) (k lc:Nat),k=acc.length/\RqT w1 rb tv b en s2 wr/\Bx H [O none 0 0,O none 0 0] wr/\Bx bt [O la k lc,O none 0 0] wr/\Cop (bt+1) 51 13 (fun i cs W=>∀ x,acc[i]? = some x->XD W (2*b.length+3) cs x) k (O la k lc) wr/\Cd b en g acc s2=bb/\(s2.2=true\/b.length - s2.1 < g)/\acc.length+bN s2.2<=s2.1+1) (fun wr=>mQ rb b.length wr)
  case atStart=>exact ⟨[],(0,false),b.length+2,none,0,0,rfl,F.o,c.o,HT.o,Cop.nil,a0.o.symm,Or.inr (by omega),by simp [bN]⟩
  case round=>
   clear F c HT a0;obtain ⟨acc,s2,g,la,k,lc,hk,hd,hx,ht,d2,dv,dy,d4⟩:=hrel;have fg:=Aa (BK b.length hd.st);have fc:s2.1<=b.length:=hd.st.2.1;have F:=Aa hd;have c:=Aa hx;have HT:=Aa ht;have B:=Aa d2;have a0:=Aa dv;have HK:=Aa hk;have HF:Hx ((s2.2=true\/b.length - s2.1 < g)/\acc.length+bN s2.2<=s2.1+1/\acc.length<=6001):=⟨dy,d4,by omega⟩;clear hk hd hx ht d2 dv dy d4 fc;obtain ⟨aj,ac,rc2,S,-,-⟩:=F.o.st.cells
   cases hfl:s2.2 with
   | true=>
    have HE:Hx (bb=(acc,s2)):=by show _=_;rw [<-a0.o];exact F3 _ _ _ (Or.inl hfl)
    rw [hfl] at S;clear hfl;go_wp2_with fail;clear aj ac rc2 S;have Q:=ec.o;rw [HE.o] at Q;dsimp only at Q;obtain ⟨s3,bk⟩:=nm (Af b [109,97,105,110] s2);have KN:=Aa (AD ⟨#[109,97,105,110]⟩ [109,97,105,110] rfl (by decide) s2 _ F.o.st);rw [<-bk] at KN Q;obtain ⟨pl,a5⟩:=nm (AU b (fun s=>AC b en (2*b.length+3) [125] [] s) s3);rw [<-a5] at Q;have bs:=Aa a5;obtain ⟨l,s4⟩:=pl;dsimp only at Q;have dg:=Aa Q;clear Q bk a5 HE;go_wp2_with fail;refine KN.o.mono ?_;rintro e w5 ⟨rfl,U⟩;have R:=U.1;replace c:=Aa (c.o.keep R (by have:=f.o;omega));replace HT:=Aa (HT.o.keep R (by have:=f.o;omega));replace B:=Aa (B.o.keep R (by have:=f.o;omega));replace F:=Aa (F.o.call U);clear R U KN;have KL:=Aa (EU (2*b.length+3) (Hp (rb:=rb) (tv:=tv) (en:=en) ai.o (2*b.length+3)).1 s3 _ F.o.st (Or.inr (by omega)));rw [<-bs.o] at KL;obtain ⟨z,hz⟩:=nm w5.heap.size;have br:Hx (bt < z):=by show _ < _;rw [hz];exact HT.o.lt
    go_wp2_with fail;refine KL.o.mono ?_;rintro e w6 ⟨ma,mc,rfl,C,-,U⟩;dsimp only at C U;rw [<-hz] at C;obtain ⟨mk,ap⟩:=nm l.length;rw [<-ap] at C;try dsimp only
    rw [<-ap];have R:=U.1;replace c:=Aa (c.o.keep R (by have:=f.o;omega));replace HT:=Aa (HT.o.keep R (by have:=f.o;omega));replace B:=Aa (B.o.keep R (by have:=f.o;omega));replace F:=Aa (F.o.call U);have ar:=Aa C;have bu:=Aa ap;clear R U KL C ap hz bs;have c5:=HT.o.row 0 _ rfl;have c4:=HT.o.row 1 _ rfl;have da:=HT.o.fz 1;obtain ⟨Y,G⟩:=nm (w6.setCell ⟨bt,1,none⟩ (O ma mk mc));replace HT:Hx (Bx bt [O la k lc,O ma mk mc] Y):=by show Bx _ _ _;rw [G];exact HT.o.set (j:=1) (by simp)
    replace c:Hx (Bx H [O none 0 0,O none 0 0] Y):=by show Bx _ _ _;rw [G];exact c.o.far (by have:=f.o;omega)
    replace F:Hx (RqT w1 rb tv b en s4 Y):=by show RqT _ _ _ _ _ _ _;rw [G];exact F.o.set (by have:=f.o;omega) (by have:=f.o;omega)
    replace B:Hx (Cop (bt+1) 51 13 (fun i cs W=>∀ x,acc[i]? = some x->XD W (2*b.length+3) cs x) k (O la k lc) Y):=by show Cop _ _ _ _ _ _ _;rw [G];exact B.o.set (Nat.lt_succ_self _)
    replace ar:Hx (Off z none Y (fun W=>LS 12 (XC W (2*b.length+3)) W (O ma mk mc) l)):=by show Off _ _ _ _;rw [G];exact ar.o.set br.o
    go_upto_region 12 with fail
    rw [<-G];clear c5 c4 da G;have a:=H8 b en (En ai.o);rw [dg.o] at a;obtain ⟨aj,ac,rc2,S,-,-⟩:=F.o.st.cells;obtain ⟨n4,f4⟩:=s4;dsimp only at ac S a;by_cases hbad:f4=true\/n4 < b.length
    ·have M:C3 b en=.inr n4:=by
      revert a
      cases hp:C3 b en with
      | inl q=>
       obtain ⟨q1,q2⟩:=q;intro a;obtain ⟨E,e2⟩:=a;injection E with E e3;injection e3 with e3 e4;rcases hbad with h | h
       ·rw [h] at e4;cases e4
       ·rw [e3] at h;exact absurd h e2
      | inr m=>
       intro a;rcases a with E | ⟨E,-⟩ <;> (injection E with E e2;rw [E])
     have HP:Hx (a2=.inr (AA b en n4,1)):=by show _=_;rw [co.o,M]
     have KH:Hx (Ro 28 #[zf (some ⟨rb,0,none⟩)] Y (A J (AA b en n4))):=B5 (n4,f4) _ F.o.st;obtain ⟨ps,bm⟩:=nm (AA b en n4);rw [<-bm] at KH HP;clear a M bm
     cases f4 with
     | true=>
      clear hbad;go_wp2_with fail;refine KH.o.mono ?_;rintro e w8 ⟨rfl,P⟩;replace c:=Aa (c.o.over P);have ab:Hx (Ov w w8):=Ab (Ab ba.o F.o.bel) P;clear KH P aj ac rc2 S;have x0:=c.o.row 0 _ rfl;have x1:=c.o.row 1 _ rfl;have z0:=c.o.fz 0;have z1:=c.o.fz 1;go_wp2_with fail;obtain ⟨Z,n⟩:=nm ((w8.setCell ⟨H,0,none⟩ (O none 0 0)).setCell ⟨H,1,none⟩ (O none 0 0));have t:Bx H [O none 0 0,O none 0 0] Z:=by rw [n];exact (c.o.set (j:=0) (by simp)).set (j:=1) (by simp)
      have N:Ov w Z:=by rw [n];exact ((ab.o).setCell (by have:=K.o;simp;omega) _).setCell (by have:=K.o;simp;omega) _
      rw [<-n];have d0:=t.row 0 _ rfl;have d1:=t.row 1 _ rfl;refine bodyPost_ret (v:=zh #[ze #[O none 0 0,O none 0 0],A J ps,A J 1]) (by simp [results,Tryz.results11,go_sem,d0,d1]) rfl ⟨N,?_⟩;rw [HP.o];exact rfl
     | false=>
      have T:n4 < b.length:=hbad.elim (fun h=>by cases h) id;have af:(n4:Int) < (b.length:Int):=by omega
      clear hbad;generalize b.length=tl0 at *;go_wp2_with fail;refine KH.o.mono ?_;rintro e w8 ⟨rfl,P⟩;replace c:=Aa (c.o.over P);have ab:Hx (Ov w w8):=Ab (Ab ba.o F.o.bel) P;clear KH P aj ac rc2 S;have x0:=c.o.row 0 _ rfl;have x1:=c.o.row 1 _ rfl;have z0:=c.o.fz 0;have z1:=c.o.fz 1;go_wp2_with fail;obtain ⟨Z,n⟩:=nm ((w8.setCell ⟨H,0,none⟩ (O none 0 0)).setCell ⟨H,1,none⟩ (O none 0 0));have t:Bx H [O none 0 0,O none 0 0] Z:=by rw [n];exact (c.o.set (j:=0) (by simp)).set (j:=1) (by simp)
      have N:Ov w Z:=by rw [n];exact ((ab.o).setCell (by have:=K.o;simp;omega) _).setCell (by have:=K.o;simp;omega) _
      rw [<-n];have d0:=t.row 0 _ rfl;have d1:=t.row 1 _ rfl;refine bodyPost_ret (v:=zh #[ze #[O none 0 0,O none 0 0],A J ps,A J 1]) (by simp [results,Tryz.results11,go_sem,d0,d1]) rfl ⟨N,?_⟩;rw [HP.o];exact rfl
    ·have hf:f4=false:=by cases f4 with
      | true=>exact absurd (Or.inl rfl) hbad
      | false=>rfl
     subst hf;have T:¬ n4 < b.length:=fun h=>hbad (Or.inr h);have af:¬ (n4:Int) < (b.length:Int):=by omega
     have M:∃ q,C3 b en=.inl ((acc,l),q):=by
      revert a
      cases hp:C3 b en with
      | inl q=>
       obtain ⟨q1,q2⟩:=q;intro a;obtain ⟨E,-⟩:=a;injection E with E e2;exact ⟨q2,by rw [E]⟩
      | inr m=>
       intro a;rcases a with E | ⟨E,e2⟩
       ·injection E with E e3;cases e3
       ·injection E with E e3;rw [<-E] at e2;exact absurd e2 T
     obtain ⟨qn,M⟩:=M;obtain ⟨ck,aq⟩:=nm (ckT 61 (2*b.length+3) acc l);have HP:Hx (a2=if ck=0 then .inl (acc,l) else .inr (0,ck)):=by show _=_;rw [co.o,M,aq]
     have al:Hx (Off (bt+1) none Y (fun W=>LS 13 (XD W (2*b.length+3)) W (O la k lc) acc)):=by
      have hc:=B.o;rw [HK.o] at hc;obtain ⟨a9,c9,c3,c6⟩:=Cop.ls hc (by decide) (by have h1:=HF.o;omega);injection c3 with v1 v2 v3;exact c6.imp fun W hW=>by rw [HK.o,v1,v3];exact hW
     have HZ:Hx (∀ W:World,(∀ i,bt+1<=i->i < Y.heap.size->W.heap[i]? = Y.heap[i]?)->ZT W 61 (2*b.length+3) (ze #[O la k lc,O ma mk mc]) acc l):=fun W hW=>by
      have h1:=al.o W fun i h1 h2 _=>hW i h1 h2;have h2:=ar.o W fun i h3 h4 _=>hW i (by have:=br.o;omega) h4;rw [HK.o] at h1;rw [bu.o] at h2;rw [HK.o,bu.o];exact N1 ai.o M h1 h2
     have KC:Hx (∀ X,Ov Y X->Ro 15 #[ze #[O la k lc,O ma mk mc]] X (A J ck)):=fun X hX=>by
      rw [aq];exact DN 61 _ acc l _ X ((HZ.o Y fun _ _ _=>rfl).over hX)
     clear a hbad M aq ar al B;have au:=HT.o.row 0 _ rfl;have bi:=HT.o.row 1 _ rfl;generalize b.length=tl0 at af T ⊢;go_wp2_with fail;refine (KC.o _ (Below.refl _ _)).mono ?_;rintro e w8 ⟨rfl,P⟩;replace c:=Aa (c.o.over P);replace HT:=Aa (HT.o.over P);have bw:=Aa P;have ab:Hx (Ov w w8):=Ab (Ab ba.o F.o.bel) P;clear KC P au bi aj ac rc2 S T af;have x0:=c.o.row 0 _ rfl;have x1:=c.o.row 1 _ rfl;have z0:=c.o.fz 0;have z1:=c.o.fz 1;have au:=HT.o.row 0 _ rfl;have bi:=HT.o.row 1 _ rfl;have et:H≠bt:=by have:=f.o;omega
     have es:bt≠H:=by have:=f.o;omega
     by_cases hc0:ck=0
     ·subst hc0
      go_wp2_with fail;obtain ⟨Z,n⟩:=nm ((w8.setCell ⟨H,0,none⟩ (O la k lc)).setCell ⟨H,1,none⟩ (O ma mk mc));have t:Bx H [O la k lc,O ma mk mc] Z:=by rw [n];exact (c.o.set (j:=0) (by simp)).set (j:=1) (by simp)
      have N:Ov w Z:=by rw [n];exact ((ab.o).setCell (by have:=K.o;simp;omega) _).setCell (by have:=K.o;simp;omega) _
      rw [<-n];have d0:=t.row 0 _ rfl;have d1:=t.row 1 _ rfl;refine bodyPost_ret (v:=zh #[ze #[O la k lc,O ma mk mc],A J 0,A J 0]) (by simp [results,Tryz.results11,go_sem,d0,d1]) rfl ⟨N,?_⟩;rw [show a2=.inl (acc,l) by have h:=HP.o;simpa using h];exact ⟨_,rfl,by
       have h9:=HZ.o Z fun i h1 h2=>by
        rw [n,Below.heap_setCell _ _ _ _ (by show i≠H;have:=f.o;omega),Below.heap_setCell _ _ _ _ (by show i≠H;have:=f.o;omega)];exact bw.o.block i h2
       rw [eb.o] at h9;exact h9⟩
     ·have aq:(ck == 0)=false:=by simpa using hc0
      go_wp2_with fail;obtain ⟨Z,n⟩:=nm ((w8.setCell ⟨H,0,none⟩ (O none 0 0)).setCell ⟨H,1,none⟩ (O none 0 0));have t:Bx H [O none 0 0,O none 0 0] Z:=by rw [n];exact (c.o.set (j:=0) (by simp)).set (j:=1) (by simp)
      have N:Ov w Z:=by rw [n];exact ((ab.o).setCell (by have:=K.o;simp;omega) _).setCell (by have:=K.o;simp;omega) _
      rw [<-n];have d0:=t.row 0 _ rfl;have d1:=t.row 1 _ rfl;refine bodyPost_ret (v:=zh #[ze #[O none 0 0,O none 0 0],A J 0,A J ck]) (by simp [results,Tryz.results11,go_sem,d0,d1]) rfl ⟨N,?_⟩;rw [HP.o,if_neg hc0];exact rfl
   | false=>
    rw [hfl] at S;have dh:=Aa hfl;have KD:=Aa (OJ (rb:=rb) (tv:=tv) (en:=en) ai.o s2 _ F.o.st hfl);clear hfl;go_wp2_with fail;clear aj ac rc2 S;refine KD.o.mono ?_;rintro e w3 ⟨c7,cz⟩;by_cases hk0:Ba (tl b s2 0)=0
    ·obtain ⟨⟨kd,a9,x,y,gv,l0,l1,l2,p0,p1,p2,c0,c1,c2,e0,E,e2,e3,q0,q1,q2,rfl⟩,U⟩:=c7 hk0
     have HE:Hx (bb=(acc,s2)):=by show _=_;rw [<-a0.o];exact F3 _ _ _ (Or.inr hk0)
     obtain ⟨W4,ax⟩:=nm (w3.alloc (zd #[A J kd,A J a9,.string x,.string y,zc gv,O l0 l1 l2,O p0 p1 p2,O c0 c1 c2,A J e0,A J E,A J e2,.string e3,O q0 q1 q2] 51));have ad:Ov w3 W4:=by rw [ax];exact bA _ _
     have R:=U.1;replace c:=Aa ((c.o.keep R (by have:=f.o;omega)).over ad);replace HT:=Aa ((HT.o.keep R (by have:=f.o;omega)).over ad);replace B:=Aa ((B.o.keep R (by have:=f.o;omega)).over ad);replace F:=Aa ((F.o.call U).over ad);clear R U ad c7 cz KD hk0
     go_upto_region 10 with fail
     rw [<-ax];clear ax;have Q:=ec.o;rw [HE.o] at Q;dsimp only at Q;obtain ⟨s3,bk⟩:=nm (Af b [109,97,105,110] s2);have KN:=Aa (AD ⟨#[109,97,105,110]⟩ [109,97,105,110] rfl (by decide) s2 _ F.o.st);rw [<-bk] at KN Q;obtain ⟨pl,a5⟩:=nm (AU b (fun s=>AC b en (2*b.length+3) [125] [] s) s3);rw [<-a5] at Q;have bs:=Aa a5;obtain ⟨l,s4⟩:=pl;dsimp only at Q;have dg:=Aa Q;clear Q bk a5 HE;go_wp2_with fail;refine KN.o.mono ?_;rintro e w5 ⟨rfl,U⟩;have R:=U.1;replace c:=Aa (c.o.keep R (by have:=f.o;omega));replace HT:=Aa (HT.o.keep R (by have:=f.o;omega));replace B:=Aa (B.o.keep R (by have:=f.o;omega));replace F:=Aa (F.o.call U);clear R U KN;have KL:=Aa (EU (2*b.length+3) (Hp (rb:=rb) (tv:=tv) (en:=en) ai.o (2*b.length+3)).1 s3 _ F.o.st (Or.inr (by omega)));rw [<-bs.o] at KL;obtain ⟨z,hz⟩:=nm w5.heap.size;have br:Hx (bt < z):=by show _ < _;rw [hz];exact HT.o.lt
     go_wp2_with fail;refine KL.o.mono ?_;rintro e w6 ⟨ma,mc,rfl,C,-,U⟩;dsimp only at C U;rw [<-hz] at C;obtain ⟨mk,ap⟩:=nm l.length;rw [<-ap] at C;try dsimp only
     rw [<-ap];have R:=U.1;replace c:=Aa (c.o.keep R (by have:=f.o;omega));replace HT:=Aa (HT.o.keep R (by have:=f.o;omega));replace B:=Aa (B.o.keep R (by have:=f.o;omega));replace F:=Aa (F.o.call U);have ar:=Aa C;have bu:=Aa ap;clear R U KL C ap hz bs;have c5:=HT.o.row 0 _ rfl;have c4:=HT.o.row 1 _ rfl;have da:=HT.o.fz 1;obtain ⟨Y,G⟩:=nm (w6.setCell ⟨bt,1,none⟩ (O ma mk mc));replace HT:Hx (Bx bt [O la k lc,O ma mk mc] Y):=by show Bx _ _ _;rw [G];exact HT.o.set (j:=1) (by simp)
     replace c:Hx (Bx H [O none 0 0,O none 0 0] Y):=by show Bx _ _ _;rw [G];exact c.o.far (by have:=f.o;omega)
     replace F:Hx (RqT w1 rb tv b en s4 Y):=by show RqT _ _ _ _ _ _ _;rw [G];exact F.o.set (by have:=f.o;omega) (by have:=f.o;omega)
     replace B:Hx (Cop (bt+1) 51 13 (fun i cs W=>∀ x,acc[i]? = some x->XD W (2*b.length+3) cs x) k (O la k lc) Y):=by show Cop _ _ _ _ _ _ _;rw [G];exact B.o.set (Nat.lt_succ_self _)
     replace ar:Hx (Off z none Y (fun W=>LS 12 (XC W (2*b.length+3)) W (O ma mk mc) l)):=by show Off _ _ _ _;rw [G];exact ar.o.set br.o
     go_upto_region 12 with fail
     rw [<-G];clear c5 c4 da G;have a:=H8 b en (En ai.o);rw [dg.o] at a;obtain ⟨aj,ac,rc2,S,-,-⟩:=F.o.st.cells;obtain ⟨n4,f4⟩:=s4;dsimp only at ac S a;by_cases hbad:f4=true\/n4 < b.length
     ·have M:C3 b en=.inr n4:=by
       revert a
       cases hp:C3 b en with
       | inl q=>
        obtain ⟨q1,q2⟩:=q;intro a;obtain ⟨E,e2⟩:=a;injection E with E e3;injection e3 with e3 e4;rcases hbad with h | h
        ·rw [h] at e4;cases e4
        ·rw [e3] at h;exact absurd h e2
       | inr m=>
        intro a;rcases a with E | ⟨E,-⟩ <;> (injection E with E e2;rw [E])
      have HP:Hx (a2=.inr (AA b en n4,1)):=by show _=_;rw [co.o,M]
      have KH:Hx (Ro 28 #[zf (some ⟨rb,0,none⟩)] Y (A J (AA b en n4))):=B5 (n4,f4) _ F.o.st;obtain ⟨ps,bm⟩:=nm (AA b en n4);rw [<-bm] at KH HP;clear a M bm
      cases f4 with
      | true=>
       clear hbad;go_wp2_with fail;refine KH.o.mono ?_;rintro e w8 ⟨rfl,P⟩;replace c:=Aa (c.o.over P);have ab:Hx (Ov w w8):=Ab (Ab ba.o F.o.bel) P;clear KH P aj ac rc2 S;have x0:=c.o.row 0 _ rfl;have x1:=c.o.row 1 _ rfl;have z0:=c.o.fz 0;have z1:=c.o.fz 1;go_wp2_with fail;obtain ⟨Z,n⟩:=nm ((w8.setCell ⟨H,0,none⟩ (O none 0 0)).setCell ⟨H,1,none⟩ (O none 0 0));have t:Bx H [O none 0 0,O none 0 0] Z:=by rw [n];exact (c.o.set (j:=0) (by simp)).set (j:=1) (by simp)
       have N:Ov w Z:=by rw [n];exact ((ab.o).setCell (by have:=K.o;simp;omega) _).setCell (by have:=K.o;simp;omega) _
       rw [<-n];have d0:=t.row 0 _ rfl;have d1:=t.row 1 _ rfl;refine bodyPost_ret (v:=zh #[ze #[O none 0 0,O none 0 0],A J ps,A J 1]) (by simp [results,Tryz.results11,go_sem,d0,d1]) rfl ⟨N,?_⟩;rw [HP.o];exact rfl
      | false=>
       have T:n4 < b.length:=hbad.elim (fun h=>by cases h) id;have af:(n4:Int) < (b.length:Int):=by omega
       clear hbad;generalize b.length=tl0 at *;go_wp2_with fail;refine KH.o.mono ?_;rintro e w8 ⟨rfl,P⟩;replace c:=Aa (c.o.over P);have ab:Hx (Ov w w8):=Ab (Ab ba.o F.o.bel) P;clear KH P aj ac rc2 S;have x0:=c.o.row 0 _ rfl;have x1:=c.o.row 1 _ rfl;have z0:=c.o.fz 0;have z1:=c.o.fz 1;go_wp2_with fail;obtain ⟨Z,n⟩:=nm ((w8.setCell ⟨H,0,none⟩ (O none 0 0)).setCell ⟨H,1,none⟩ (O none 0 0));have t:Bx H [O none 0 0,O none 0 0] Z:=by rw [n];exact (c.o.set (j:=0) (by simp)).set (j:=1) (by simp)
       have N:Ov w Z:=by rw [n];exact ((ab.o).setCell (by have:=K.o;simp;omega) _).setCell (by have:=K.o;simp;omega) _
       rw [<-n];have d0:=t.row 0 _ rfl;have d1:=t.row 1 _ rfl;refine bodyPost_ret (v:=zh #[ze #[O none 0 0,O none 0 0],A J ps,A J 1]) (by simp [results,Tryz.results11,go_sem,d0,d1]) rfl ⟨N,?_⟩;rw [HP.o];exact rfl
     ·have hf:f4=false:=by cases f4 with
       | true=>exact absurd (Or.inl rfl) hbad
       | false=>rfl
      subst hf;have T:¬ n4 < b.length:=fun h=>hbad (Or.inr h);have af:¬ (n4:Int) < (b.length:Int):=by omega
      have M:∃ q,C3 b en=.inl ((acc,l),q):=by
       revert a
       cases hp:C3 b en with
       | inl q=>
        obtain ⟨q1,q2⟩:=q;intro a;obtain ⟨E,-⟩:=a;injection E with E e2;exact ⟨q2,by rw [E]⟩
       | inr m=>
        intro a;rcases a with E | ⟨E,e2⟩
        ·injection E with E e3;cases e3
        ·injection E with E e3;rw [<-E] at e2;exact absurd e2 T
      obtain ⟨qn,M⟩:=M;obtain ⟨ck,aq⟩:=nm (ckT 61 (2*b.length+3) acc l);have HP:Hx (a2=if ck=0 then .inl (acc,l) else .inr (0,ck)):=by show _=_;rw [co.o,M,aq]
      have al:Hx (Off (bt+1) none Y (fun W=>LS 13 (XD W (2*b.length+3)) W (O la k lc) acc)):=by
       have hc:=B.o;rw [HK.o] at hc;obtain ⟨a9,c9,c3,c6⟩:=Cop.ls hc (by decide) (by have h1:=HF.o;omega);injection c3 with v1 v2 v3;exact c6.imp fun W hW=>by rw [HK.o,v1,v3];exact hW
      have HZ:Hx (∀ W:World,(∀ i,bt+1<=i->i < Y.heap.size->W.heap[i]? = Y.heap[i]?)->ZT W 61 (2*b.length+3) (ze #[O la k lc,O ma mk mc]) acc l):=fun W hW=>by
       have h1:=al.o W fun i h1 h2 _=>hW i h1 h2;have h2:=ar.o W fun i h3 h4 _=>hW i (by have:=br.o;omega) h4;rw [HK.o] at h1;rw [bu.o] at h2;rw [HK.o,bu.o];exact N1 ai.o M h1 h2
      have KC:Hx (∀ X,Ov Y X->Ro 15 #[ze #[O la k lc,O ma mk mc]] X (A J ck)):=fun X hX=>by
       rw [aq];exact DN 61 _ acc l _ X ((HZ.o Y fun _ _ _=>rfl).over hX)
      clear a hbad M aq ar al B;have au:=HT.o.row 0 _ rfl;have bi:=HT.o.row 1 _ rfl;generalize b.length=tl0 at af T ⊢;go_wp2_with fail;refine (KC.o _ (Below.refl _ _)).mono ?_;rintro e w8 ⟨rfl,P⟩;replace c:=Aa (c.o.over P);replace HT:=Aa (HT.o.over P);have bw:=Aa P;have ab:Hx (Ov w w8):=Ab (Ab ba.o F.o.bel) P;clear KC P au bi aj ac rc2 S T af;have x0:=c.o.row 0 _ rfl;have x1:=c.o.row 1 _ rfl;have z0:=c.o.fz 0;have z1:=c.o.fz 1;have au:=HT.o.row 0 _ rfl;have bi:=HT.o.row 1 _ rfl;have et:H≠bt:=by have:=f.o;omega
      have es:bt≠H:=by have:=f.o;omega
      by_cases hc0:ck=0
      ·subst hc0
       go_wp2_with fail;obtain ⟨Z,n⟩:=nm ((w8.setCell ⟨H,0,none⟩ (O la k lc)).setCell ⟨H,1,none⟩ (O ma mk mc));have t:Bx H [O la k lc,O ma mk mc] Z:=by rw [n];exact (c.o.set (j:=0) (by simp)).set (j:=1) (by simp)
       have N:Ov w Z:=by rw [n];exact ((ab.o).setCell (by have:=K.o;simp;omega) _).setCell (by have:=K.o;simp;omega) _
       rw [<-n];have d0:=t.row 0 _ rfl;have d1:=t.row 1 _ rfl;refine bodyPost_ret (v:=zh #[ze #[O la k lc,O ma mk mc],A J 0,A J 0]) (by simp [results,Tryz.results11,go_sem,d0,d1]) rfl ⟨N,?_⟩;rw [show a2=.inl (acc,l) by have h:=HP.o;simpa using h];exact ⟨_,rfl,by
        have h9:=HZ.o Z fun i h1 h2=>by
         rw [n,Below.heap_setCell _ _ _ _ (by show i≠H;have:=f.o;omega),Below.heap_setCell _ _ _ _ (by show i≠H;have:=f.o;omega)];exact bw.o.block i h2
        rw [eb.o] at h9;exact h9⟩
      ·have aq:(ck == 0)=false:=by simpa using hc0
       go_wp2_with fail;obtain ⟨Z,n⟩:=nm ((w8.setCell ⟨H,0,none⟩ (O none 0 0)).setCell ⟨H,1,none⟩ (O none 0 0));have t:Bx H [O none 0 0,O none 0 0] Z:=by rw [n];exact (c.o.set (j:=0) (by simp)).set (j:=1) (by simp)
       have N:Ov w Z:=by rw [n];exact ((ab.o).setCell (by have:=K.o;simp;omega) _).setCell (by have:=K.o;simp;omega) _
       rw [<-n];have d0:=t.row 0 _ rfl;have d1:=t.row 1 _ rfl;refine bodyPost_ret (v:=zh #[ze #[O none 0 0,O none 0 0],A J 0,A J ck]) (by simp [results,Tryz.results11,go_sem,d0,d1]) rfl ⟨N,?_⟩;rw [HP.o,if_neg hc0];exact rfl
    ·obtain ⟨kd,a9,x,y,gv,l0,l1,l2,p0,p1,p2,c0,c1,c2,e0,E,e2,e3,q0,q1,q2,rfl,C,T,U⟩:=cz hk0
     obtain ⟨g,rfl⟩:∃ g',g=g' + 1:=⟨g - 1,by have h1:=HF.o.1;rw [dh.o] at h1;simp at h1;omega⟩;have hr:=a0.o;rw [Jn _ _ _ dh.o hk0] at hr;obtain ⟨pd,dx⟩:=nm (Dt b en s2);rw [<-dx] at hr C T U;obtain ⟨d,s4⟩:=pd;dsimp only at hr C T U;replace a0:=Aa hr;obtain ⟨W4,ax⟩:=nm (w3.alloc (zd #[A J kd,A J a9,.string x,.string y,zc gv,O l0 l1 l2,O p0 p1 p2,O c0 c1 c2,A J e0,A J E,A J e2,.string e3,O q0 q1 q2] 51));have ad:Ov w3 W4:=by rw [ax];exact bA _ _
     have ee:Hx (Bx w3.heap.size [A J kd,A J a9,.string x,.string y,zc gv,O l0 l1 l2,O p0 p1 p2,O c0 c1 c2,A J e0,A J E,A J e2,.string e3,O q0 q1 q2] W4):=by show Bx _ _ _;rw [ax];exact Bx.new w3 [A J kd,A J a9,.string x,.string y,zc gv,O l0 l1 l2,O p0 p1 p2,O c0 c1 c2,A J e0,A J E,A J e2,.string e3,O q0 q1 q2] 51
     have R:=U.1;have cv:Hx (∀ q,(Value.slice la k lc).ownBlock=some q->q < wr.heap.size):=fun q R=>by
      obtain ⟨ys,h1,-⟩:=B.o;exact (AK h1 R).2
     have ff:Hx (bt+1<=wr.heap.size):=HT.o.lt;replace c:=Aa ((c.o.keep R (by have:=f.o;omega)).over ad);replace HT:=Aa ((HT.o.keep R (by have:=f.o;omega)).over ad);replace B:=Aa ((B.o.keep R (by have:=f.o;omega)).over ad);replace F:=Aa ((F.o.call U).over ad);have al:=Aa (C.over ad);have ef:=Aa T;have fh:=Aa U.2.2;clear R U ad c7 cz KD hk0 C T dx hr
     go_upto_region 9 with fail
     rw [<-ax];clear ax;obtain ⟨W5,bf⟩:=nm (W4.alloc (zd #[A J kd,A J a9,.string x,.string y,zc gv,O l0 l1 l2,O p0 p1 p2,O c0 c1 c2,A J e0,A J E,A J e2,.string e3,O q0 q1 q2] 51));have be:Ov W4 W5:=by rw [bf];exact bA _ _
     have ed:Hx (Ac [A J kd,A J a9,.string x,.string y,zc gv,O l0 l1 l2,O p0 p1 p2,O c0 c1 c2,A J e0,A J E,A J e2,.string e3,O q0 q1 q2] W5 W4.heap.size):=by show Ac _ _ _;rw [bf];exact Ai W4 [A J kd,A J a9,.string x,.string y,zc gv,O l0 l1 l2,O p0 p1 p2,O c0 c1 c2,A J e0,A J E,A J e2,.string e3,O q0 q1 q2] 51
     obtain ⟨n0,n1,n2,n3,n4,n5,n6,n7,n8,n9,ew,ev,eu⟩:=Ah ee.o.row;have au:=HT.o.row 0 _ rfl;have dq:=HT.o.fz 0;replace c:=Aa (c.o.over be);replace HT:=Aa (HT.o.over be);replace B:=Aa (B.o.over be);replace F:=Aa (F.o.over be);replace al:=Aa (al.o.over be);obtain ⟨xs,I,cq⟩:=B.o;have d5:bt+1<=W5.heap.size:=HT.o.lt;have e8:k<=6001:=by have h1:=HF.o;have h2:=HK.o;omega
     have cw:=Aa cq;clear cq be B ee;go_wp2_with (at_builtin;(try rw [<-bf]);refine wpList_append_own_at _ rfl _ _ 22 rfl (bt+1) 51 i0 (ze #[A J 0,A J 0,.string ⟨#[]⟩,.string ⟨#[]⟩,zc false,O none 0 0,O none 0 0,O none 0 0,A J 0,A J 0,A J 0,.string ⟨#[]⟩,O none 0 0]) 13 192 Tryz.underlying22 hi ez ey ex rfl (by decide) _ _ _ rfl I ⟨W4.heap.size,0,none⟩ 1 1 [A J kd,A J a9,.string x,.string y,zc gv,O l0 l1 l2,O p0 p1 p2,O c0 c1 c2,A J e0,A J E,A J e2,.string e3,O q0 q1 q2] rfl rfl (fun jj u hu=>by rw [Addr.add_lit,Nat.zero_add];exact ed.o jj u hu) (by simp [Value.oneCell']) (by unfold maxLen;omega) (by omega) d5 ?_);intro v2 W6 ao am _ cg;rw [<-bf] at am;have du:W5.heap.size=W4.heap.size+1:=by rw [bf];simp
     replace cg:v2.ownBlock=(Value.slice la k lc).ownBlock\/v2.ownBlock=some W5.heap.size:=by rw [du];simpa using cg
     have cr:Cop (bt+1) 51 13 (fun i cs W=>∀ x,(acc++[d])[i]? = some x->XD W (2*b.length+3) cs x) (k+1) v2 W6:=Cop.add (B1:=wr.heap.size) I (fun i hi=>by
       obtain ⟨ds,z1,z2,z3⟩:=cw.o i hi;exact ⟨ds,z1,z2,z3.imp fun W hW x hx=>hW x (by rw [List.getElem?_append_left (by rw [<-HK.o];exact hi)] at hx;exact hx)⟩) rfl (al.o.imp fun W hW x hx=>by
        rw [List.getElem?_append_right (by rw [HK.o];exact Nat.le_refl _),HK.o,Nat.sub_self] at hx;injection hx with hx;rw [<-hx];exact hW) ff.o cv.o ao am cg
     replace F:=Aa (F.o.row I (by have:=f.o;omega) am);replace c:=Aa (c.o.grown am (fun e=>by have h1:=(AK I e.symm).1;have h2:=f.o;omega));replace HT:=Aa (HT.o.grown am (fun e=>by have h1:=(AK I e.symm).1;omega));obtain ⟨b3,fp,b2,e6⟩:=Be ao;subst e6;obtain rfl:=BV ao;have bv:=Aa cr;clear cr I ao am cg d5 du bf au dq n0 n1 n2 n3 n4 n5 n6 n7 n8 n9 ew ev eu cw cv e8 al ed;have au:=HT.o.row 0 _ rfl;have dq:=HT.o.fz 0;obtain ⟨Y,G⟩:=nm (W6.setCell ⟨bt,0,none⟩ (O b3 (k+1) b2));replace HT:Hx (Bx bt [O b3 (k+1) b2,O none 0 0] Y):=by show Bx _ _ _;rw [G];exact HT.o.set (j:=0) (by simp)
     replace c:Hx (Bx H [O none 0 0,O none 0 0] Y):=by show Bx _ _ _;rw [G];exact c.o.far (by have:=f.o;omega)
     replace F:Hx (RqT w1 rb tv b en s4 Y):=by show RqT _ _ _ _ _ _ _;rw [G];exact F.o.set (by have:=f.o;omega) (by have:=f.o;omega)
     replace bv:Hx (Cop (bt+1) 51 13 (fun i cs W=>∀ x,(acc++[d])[i]? = some x->XD W (2*b.length+3) cs x) (k+1) (O b3 (k+1) b2) Y):=by show Cop _ _ _ _ _ _ _;rw [G];exact bv.o.set (Nat.lt_succ_self _)
     go_wp2_with fail;rw [<-G];have e7:=BK b.length F.o.st;have c8:=BE (L:=b.length) (k:=acc.length) (g:=g) (s:=s2) (s4:=s4) HF.o.1 dh.o HF.o.2.1 fh.o ef.o F.o.st.2.1;exact ⟨⟨acc++[d],s4,g,b3,k+1,b2,by rw [List.length_append,HK.o];rfl,F.o,c.o,HT.o,bv.o,a0.o,c8.1,by rw [List.length_append];exact c8.2.1⟩,by rw [e7,fg.o];exact c8.2.2⟩
 ·have hr:a2=.inr ((p:Int),(r:Int))/\r≠0:=by
   rw [HR.o];unfold E5;by_cases h6:s.size<=6000
   ·rw [if_pos h6] at a6 ⊢
    obtain ⟨-,rfl,rfl⟩:=a6;have he:¬ A7 s=0:=fun h=>hgood ⟨h6,h⟩;rw [if_neg he];exact ⟨rfl,he⟩
   ·rw [if_neg h6] at a6 ⊢
    obtain ⟨-,rfl,rfl⟩:=a6;exact ⟨rfl,by omega⟩
  obtain ⟨dw,f8⟩:=hr;have HP:=Aa dw;have f7:¬ (r:Int)=0:=by omega
  have x0:=c.o.row 0 _ rfl;have x1:=c.o.row 1 _ rfl;have z0:=c.o.fz 0;have z1:=c.o.fz 1;clear I P a6 dw hgood;go_wp2_with fail;obtain ⟨Z,n⟩:=nm ((w1.setCell ⟨H,0,none⟩ (O none 0 0)).setCell ⟨H,1,none⟩ (O none 0 0));have t:Bx H [O none 0 0,O none 0 0] Z:=by rw [n];exact (c.o.set (j:=0) (by simp)).set (j:=1) (by simp)
  have N:Ov w Z:=by rw [n];exact ((ba.o).setCell (by have:=K.o;simp;omega) _).setCell (by have:=K.o;simp;omega) _
  rw [<-n];have d0:=t.row 0 _ rfl;have d1:=t.row 1 _ rfl;refine bodyPost_ret (v:=zh #[ze #[O none 0 0,O none 0 0],A J (p:Int),A J (r:Int)]) (by simp [results,Tryz.results11,go_sem,d0,d1]) rfl ⟨N,?_⟩;rw [HP.o];exact rfl
end Go.Proofs.YtipngnjffjajpaaGreatDoor.Tx
