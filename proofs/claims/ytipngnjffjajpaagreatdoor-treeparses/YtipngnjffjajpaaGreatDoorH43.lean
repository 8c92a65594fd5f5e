/- The document's answer: ParseOf of any text. -/
import Derived.Test.YtipngnjffjajpaaGreatDoorH33
import Derived.Test.YtipngnjffjajpaaGreatDoorH39
import Derived.Test.YtipngnjffjajpaaGreatDoorH42
set_option linter.unusedVariables false
set_option maxHeartbeats 8000000
set_option maxRecDepth 100000
namespace Go.Proofs.YtipngnjffjajpaaGreatDoor.Tx
open Go.RowKit
open Go.Value renaming int -> M, slice -> U, bool -> zc, pointer -> zd, agg -> zf, tuple -> zh
open Go.IntKind renaming i64 -> O
open Go.Obj renaming cells -> ze
open Go.Ending renaming returned -> zg
section
variable {rb:Nat} {tv:Value} {ts:List Tok} {en b j:Nat} {s s':Sg} {w V V':World} {u:Value}
structure RqT (w:World) (rb:Nat) (tv:Value) (ts:List Tok) (en:Nat) (s:Sg) (V:World):Prop where
 tk:F1 tv ts w
 hr:w.heap.size<=rb
 st:Sd rb tv ts en s V
 bel:Below w.heap.size w V
theorem RqT.mk' (tk:F1 tv ts w) (hr:w.heap.size<=rb) (hn:s.1<=ts.length) (hb:V.heap[rb]? = some (Obj.cells #[tv,M O (s.1:Int),M O (en:Int),zc s.2] 58 (0,0))) (bel:Below w.heap.size w V):RqT w rb tv ts en s V:=by
 obtain ⟨l,v,g,i,x⟩:=id tk;refine ⟨tk,hr,⟨hb,hn,l,v,g,i,fun f=>?_⟩,bel⟩;obtain ⟨b,a,r,n,m⟩:=Jd (c:=0) tk i f;exact ⟨b,a,r,by omega,fun j u k=>by rw [bel.cell (p:=⟨b,a+j,none⟩) n];exact m j u k⟩
theorem RqT.size (h:RqT w rb tv ts en s V):w.heap.size<=V.heap.size:=h.bel.size
theorem RqT.call (h:RqT w rb tv ts en s V) (hq:Qo rb tv ts en V s s' V'):RqT w rb tv ts en s' V':=
 ⟨h.tk,h.hr,hq.2.1,h.bel.grown hq.1 h.size fun k hk=>by injection hk with hk;rw [<-hk];exact h.hr⟩
theorem RqT.over (h:RqT w rb tv ts en s V) (hb:Ov V V'):RqT w rb tv ts en s V':=⟨h.tk,h.hr,h.st.below hb,h.bel.trans (hb.mono h.size)⟩
theorem RqT.set (h:RqT w rb tv ts en s V) (hb:w.heap.size<=b) (hne:b≠rb):RqT w rb tv ts en s (V.setCell ⟨b,j,none⟩ u):=
 RqT.mk' h.tk h.hr h.st.2.1 (by rw [Below.heap_setCell _ _ _ _ (by show rb≠b;omega)];exact h.st.1) (h.bel.setCell hb u)
theorem RqT.row {B T q k:Nat} {v:Value} {xs:List Value} (h:RqT w rb tv ts en s V) (ho:V.ownsRow B T q v k xs) (hB:rb < B) (hg:V.grownBy V' v.ownBlock):RqT w rb tv ts en s V':=
 RqT.mk' h.tk h.hr h.st.2.1 (by rw [hg.block rb h.st.lt (fun e=>by have:=(AF ho e.symm).1;omega)];exact h.st.1) (h.bel.grown hg h.size fun k hk=>by have:=(AF ho hk).1;have:=h.hr;omega)
theorem FY (g:Nat) (acc:List D) (s:Sg) (h:s.2=true\/AX (tl ts s 0)=0):Cr ts en g acc s=(acc,s):=by
 cases g with
 | zero=>rfl
 | succ g=>
  rw [Cr,if_neg];rintro ⟨a,b⟩;rcases h with h | h
  ·rw [h] at a;cases a
  ·exact b h
theorem I1 (g:Nat) (acc:List D) (s:Sg) (h:s.2=false) (h2:¬ AX (tl ts s 0)=0):Cr ts en (g+1) acc s=Cr ts en g (acc++[(DD ts en s).1]) (DD ts en s).2:=by
 rw [Cr,if_pos ⟨h,h2⟩]
theorem Lo:Jk ts en=(fun ds:List D × Sg=>(fun m:List D × Sg=>((ds.1,m.1),m.2)) (A6 ts (fun s=>AN ts en (2*ts.length+3) [125] [] s) (Al ts [109,97,105,110] ds.2))) (Cr ts en (ts.length+2) [] (0,false)):=rfl
theorem Ms {a a2:Option Addr} {c c2:Nat} {ds l:List D} {W:World} (hall:ts.all An=true) {n:Nat} (hp:CG ts en=.inl ((ds,l),n)) (h1:LS 13 (XD W (2*ts.length+3)) W (U a ds.length c) ds) (h2:LS 12 (XC W (2*ts.length+3)) W (U a2 l.length c2) l):ZT W 61 (2*ts.length+3) (zf #[U a ds.length c,U a2 l.length c2]) ds l:=by
 obtain ⟨s1,g⟩:=Hq ts en hall (ds,l) n hp;exact ⟨a,c,a2,c2,rfl,h1.imp fun i d b f=>f.z (s1 d b),h2.imp fun i d b f=>f.z (g d b)⟩
end
theorem JO (s:ByteArray) (hs:s.size<=maxLen) (w:World):Calls Tryz.prog 11 #[.string s] w (Eb s w):=by
 have f0:s.size<=9223372036854775807:=hs;obtain ⟨a4,bm⟩:=nm (C5 s);unfold Eb;rw [<-bm];have HR:=Aa bm;obtain ⟨V,hV⟩:=nm (w.alloc (ze #[U none 0 0,U none 0 0] 25));obtain ⟨I,cb⟩:=nm w.heap.size;have ct:Hx (Ov w V):=by show Ov _ _;rw [hV];exact bA _ _
 have d4:Hx (Bx I [U none 0 0,U none 0 0] V):=by show Bx _ _ _;rw [hV,cb];exact Bx.new w [U none 0 0,U none 0 0] 25
 have K:=Aa cb;have KS:=Aa (IE s hs V);clear bm hs;go_enter Tryz.func11,Tryz.ntmps11;go_wp2_with fail;rw [<-hV,<-cb];clear hV cb;refine KS.o.mono ?_;rintro e w1 ⟨v,b,p,r,rfl,J,Q,a8⟩;have bc:Hx (Ov w w1):=Ab ct.o Q;have c:=Aa (d4.o.over Q);clear KS d4 ct;obtain ⟨va,vn,vc,rfl⟩:=AK J;by_cases hgood:s.size<=6000/\A8 s=0
 ·obtain ⟨h6,he⟩:=hgood
  rw [if_pos h6] at a8;obtain ⟨bk,rfl,hr⟩:=a8;rw [he] at hr;subst hr
  have b9:C5 s=match CG (AB s) s.size with
   | .inr m=>.inr (Ar (AB s) s.size m,1)
   | .inl ((ds,l),_)=>if ckT 61 (2*(AB s).length+3) ds l=0 then .inl (ds,l) else .inr (0,ckT 61 (2*(AB s).length+3) ds l):=by
   unfold C5;rw [if_pos h6,if_pos he];rfl
  rw [<-bk] at b9;have ak:Hx (b.all An=true):=by show _=_;rw [bk];exact C4 s h6
  have dt:b.length<=6000:=by rw [bk];exact Hh s h6
  have db:=Aa (G5 J dt);have eu:=BM J;have d5:=Aa bk;obtain ⟨en,c6⟩:=nm s.size;rw [<-c6] at b9;have cj:=Aa (HR.o.trans b9);subst eu;obtain ⟨tv,b8⟩:=nm (Value.slice va b.length vc);rw [<-b8] at db;have f3:=Aa b8;obtain ⟨V2,bo⟩:=nm ((w1.alloc (ze #[U va b.length vc,M O 0,M O (en:Int),zc false] 58)).alloc (ze #[U none 0 0,U none 0 0] 25));obtain ⟨rb,be⟩:=nm w1.heap.size;obtain ⟨bt,ca⟩:=nm (w1.heap.size+1);have c7:Below w1.heap.size w1 V2:=by rw [bo];exact Ab (bA _ _) (bA _ _)
  have f:Hx (I < rb/\bt=rb+1/\w1.heap.size<=rb):=⟨by rw [be];exact c.o.lt,by rw [ca,be],by rw [be];exact Nat.le_refl _⟩;have G:Hx (RqT w1 rb tv b en ((0,false):Sg) V2):=RqT.mk' db.o f.o.2.2 (Nat.zero_le _) (by rw [bo,be,b8];exact Cg (Fu w1 _)) c7;replace c:=Aa (c.o.over c7);have B:Hx (Bx bt [U none 0 0,U none 0 0] V2):=by
   have h9:=Bx.new (w1.alloc (ze #[U va b.length vc,M O 0,M O (en:Int),zc false] 58)) [U none 0 0,U none 0 0] 25;rw [alS] at h9;show Bx _ _ _;rw [bo,ca];exact h9
  obtain ⟨bd,a6⟩:=nm (Cr b en (b.length+2) [] (0,false));have d6:Hx (Jk b en=(fun ds:List D × Sg=>(fun m:List D × Sg=>((ds.1,m.1),m.2)) (A6 b (fun s=>AN b en (2*b.length+3) [125] [] s) (Al b [109,97,105,110] ds.2))) bd):=by show _=_;rw [a6];exact Lo
  have a2:=Aa a6;obtain ⟨i0,hi,et,es,er⟩:=info_parts Tryz.infoTD;clear J Q b9 he bk c7 a6 b8 db
  go_upto_region 6 with fail
  rw [<-c6,<-bo,<-ca,<-be];clear bo ca be c6;go_wp2_with fail;go_loopw [] (fun wr=>∃ (acc:List D) (s2:Sg) (g:Nat) (la:Option Addr) (k lc:Nat),k=acc.length/\RqT w1 rb tv b en s2 wr/\Bx I [U none 0 0,U none 0 0] wr/\Bx bt [U la k lc,U none 0 0] wr/\Cop (bt+1) 51 13 (fun i cs W=>∀ x,acc[i]? = some x->XD W (2*b.length+3) cs x) k (U la k lc) wr/\Cr b en g acc s2=bd/\(s2.2=true\/b.length - s2.1 < g)/\acc.length+bN s2.2<=s2.1+1) (fun wr=>mQ rb b.length wr)
  case atStart=>exact ⟨[],(0,false),b.length+2,none,0,0,rfl,G.o,c.o,B.o,Cop.nil,a2.o.symm,Or.inr (by omega),by simp [bN]⟩
  case round=>
   clear G c B a2;obtain ⟨acc,s2,g,la,k,lc,hk,hd,hx,ht,du,dn,dr,dw⟩:=hrel;have fa:=Aa (B0 b.length hd.st);have e6:s2.1<=b.length:=hd.st.2.1;have G:=Aa hd;have c:=Aa hx;have B:=Aa ht;have C:=Aa du;have a2:=Aa dn;have HK:=Aa hk;have HF:Hx ((s2.2=true\/b.length - s2.1 < g)/\acc.length+bN s2.2<=s2.1+1/\acc.length<=6001):=⟨dr,dw,by omega⟩;clear hk hd hx ht du dn dr dw e6;obtain ⟨al,ae,rc2,T,-,-⟩:=G.o.st.cells
   cases hfl:s2.2 with
   | true=>
    have HE:Hx (bd=(acc,s2)):=by show _=_;rw [<-a2.o];exact FY _ _ _ (Or.inl hfl)
    rw [hfl] at T;clear hfl;go_wp2_with fail;clear al ae rc2 T;have R:=d6.o;rw [HE.o] at R;dsimp only at R;obtain ⟨s3,bl⟩:=nm (Al b [109,97,105,110] s2);have KN:=Aa (AO ⟨#[109,97,105,110]⟩ [109,97,105,110] rfl (by decide) s2 _ G.o.st);rw [<-bl] at KN R;obtain ⟨pl,a7⟩:=nm (A6 b (fun s=>AN b en (2*b.length+3) [125] [] s) s3);rw [<-a7] at R;have bu:=Aa a7;obtain ⟨l,s4⟩:=pl;dsimp only at R;have dc:=Aa R;clear R bl a7 HE;go_wp2_with fail;refine KN.o.mono ?_;rintro e w5 ⟨rfl,Z⟩;have S:=Z.1;replace c:=Aa (c.o.keep S (by have:=f.o;omega));replace B:=Aa (B.o.keep S (by have:=f.o;omega));replace C:=Aa (C.o.keep S (by have:=f.o;omega));replace G:=Aa (G.o.call Z);clear S Z KN;have KL:=Aa (EM (2*b.length+3) (GX (rb:=rb) (tv:=tv) (en:=en) ak.o (2*b.length+3)).1 s3 _ G.o.st (Or.inr (by omega)));rw [<-bu.o] at KL;obtain ⟨z,hz⟩:=nm w5.heap.size;have bs:Hx (bt < z):=by show _ < _;rw [hz];exact B.o.lt
    go_wp2_with fail;refine KL.o.mono ?_;rintro e w6 ⟨ma,mc,rfl,E,-,Z⟩;dsimp only at E Z;rw [<-hz] at E;obtain ⟨mk,ar⟩:=nm l.length;rw [<-ar] at E;try dsimp only
    rw [<-ar];have S:=Z.1;replace c:=Aa (c.o.keep S (by have:=f.o;omega));replace B:=Aa (B.o.keep S (by have:=f.o;omega));replace C:=Aa (C.o.keep S (by have:=f.o;omega));replace G:=Aa (G.o.call Z);have av:=Aa E;have bv:=Aa ar;clear S Z KL E ar hz bu;have cy:=B.o.row 0 _ rfl;have cx:=B.o.row 1 _ rfl;have c5:=B.o.fz 1;obtain ⟨W7,H⟩:=nm (w6.setCell ⟨bt,1,none⟩ (U ma mk mc));replace B:Hx (Bx bt [U la k lc,U ma mk mc] W7):=by show Bx _ _ _;rw [H];exact B.o.set (j:=1) (by simp)
    replace c:Hx (Bx I [U none 0 0,U none 0 0] W7):=by show Bx _ _ _;rw [H];exact c.o.far (by have:=f.o;omega)
    replace G:Hx (RqT w1 rb tv b en s4 W7):=by show RqT _ _ _ _ _ _ _;rw [H];exact G.o.set (by have:=f.o;omega) (by have:=f.o;omega)
    replace C:Hx (Cop (bt+1) 51 13 (fun i cs W=>∀ x,acc[i]? = some x->XD W (2*b.length+3) cs x) k (U la k lc) W7):=by show Cop _ _ _ _ _ _ _;rw [H];exact C.o.set (Nat.lt_succ_self _)
    replace av:Hx (Off z none W7 (fun W=>LS 12 (XC W (2*b.length+3)) W (U ma mk mc) l)):=by show Off _ _ _ _;rw [H];exact av.o.set bs.o
    go_upto_region 12 with fail
    rw [<-H];clear cy cx c5 H;have a:=Hd b en (Eo ak.o);rw [dc.o] at a;obtain ⟨al,ae,rc2,T,-,-⟩:=G.o.st.cells;obtain ⟨n4,f4⟩:=s4;dsimp only at ae T a;by_cases hbad:f4=true\/n4 < b.length
    ·have N:CG b en=.inr n4:=by
      revert a
      cases hp:CG b en with
      | inl q=>
       obtain ⟨q1,q2⟩:=q;intro a;obtain ⟨F,e2⟩:=a;injection F with F e3;injection e3 with e3 e4;rcases hbad with h | h
       ·rw [h] at e4;cases e4
       ·rw [e3] at h;exact absurd h e2
      | inr m=>
       intro a;rcases a with F | ⟨F,-⟩ <;> (injection F with F e2;rw [F])
     have HP:Hx (a4=.inr (Ar b en n4,1)):=by show _=_;rw [cj.o,N]
     have KH:Hx (Ro 28 #[zd (some ⟨rb,0,none⟩)] W7 (M O (Ar b en n4))):=Cf (n4,f4) _ G.o.st;obtain ⟨ps,bn⟩:=nm (Ar b en n4);rw [<-bn] at KH HP;clear a N bn
     cases f4 with
     | true=>
      clear hbad;go_wp2_with fail;refine KH.o.mono ?_;rintro e w8 ⟨rfl,Q⟩;replace c:=Aa (c.o.over Q);have ad:Hx (Ov w w8):=Ab (Ab bc.o G.o.bel) Q;clear KH Q al ae rc2 T;have x0:=c.o.row 0 _ rfl;have x1:=c.o.row 1 _ rfl;have z0:=c.o.fz 0;have z1:=c.o.fz 1;go_wp2_with fail;obtain ⟨V9,n⟩:=nm ((w8.setCell ⟨I,0,none⟩ (U none 0 0)).setCell ⟨I,1,none⟩ (U none 0 0));have A:Bx I [U none 0 0,U none 0 0] V9:=by rw [n];exact (c.o.set (j:=0) (by simp)).set (j:=1) (by simp)
      have P:Ov w V9:=by rw [n];exact ((ad.o).setCell (by have:=K.o;simp;omega) _).setCell (by have:=K.o;simp;omega) _
      rw [<-n];have d0:=A.row 0 _ rfl;have d1:=A.row 1 _ rfl;refine bodyPost_ret (v:=zh #[zf #[U none 0 0,U none 0 0],M O ps,M O 1]) (by simp [results,Tryz.results11,go_sem,d0,d1]) rfl ⟨P,?_⟩;rw [HP.o];exact rfl
     | false=>
      have Y:n4 < b.length:=hbad.elim (fun h=>by cases h) id;have ah:(n4:Int) < (b.length:Int):=by omega
      clear hbad;generalize b.length=tl0 at *;go_wp2_with fail;refine KH.o.mono ?_;rintro e w8 ⟨rfl,Q⟩;replace c:=Aa (c.o.over Q);have ad:Hx (Ov w w8):=Ab (Ab bc.o G.o.bel) Q;clear KH Q al ae rc2 T;have x0:=c.o.row 0 _ rfl;have x1:=c.o.row 1 _ rfl;have z0:=c.o.fz 0;have z1:=c.o.fz 1;go_wp2_with fail;obtain ⟨V9,n⟩:=nm ((w8.setCell ⟨I,0,none⟩ (U none 0 0)).setCell ⟨I,1,none⟩ (U none 0 0));have A:Bx I [U none 0 0,U none 0 0] V9:=by rw [n];exact (c.o.set (j:=0) (by simp)).set (j:=1) (by simp)
      have P:Ov w V9:=by rw [n];exact ((ad.o).setCell (by have:=K.o;simp;omega) _).setCell (by have:=K.o;simp;omega) _
      rw [<-n];have d0:=A.row 0 _ rfl;have d1:=A.row 1 _ rfl;refine bodyPost_ret (v:=zh #[zf #[U none 0 0,U none 0 0],M O ps,M O 1]) (by simp [results,Tryz.results11,go_sem,d0,d1]) rfl ⟨P,?_⟩;rw [HP.o];exact rfl
    ·have hf:f4=false:=by cases f4 with
      | true=>exact absurd (Or.inl rfl) hbad
      | false=>rfl
     subst hf;have Y:¬ n4 < b.length:=fun h=>hbad (Or.inr h);have ah:¬ (n4:Int) < (b.length:Int):=by omega
     have N:∃ q,CG b en=.inl ((acc,l),q):=by
      revert a
      cases hp:CG b en with
      | inl q=>
       obtain ⟨q1,q2⟩:=q;intro a;obtain ⟨F,-⟩:=a;injection F with F e2;exact ⟨q2,by rw [F]⟩
      | inr m=>
       intro a;rcases a with F | ⟨F,e2⟩
       ·injection F with F e3;cases e3
       ·injection F with F e3;rw [<-F] at e2;exact absurd e2 Y
     obtain ⟨qn,N⟩:=N;obtain ⟨ck,au⟩:=nm (ckT 61 (2*b.length+3) acc l);have HP:Hx (a4=if ck=0 then .inl (acc,l) else .inr (0,ck)):=by show _=_;rw [cj.o,N,au]
     have an:Hx (Off (bt+1) none W7 (fun W=>LS 13 (XD W (2*b.length+3)) W (U la k lc) acc)):=by
      have hc:=C.o;rw [HK.o] at hc;obtain ⟨a9,c9,cw,cz⟩:=Cop.ls hc (by decide) (by have h1:=HF.o;omega);injection cw with v1 v2 v3;exact cz.imp fun W hW=>by rw [HK.o,v1,v3];exact hW
     have HZ:Hx (∀ W:World,(∀ i,bt+1<=i->i < W7.heap.size->W.heap[i]? = W7.heap[i]?)->ZT W 61 (2*b.length+3) (zf #[U la k lc,U ma mk mc]) acc l):=fun W hW=>by
      have h1:=an.o W fun i h1 h2 _=>hW i h1 h2;have h2:=av.o W fun i h3 h4 _=>hW i (by have:=bs.o;omega) h4;rw [HK.o] at h1;rw [bv.o] at h2;rw [HK.o,bv.o];exact Ms ak.o N h1 h2
     have KC:Hx (∀ X,Ov W7 X->Ro 15 #[zf #[U la k lc,U ma mk mc]] X (M O ck)):=fun X hX=>by
      rw [au];exact Fm 61 _ acc l _ X ((HZ.o W7 fun _ _ _=>rfl).over hX)
     clear a hbad N au av an C;have aw:=B.o.row 0 _ rfl;have bj:=B.o.row 1 _ rfl;generalize b.length=tl0 at ah Y ⊢;go_wp2_with fail;refine (KC.o _ (Below.refl _ _)).mono ?_;rintro e w8 ⟨rfl,Q⟩;replace c:=Aa (c.o.over Q);replace B:=Aa (B.o.over Q);have bz:=Aa Q;have ad:Hx (Ov w w8):=Ab (Ab bc.o G.o.bel) Q;clear KC Q aw bj al ae rc2 T Y ah;have x0:=c.o.row 0 _ rfl;have x1:=c.o.row 1 _ rfl;have z0:=c.o.fz 0;have z1:=c.o.fz 1;have aw:=B.o.row 0 _ rfl;have bj:=B.o.row 1 _ rfl;have em:I≠bt:=by have:=f.o;omega
     have el:bt≠I:=by have:=f.o;omega
     by_cases hc0:ck=0
     ·subst hc0
      go_wp2_with fail;obtain ⟨V9,n⟩:=nm ((w8.setCell ⟨I,0,none⟩ (U la k lc)).setCell ⟨I,1,none⟩ (U ma mk mc));have A:Bx I [U la k lc,U ma mk mc] V9:=by rw [n];exact (c.o.set (j:=0) (by simp)).set (j:=1) (by simp)
      have P:Ov w V9:=by rw [n];exact ((ad.o).setCell (by have:=K.o;simp;omega) _).setCell (by have:=K.o;simp;omega) _
      rw [<-n];have d0:=A.row 0 _ rfl;have d1:=A.row 1 _ rfl;refine bodyPost_ret (v:=zh #[zf #[U la k lc,U ma mk mc],M O 0,M O 0]) (by simp [results,Tryz.results11,go_sem,d0,d1]) rfl ⟨P,?_⟩;rw [show a4=.inl (acc,l) by have h:=HP.o;simpa using h];exact ⟨_,rfl,by
       have h9:=HZ.o V9 fun i h1 h2=>by
        rw [n,Below.heap_setCell _ _ _ _ (by show i≠I;have:=f.o;omega),Below.heap_setCell _ _ _ _ (by show i≠I;have:=f.o;omega)];exact bz.o.block i h2
       rw [d5.o] at h9;exact h9⟩
     ·have au:(ck == 0)=false:=by simpa using hc0
      go_wp2_with fail;obtain ⟨V9,n⟩:=nm ((w8.setCell ⟨I,0,none⟩ (U none 0 0)).setCell ⟨I,1,none⟩ (U none 0 0));have A:Bx I [U none 0 0,U none 0 0] V9:=by rw [n];exact (c.o.set (j:=0) (by simp)).set (j:=1) (by simp)
      have P:Ov w V9:=by rw [n];exact ((ad.o).setCell (by have:=K.o;simp;omega) _).setCell (by have:=K.o;simp;omega) _
      rw [<-n];have d0:=A.row 0 _ rfl;have d1:=A.row 1 _ rfl;refine bodyPost_ret (v:=zh #[zf #[U none 0 0,U none 0 0],M O 0,M O ck]) (by simp [results,Tryz.results11,go_sem,d0,d1]) rfl ⟨P,?_⟩;rw [HP.o,if_neg hc0];exact rfl
   | false=>
    rw [hfl] at T;have dd:=Aa hfl;have KD:=Aa (ML (rb:=rb) (tv:=tv) (en:=en) ak.o s2 _ G.o.st hfl);clear hfl;go_wp2_with fail;clear al ae rc2 T;refine KD.o.mono ?_;rintro e w3 ⟨c3,cv⟩;by_cases hk0:AX (tl b s2 0)=0
    ·obtain ⟨⟨kd,a9,x,y,gv,l0,l1,l2,p0,p1,p2,c0,c1,c2,e0,F,e2,e3,q0,q1,q2,rfl⟩,Z⟩:=c3 hk0
     have HE:Hx (bd=(acc,s2)):=by show _=_;rw [<-a2.o];exact FY _ _ _ (Or.inr hk0)
     obtain ⟨W4,az⟩:=nm (w3.alloc (ze #[M O kd,M O a9,.string x,.string y,zc gv,U l0 l1 l2,U p0 p1 p2,U c0 c1 c2,M O e0,M O F,M O e2,.string e3,U q0 q1 q2] 51));have af:Ov w3 W4:=by rw [az];exact bA _ _
     have S:=Z.1;replace c:=Aa ((c.o.keep S (by have:=f.o;omega)).over af);replace B:=Aa ((B.o.keep S (by have:=f.o;omega)).over af);replace C:=Aa ((C.o.keep S (by have:=f.o;omega)).over af);replace G:=Aa ((G.o.call Z).over af);clear S Z af c3 cv KD hk0
     go_upto_region 10 with fail
     rw [<-az];clear az;have R:=d6.o;rw [HE.o] at R;dsimp only at R;obtain ⟨s3,bl⟩:=nm (Al b [109,97,105,110] s2);have KN:=Aa (AO ⟨#[109,97,105,110]⟩ [109,97,105,110] rfl (by decide) s2 _ G.o.st);rw [<-bl] at KN R;obtain ⟨pl,a7⟩:=nm (A6 b (fun s=>AN b en (2*b.length+3) [125] [] s) s3);rw [<-a7] at R;have bu:=Aa a7;obtain ⟨l,s4⟩:=pl;dsimp only at R;have dc:=Aa R;clear R bl a7 HE;go_wp2_with fail;refine KN.o.mono ?_;rintro e w5 ⟨rfl,Z⟩;have S:=Z.1;replace c:=Aa (c.o.keep S (by have:=f.o;omega));replace B:=Aa (B.o.keep S (by have:=f.o;omega));replace C:=Aa (C.o.keep S (by have:=f.o;omega));replace G:=Aa (G.o.call Z);clear S Z KN;have KL:=Aa (EM (2*b.length+3) (GX (rb:=rb) (tv:=tv) (en:=en) ak.o (2*b.length+3)).1 s3 _ G.o.st (Or.inr (by omega)));rw [<-bu.o] at KL;obtain ⟨z,hz⟩:=nm w5.heap.size;have bs:Hx (bt < z):=by show _ < _;rw [hz];exact B.o.lt
     go_wp2_with fail;refine KL.o.mono ?_;rintro e w6 ⟨ma,mc,rfl,E,-,Z⟩;dsimp only at E Z;rw [<-hz] at E;obtain ⟨mk,ar⟩:=nm l.length;rw [<-ar] at E;try dsimp only
     rw [<-ar];have S:=Z.1;replace c:=Aa (c.o.keep S (by have:=f.o;omega));replace B:=Aa (B.o.keep S (by have:=f.o;omega));replace C:=Aa (C.o.keep S (by have:=f.o;omega));replace G:=Aa (G.o.call Z);have av:=Aa E;have bv:=Aa ar;clear S Z KL E ar hz bu;have cy:=B.o.row 0 _ rfl;have cx:=B.o.row 1 _ rfl;have c5:=B.o.fz 1;obtain ⟨W7,H⟩:=nm (w6.setCell ⟨bt,1,none⟩ (U ma mk mc));replace B:Hx (Bx bt [U la k lc,U ma mk mc] W7):=by show Bx _ _ _;rw [H];exact B.o.set (j:=1) (by simp)
     replace c:Hx (Bx I [U none 0 0,U none 0 0] W7):=by show Bx _ _ _;rw [H];exact c.o.far (by have:=f.o;omega)
     replace G:Hx (RqT w1 rb tv b en s4 W7):=by show RqT _ _ _ _ _ _ _;rw [H];exact G.o.set (by have:=f.o;omega) (by have:=f.o;omega)
     replace C:Hx (Cop (bt+1) 51 13 (fun i cs W=>∀ x,acc[i]? = some x->XD W (2*b.length+3) cs x) k (U la k lc) W7):=by show Cop _ _ _ _ _ _ _;rw [H];exact C.o.set (Nat.lt_succ_self _)
     replace av:Hx (Off z none W7 (fun W=>LS 12 (XC W (2*b.length+3)) W (U ma mk mc) l)):=by show Off _ _ _ _;rw [H];exact av.o.set bs.o
     go_upto_region 12 with fail
     rw [<-H];clear cy cx c5 H;have a:=Hd b en (Eo ak.o);rw [dc.o] at a;obtain ⟨al,ae,rc2,T,-,-⟩:=G.o.st.cells;obtain ⟨n4,f4⟩:=s4;dsimp only at ae T a;by_cases hbad:f4=true\/n4 < b.length
     ·have N:CG b en=.inr n4:=by
       revert a
       cases hp:CG b en with
       | inl q=>
        obtain ⟨q1,q2⟩:=q;intro a;obtain ⟨F,e2⟩:=a;injection F with F e3;injection e3 with e3 e4;rcases hbad with h | h
        ·rw [h] at e4;cases e4
        ·rw [e3] at h;exact absurd h e2
       | inr m=>
        intro a;rcases a with F | ⟨F,-⟩ <;> (injection F with F e2;rw [F])
      have HP:Hx (a4=.inr (Ar b en n4,1)):=by show _=_;rw [cj.o,N]
      have KH:Hx (Ro 28 #[zd (some ⟨rb,0,none⟩)] W7 (M O (Ar b en n4))):=Cf (n4,f4) _ G.o.st;obtain ⟨ps,bn⟩:=nm (Ar b en n4);rw [<-bn] at KH HP;clear a N bn
      cases f4 with
      | true=>
       clear hbad;go_wp2_with fail;refine KH.o.mono ?_;rintro e w8 ⟨rfl,Q⟩;replace c:=Aa (c.o.over Q);have ad:Hx (Ov w w8):=Ab (Ab bc.o G.o.bel) Q;clear KH Q al ae rc2 T;have x0:=c.o.row 0 _ rfl;have x1:=c.o.row 1 _ rfl;have z0:=c.o.fz 0;have z1:=c.o.fz 1;go_wp2_with fail;obtain ⟨V9,n⟩:=nm ((w8.setCell ⟨I,0,none⟩ (U none 0 0)).setCell ⟨I,1,none⟩ (U none 0 0));have A:Bx I [U none 0 0,U none 0 0] V9:=by rw [n];exact (c.o.set (j:=0) (by simp)).set (j:=1) (by simp)
       have P:Ov w V9:=by rw [n];exact ((ad.o).setCell (by have:=K.o;simp;omega) _).setCell (by have:=K.o;simp;omega) _
       rw [<-n];have d0:=A.row 0 _ rfl;have d1:=A.row 1 _ rfl;refine bodyPost_ret (v:=zh #[zf #[U none 0 0,U none 0 0],M O ps,M O 1]) (by simp [results,Tryz.results11,go_sem,d0,d1]) rfl ⟨P,?_⟩;rw [HP.o];exact rfl
      | false=>
       have Y:n4 < b.length:=hbad.elim (fun h=>by cases h) id;have ah:(n4:Int) < (b.length:Int):=by omega
       clear hbad;generalize b.length=tl0 at *;go_wp2_with fail;refine KH.o.mono ?_;rintro e w8 ⟨rfl,Q⟩;replace c:=Aa (c.o.over Q);have ad:Hx (Ov w w8):=Ab (Ab bc.o G.o.bel) Q;clear KH Q al ae rc2 T;have x0:=c.o.row 0 _ rfl;have x1:=c.o.row 1 _ rfl;have z0:=c.o.fz 0;have z1:=c.o.fz 1;go_wp2_with fail;obtain ⟨V9,n⟩:=nm ((w8.setCell ⟨I,0,none⟩ (U none 0 0)).setCell ⟨I,1,none⟩ (U none 0 0));have A:Bx I [U none 0 0,U none 0 0] V9:=by rw [n];exact (c.o.set (j:=0) (by simp)).set (j:=1) (by simp)
       have P:Ov w V9:=by rw [n];exact ((ad.o).setCell (by have:=K.o;simp;omega) _).setCell (by have:=K.o;simp;omega) _
       rw [<-n];have d0:=A.row 0 _ rfl;have d1:=A.row 1 _ rfl;refine bodyPost_ret (v:=zh #[zf #[U none 0 0,U none 0 0],M O ps,M O 1]) (by simp [results,Tryz.results11,go_sem,d0,d1]) rfl ⟨P,?_⟩;rw [HP.o];exact rfl
     ·have hf:f4=false:=by cases f4 with
       | true=>exact absurd (Or.inl rfl) hbad
       | false=>rfl
      subst hf;have Y:¬ n4 < b.length:=fun h=>hbad (Or.inr h);have ah:¬ (n4:Int) < (b.length:Int):=by omega
      have N:∃ q,CG b en=.inl ((acc,l),q):=by
       revert a
       cases hp:CG b en with
       | inl q=>
        obtain ⟨q1,q2⟩:=q;intro a;obtain ⟨F,-⟩:=a;injection F with F e2;exact ⟨q2,by rw [F]⟩
       | inr m=>
        intro a;rcases a with F | ⟨F,e2⟩
        ·injection F with F e3;cases e3
        ·injection F with F e3;rw [<-F] at e2;exact absurd e2 Y
      obtain ⟨qn,N⟩:=N;obtain ⟨ck,au⟩:=nm (ckT 61 (2*b.length+3) acc l);have HP:Hx (a4=if ck=0 then .inl (acc,l) else .inr (0,ck)):=by show _=_;rw [cj.o,N,au]
      have an:Hx (Off (bt+1) none W7 (fun W=>LS 13 (XD W (2*b.length+3)) W (U la k lc) acc)):=by
       have hc:=C.o;rw [HK.o] at hc;obtain ⟨a9,c9,cw,cz⟩:=Cop.ls hc (by decide) (by have h1:=HF.o;omega);injection cw with v1 v2 v3;exact cz.imp fun W hW=>by rw [HK.o,v1,v3];exact hW
      have HZ:Hx (∀ W:World,(∀ i,bt+1<=i->i < W7.heap.size->W.heap[i]? = W7.heap[i]?)->ZT W 61 (2*b.length+3) (zf #[U la k lc,U ma mk mc]) acc l):=fun W hW=>by
       have h1:=an.o W fun i h1 h2 _=>hW i h1 h2;have h2:=av.o W fun i h3 h4 _=>hW i (by have:=bs.o;omega) h4;rw [HK.o] at h1;rw [bv.o] at h2;rw [HK.o,bv.o];exact Ms ak.o N h1 h2
      have KC:Hx (∀ X,Ov W7 X->Ro 15 #[zf #[U la k lc,U ma mk mc]] X (M O ck)):=fun X hX=>by
       rw [au];exact Fm 61 _ acc l _ X ((HZ.o W7 fun _ _ _=>rfl).over hX)
      clear a hbad N au av an C;have aw:=B.o.row 0 _ rfl;have bj:=B.o.row 1 _ rfl;generalize b.length=tl0 at ah Y ⊢;go_wp2_with fail;refine (KC.o _ (Below.refl _ _)).mono ?_;rintro e w8 ⟨rfl,Q⟩;replace c:=Aa (c.o.over Q);replace B:=Aa (B.o.over Q);have bz:=Aa Q;have ad:Hx (Ov w w8):=Ab (Ab bc.o G.o.bel) Q;clear KC Q aw bj al ae rc2 T Y ah;have x0:=c.o.row 0 _ rfl;have x1:=c.o.row 1 _ rfl;have z0:=c.o.fz 0;have z1:=c.o.fz 1;have aw:=B.o.row 0 _ rfl;have bj:=B.o.row 1 _ rfl;have em:I≠bt:=by have:=f.o;omega
      have el:bt≠I:=by have:=f.o;omega
      by_cases hc0:ck=0
      ·subst hc0
       go_wp2_with fail;obtain ⟨V9,n⟩:=nm ((w8.setCell ⟨I,0,none⟩ (U la k lc)).setCell ⟨I,1,none⟩ (U ma mk mc));have A:Bx I [U la k lc,U ma mk mc] V9:=by rw [n];exact (c.o.set (j:=0) (by simp)).set (j:=1) (by simp)
       have P:Ov w V9:=by rw [n];exact ((ad.o).setCell (by have:=K.o;simp;omega) _).setCell (by have:=K.o;simp;omega) _
       rw [<-n];have d0:=A.row 0 _ rfl;have d1:=A.row 1 _ rfl;refine bodyPost_ret (v:=zh #[zf #[U la k lc,U ma mk mc],M O 0,M O 0]) (by simp [results,Tryz.results11,go_sem,d0,d1]) rfl ⟨P,?_⟩;rw [show a4=.inl (acc,l) by have h:=HP.o;simpa using h];exact ⟨_,rfl,by
        have h9:=HZ.o V9 fun i h1 h2=>by
         rw [n,Below.heap_setCell _ _ _ _ (by show i≠I;have:=f.o;omega),Below.heap_setCell _ _ _ _ (by show i≠I;have:=f.o;omega)];exact bz.o.block i h2
        rw [d5.o] at h9;exact h9⟩
      ·have au:(ck == 0)=false:=by simpa using hc0
       go_wp2_with fail;obtain ⟨V9,n⟩:=nm ((w8.setCell ⟨I,0,none⟩ (U none 0 0)).setCell ⟨I,1,none⟩ (U none 0 0));have A:Bx I [U none 0 0,U none 0 0] V9:=by rw [n];exact (c.o.set (j:=0) (by simp)).set (j:=1) (by simp)
       have P:Ov w V9:=by rw [n];exact ((ad.o).setCell (by have:=K.o;simp;omega) _).setCell (by have:=K.o;simp;omega) _
       rw [<-n];have d0:=A.row 0 _ rfl;have d1:=A.row 1 _ rfl;refine bodyPost_ret (v:=zh #[zf #[U none 0 0,U none 0 0],M O 0,M O ck]) (by simp [results,Tryz.results11,go_sem,d0,d1]) rfl ⟨P,?_⟩;rw [HP.o,if_neg hc0];exact rfl
    ·obtain ⟨kd,a9,x,y,gv,l0,l1,l2,p0,p1,p2,c0,c1,c2,e0,F,e2,e3,q0,q1,q2,rfl,E,Y,Z⟩:=cv hk0
     obtain ⟨g,rfl⟩:∃ g',g=g' + 1:=⟨g - 1,by have h1:=HF.o.1;rw [dd.o] at h1;simp at h1;omega⟩;have hr:=a2.o;rw [I1 _ _ _ dd.o hk0] at hr;obtain ⟨pd,dq⟩:=nm (DD b en s2);rw [<-dq] at hr E Y Z;obtain ⟨d,s4⟩:=pd;dsimp only at hr E Y Z;replace a2:=Aa hr;obtain ⟨W4,az⟩:=nm (w3.alloc (ze #[M O kd,M O a9,.string x,.string y,zc gv,U l0 l1 l2,U p0 p1 p2,U c0 c1 c2,M O e0,M O F,M O e2,.string e3,U q0 q1 q2] 51));have af:Ov w3 W4:=by rw [az];exact bA _ _
     have d8:Hx (Bx w3.heap.size [M O kd,M O a9,.string x,.string y,zc gv,U l0 l1 l2,U p0 p1 p2,U c0 c1 c2,M O e0,M O F,M O e2,.string e3,U q0 q1 q2] W4):=by show Bx _ _ _;rw [az];exact Bx.new w3 [M O kd,M O a9,.string x,.string y,zc gv,U l0 l1 l2,U p0 p1 p2,U c0 c1 c2,M O e0,M O F,M O e2,.string e3,U q0 q1 q2] 51
     have S:=Z.1;have cq:Hx (∀ q,(Value.slice la k lc).ownBlock=some q->q < wr.heap.size):=fun q S=>by
      obtain ⟨ys,h1,-⟩:=C.o;exact (AF h1 S).2
     have e9:Hx (bt+1<=wr.heap.size):=B.o.lt;replace c:=Aa ((c.o.keep S (by have:=f.o;omega)).over af);replace B:=Aa ((B.o.keep S (by have:=f.o;omega)).over af);replace C:=Aa ((C.o.keep S (by have:=f.o;omega)).over af);replace G:=Aa ((G.o.call Z).over af);have an:=Aa (E.over af);have d9:=Aa Y;have fb:=Aa Z.2.2;clear S Z af c3 cv KD hk0 E Y dq hr
     go_upto_region 9 with fail
     rw [<-az];clear az;obtain ⟨W5,bg⟩:=nm (W4.alloc (ze #[M O kd,M O a9,.string x,.string y,zc gv,U l0 l1 l2,U p0 p1 p2,U c0 c1 c2,M O e0,M O F,M O e2,.string e3,U q0 q1 q2] 51));have bf:Ov W4 W5:=by rw [bg];exact bA _ _
     have d7:Hx (Ae [M O kd,M O a9,.string x,.string y,zc gv,U l0 l1 l2,U p0 p1 p2,U c0 c1 c2,M O e0,M O F,M O e2,.string e3,U q0 q1 q2] W5 W4.heap.size):=by show Ae _ _ _;rw [bg];exact AW W4 [M O kd,M O a9,.string x,.string y,zc gv,U l0 l1 l2,U p0 p1 p2,U c0 c1 c2,M O e0,M O F,M O e2,.string e3,U q0 q1 q2] 51
     obtain ⟨n0,n1,n2,n3,n4,n5,n6,n7,n8,n9,eq,ep,eo⟩:=Ap d8.o.row;have aw:=B.o.row 0 _ rfl;have dj:=B.o.fz 0;replace c:=Aa (c.o.over bf);replace B:=Aa (B.o.over bf);replace C:=Aa (C.o.over bf);replace G:=Aa (G.o.over bf);replace an:=Aa (an.o.over bf);obtain ⟨xs,J,cm⟩:=C.o;have dx:bt+1<=W5.heap.size:=B.o.lt;have ex:k<=6001:=by have h1:=HF.o;have h2:=HK.o;omega
     have cr:=Aa cm;clear cm bf C d8;go_wp2_with (at_builtin;(try rw [<-bg]);refine wpList_append_own_at _ rfl _ _ 22 rfl (bt+1) 51 i0 (zf #[M O 0,M O 0,.string ⟨#[]⟩,.string ⟨#[]⟩,zc false,U none 0 0,U none 0 0,U none 0 0,M O 0,M O 0,M O 0,.string ⟨#[]⟩,U none 0 0]) 13 192 Tryz.underlying22 hi et es er rfl (by decide) _ _ _ rfl J ⟨W4.heap.size,0,none⟩ 1 1 [M O kd,M O a9,.string x,.string y,zc gv,U l0 l1 l2,U p0 p1 p2,U c0 c1 c2,M O e0,M O F,M O e2,.string e3,U q0 q1 q2] rfl rfl (fun jj u hu=>by rw [Addr.add_lit,Nat.zero_add];exact d7.o jj u hu) (by simp [Value.oneCell']) (by unfold maxLen;omega) (by omega) dx ?_);intro v2 W6 aq ao _ cc;rw [<-bg] at ao;have dm:W5.heap.size=W4.heap.size+1:=by rw [bg];simp
     replace cc:v2.ownBlock=(Value.slice la k lc).ownBlock\/v2.ownBlock=some W5.heap.size:=by rw [dm];simpa using cc
     have cn:Cop (bt+1) 51 13 (fun i cs W=>∀ x,(acc++[d])[i]? = some x->XD W (2*b.length+3) cs x) (k+1) v2 W6:=Cop.add (B1:=wr.heap.size) J (fun i hi=>by
       obtain ⟨ds,z1,z2,z3⟩:=cr.o i hi;exact ⟨ds,z1,z2,z3.imp fun W hW x hx=>hW x (by rw [List.getElem?_append_left (by rw [<-HK.o];exact hi)] at hx;exact hx)⟩) rfl (an.o.imp fun W hW x hx=>by
        rw [List.getElem?_append_right (by rw [HK.o];exact Nat.le_refl _),HK.o,Nat.sub_self] at hx;injection hx with hx;rw [<-hx];exact hW) e9.o cq.o aq ao cc
     replace G:=Aa (G.o.row J (by have:=f.o;omega) ao);replace c:=Aa (c.o.grown ao (fun e=>by have h1:=(AF J e.symm).1;have h2:=f.o;omega));replace B:=Aa (B.o.grown ao (fun e=>by have h1:=(AF J e.symm).1;omega));obtain ⟨b4,fj,b3,ev⟩:=AK aq;subst ev;obtain rfl:=BM aq;have bw:=Aa cn;clear cn J aq ao cc dx dm bg aw dj n0 n1 n2 n3 n4 n5 n6 n7 n8 n9 eq ep eo cr cq ex an d7;have aw:=B.o.row 0 _ rfl;have dj:=B.o.fz 0;obtain ⟨W7,H⟩:=nm (W6.setCell ⟨bt,0,none⟩ (U b4 (k+1) b3));replace B:Hx (Bx bt [U b4 (k+1) b3,U none 0 0] W7):=by show Bx _ _ _;rw [H];exact B.o.set (j:=0) (by simp)
     replace c:Hx (Bx I [U none 0 0,U none 0 0] W7):=by show Bx _ _ _;rw [H];exact c.o.far (by have:=f.o;omega)
     replace G:Hx (RqT w1 rb tv b en s4 W7):=by show RqT _ _ _ _ _ _ _;rw [H];exact G.o.set (by have:=f.o;omega) (by have:=f.o;omega)
     replace bw:Hx (Cop (bt+1) 51 13 (fun i cs W=>∀ x,(acc++[d])[i]? = some x->XD W (2*b.length+3) cs x) (k+1) (U b4 (k+1) b3) W7):=by show Cop _ _ _ _ _ _ _;rw [H];exact bw.o.set (Nat.lt_succ_self _)
     go_wp2_with fail;rw [<-H];have ew:=B0 b.length G.o.st;have c4:=BT (L:=b.length) (k:=acc.length) (g:=g) (s:=s2) (s4:=s4) HF.o.1 dd.o HF.o.2.1 fb.o d9.o G.o.st.2.1;exact ⟨⟨acc++[d],s4,g,b4,k+1,b3,by rw [List.length_append,HK.o];rfl,G.o,c.o,B.o,bw.o,a2.o,c4.1,by rw [List.length_append];exact c4.2.1⟩,by rw [ew,fa.o];exact c4.2.2⟩
 ·have hr:a4=.inr ((p:Int),(r:Int))/\r≠0:=by
   rw [HR.o];unfold C5;by_cases h6:s.size<=6000
   ·rw [if_pos h6] at a8 ⊢
    obtain ⟨-,rfl,rfl⟩:=a8;have he:¬ A8 s=0:=fun h=>hgood ⟨h6,h⟩;rw [if_neg he];exact ⟨rfl,he⟩
   ·rw [if_neg h6] at a8 ⊢
    obtain ⟨-,rfl,rfl⟩:=a8;exact ⟨rfl,by omega⟩
  obtain ⟨dp,fy⟩:=hr;have HP:=Aa dp;have fx:¬ (r:Int)=0:=by omega
  have x0:=c.o.row 0 _ rfl;have x1:=c.o.row 1 _ rfl;have z0:=c.o.fz 0;have z1:=c.o.fz 1;clear J Q a8 dp hgood;go_wp2_with fail;obtain ⟨V9,n⟩:=nm ((w1.setCell ⟨I,0,none⟩ (U none 0 0)).setCell ⟨I,1,none⟩ (U none 0 0));have A:Bx I [U none 0 0,U none 0 0] V9:=by rw [n];exact (c.o.set (j:=0) (by simp)).set (j:=1) (by simp)
  have P:Ov w V9:=by rw [n];exact ((bc.o).setCell (by have:=K.o;simp;omega) _).setCell (by have:=K.o;simp;omega) _
  rw [<-n];have d0:=A.row 0 _ rfl;have d1:=A.row 1 _ rfl;refine bodyPost_ret (v:=zh #[zf #[U none 0 0,U none 0 0],M O (p:Int),M O (r:Int)]) (by simp [results,Tryz.results11,go_sem,d0,d1]) rfl ⟨P,?_⟩;rw [HP.o];exact rfl
end Go.Proofs.YtipngnjffjajpaaGreatDoor.Tx
