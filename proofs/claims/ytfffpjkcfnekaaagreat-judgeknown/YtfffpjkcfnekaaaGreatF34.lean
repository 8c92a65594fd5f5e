/- A program is copied, whatever it is. -/
import Derived.Test.YtfffpjkcfnekaaaGreatF33
set_option linter.unusedVariables false
set_option maxHeartbeats 8000000
set_option maxRecDepth 100000
namespace Go.Proofs.YtfffpjkcfnekaaaGreat.Ex
open Go.RowKit
open Go.Value renaming slice -> O, int -> U, bool -> zg, agg -> zh, pointer -> zj, tuple -> zm
open Go.IntKind renaming i64 -> zd
open Go.Obj renaming cells -> ze
open Go.Ending renaming returned -> zk
theorem E3 {W:World} {B T:Nat} {v:Value} {l:List Int} (h:W.ownsRow B T 1 v l.length (Dq l)):Nr v l:=by
 rcases h.2 with ⟨hv,h0⟩ | ⟨g,cap,cur,hv,hb,hg,h1,h2,-⟩
 ·exact ⟨by rw [h0];exact Nat.zero_le _,none,0,by rw [hv,h0],by rw [h0];exact Nat.le_refl _,Nat.zero_le _⟩
 ·exact ⟨Nat.le_trans h1 h2,_,cap,hv,h1,h2⟩
theorem A9 {W:World} {b T s:Nat} (h:W.ownsRow b T s (O (some ⟨b,0,none⟩) 0 0) 0 []):b < W.heap.size:=(An h rfl).2
theorem Tryz.infoLa:(Tryz.prog.info? 39).map (fun i=>(i.zero,i.size,i.bytes))=some (some (zh #[O none 0 0,O none 0 0]),2,48):=by kernel_rfl
theorem Tryz.infoVa:(Tryz.prog.info? 41).map (fun i=>(i.zero,i.size,i.bytes))=some (some (zh #[zg false,O none 0 0,O none 0 0]),3,56):=by kernel_rfl
theorem Tryz.infoFu:(Tryz.prog.info? 105).map (fun i=>(i.zero,i.size,i.bytes))=some (some (zh #[O none 0 0,O none 0 0,U zd 0,U zd 0,O none 0 0]),5,88):=by kernel_rfl
structure smP (K kf:Nat) (gs:List (Int × Int)) (sp:List Int) (ls ms:List Lab) (vs:List (Bool × Lab)) (fs:List FnD) (l:List D):Prop where
 gB:gs.length<=1000
 sB:sp.length<=1000
 yB:ls.length<=100
 oB:ms.length<=100
 vB:vs.length<=100
 fB:fs.length<=100
 lab:∀ b,b∈ls\/b∈ms\/b∈vs.map Prod.snd->(b.r.length<=4/\b.w.length<=4)/\(∀ p∈b.r,p.names.length<=6)/\∀ p∈b.w,p.names.length<=6
 body:∀ f∈fs,f.ps.length<=1000/\f.body.length<=50/\(∀ d∈f.body,smS K kf d)/\(Bn K f.res).length<=15
 main:l.length<=50/\∀ d∈l,smS K kf d
theorem IM {B T s n:Nat} {P:Nat->List Value->World->Prop} {a:Option Addr} {k c:Nat} {w:World} (h:Cop B T s P n (O a k c) w):a=none->c=0:=by
 rintro rfl
 obtain ⟨xs,⟨-,h | ⟨g,cap,cur,h,-⟩⟩,-⟩:=h
 ·have:=h.1
  injection this
 ·injection h with h
  cases h
theorem Mr (K kf:Nat) (m:Int) (ga gn gc sa sn sc ya yn yc oa on oc va vn vc fa fn fc ba bn bc) (gs sp ls ms vs fs l) (w:World) (h:BE K kf m ga gn gc sa sn sc ya yn yc oa on oc va vn vc fa fn fc ba bn bc gs sp ls ms vs fs l w) (hs:smP K kf gs sp ls ms vs fs l) :
  Calls Tryz.prog 14 #[zh #[U zd m,O ga gn gc,O sa sn sc,O ya yn yc,O oa on oc,O va vn vc,O fa fn fc,O ba bn bc]] w fun e w'=>∃ (g1:Option Addr) (g2 g3:Nat) (s1:Option Addr) (s2 s3:Nat) (y1:Option Addr) (y3:Nat) (o1:Option Addr) (o3:Nat) (vv:Value) (f1:Option Addr) (f3:Nat) (m1:Option Addr) (m3:Nat) (xs:List Value),e=zk (zh #[U zd m,O g1 g2 g3,O s1 s2 s3,O y1 ls.length y3,O o1 ms.length o3,vv,O f1 fs.length f3,O m1 l.length m3])/\((y1=none->y3=0)/\(o1=none->o3=0))/\w'.ownsRow w.heap.size 41 3 vv vs.length xs /\
   Off w.heap.size vv.ownBlock w' (fun W=>Az W (O g1 g2 g3) gs/\AM W (O s1 s2 s3) sp/\Bb W (O y1 ls.length y3) ls/\Bb W (O o1 ms.length o3) ms/\BC W K kf (O f1 fs.length f3) fs/\Bf W K kf (O m1 l.length m3) l)/\Ov w w':=by
 have hbl:bn=l.length:=by obtain ⟨-,a,c,he,-⟩:=h.main;injection he
 have hyl:yn=ls.length:=by obtain ⟨-,a,c,he,-⟩:=h.ins;injection he
 have hol:on=ms.length:=by obtain ⟨-,a,c,he,-⟩:=h.outs;injection he
 have hvl:vn=vs.length:=by obtain ⟨-,a,c,he,-⟩:=h.vars;injection he
 have hfl:fn=fs.length:=by obtain ⟨-,a,c,he,-⟩:=h.funcs;injection he
 subst hbl hyl hol hvl hfl
 have hwV:Ov w ((w.alloc (ze #[U zd m,O ga gn gc,O sa sn sc,O ya ls.length yc,O oa ms.length oc,O va vs.length vc,O fa fs.length fc,O ba l.length bc] 31)).alloc (ze #[U zd 0,O none 0 0,O none 0 0,O none 0 0,O none 0 0,O none 0 0,O none 0 0,O none 0 0] 31)):=(bA w _).alloc (by simp) _
 have hrV:=(Ae.newA #[U zd m,O ga gn gc,O sa sn sc,O ya ls.length yc,O oa ms.length oc,O va vs.length vc,O fa fs.length fc,O ba l.length bc] 31 w).over (bA _ (ze #[U zd 0,O none 0 0,O none 0 0,O none 0 0,O none 0 0,O none 0 0,O none 0 0,O none 0 0] 31))
 have hz2:=Cm 31 (w.alloc (ze #[U zd m,O ga gn gc,O sa sn sc,O ya ls.length yc,O oa ms.length oc,O va vs.length vc,O fa fs.length fc,O ba l.length bc] 31))
 obtain ⟨V,hV⟩:=nm ((w.alloc (ze #[U zd m,O ga gn gc,O sa sn sc,O ya ls.length yc,O oa ms.length oc,O va vs.length vc,O fa fs.length fc,O ba l.length bc] 31)).alloc (ze #[U zd 0,O none 0 0,O none 0 0,O none 0 0,O none 0 0,O none 0 0,O none 0 0,O none 0 0] 31))
 rw [<-hV] at hwV hrV hz2
 have HVS:Hx (V.heap.size=w.heap.size+2):=by rw [hV];simp [Hx]
 have hz2':Z8 (w.heap.size+1) V:=by simpa using hz2
 have HZR:=Aa hz2'
 have HP:=Aa h
 have HWV:=Aa hwV
 have HRV:=Aa hrV
 have HSM:=Aa hs
 have H20:=Aa hs.gB
 have HSP:=Aa hs.sB
 have KM:Hx (∀ W,Ov V W->_):=fun W (hW:Ov V W)=>NP K kf (O ba l.length bc) l W (Bf.over HP.o.main (hwV.trans (hW.mono hwV.size))) hs.main.1 hs.main.2
 obtain ⟨c0,c1,c2,c3,c4,c5,c6,c7⟩:=rc8 hrV
 clear h hs hwV hrV hz2 hz2'
 go_enter Tryz.func14,Tryz.ntmps14
 go_wp2_with fail
 rw [<-hV]
 clear hV
 refine C6 (fun act2 Wn=>∃ (bo:Nat) (x9 x10 x11 x12 x13 x14 x15 x16 x17 x18 x19 x20 x21 x22 x23 x24 x25:Value) (g1:Option Addr) (g2 g3:Nat) (s1:Option Addr) (s2 s3:Nat) (m1:Option Addr) (m3 b3 b9:Nat),act2={ tmps:=#[zh #[U zd m,O ga gn gc,O sa sn sc,O ya ls.length yc,O oa ms.length oc,O va vs.length vc,O fa fs.length fc,O ba l.length bc],zj (some ⟨w.heap.size,0,none⟩),zj (some ⟨w.heap.size+1,0,none⟩),zj (some ⟨bo,0,none⟩),undef,undef,undef,undef,undef,x9,x10,x11,x12,x13,x14,x15,x16,x17,x18,x19,x20,x21,x22,x23,x24,x25,undef,undef,undef,undef,undef,undef,undef,undef,undef,undef,undef,undef,undef,undef,undef,undef,undef,undef,undef,undef,undef,undef,undef,undef,undef,undef,undef,undef,undef,undef,undef,undef,undef,undef,undef,undef,undef,undef,undef,undef,undef,undef,undef,undef,undef,undef,undef,undef,undef,undef,undef,undef,undef,undef,undef,undef,undef,undef,undef,undef,undef,undef,undef,undef,undef,undef,undef,undef,undef,undef,undef,undef,undef,undef,undef,undef,undef,undef,undef,undef,undef,undef,undef,undef,undef,undef,undef,undef,undef,undef,undef],defers:=[] }/\Ov V Wn/\V.heap.size<=bo/\Ae [U zd m,O g1 g2 g3,O s1 s2 s3,O none 0 0,O none 0 0,O none 0 0,O none 0 0,O m1 l.length m3] Wn bo/\(∀ q,Wn.frozen? ⟨bo,q,none⟩=false)/\((Wn.ownsRow b3 169 2 (O g1 g2 g3) gs.length (grV gs)/\(Value.slice g1 g2 g3).ownBlock≠some bo)/\(Wn.ownsRow b9 3 1 (O s1 s2 s3) sp.length (Dq sp)/\(Value.slice s1 s2 s3).ownBlock≠some bo)/\Off V.heap.size (some bo) Wn (fun W=>Bf W K kf (O m1 l.length m3) l))/\V.heap.size<=b3/\V.heap.size<=b9) ?_ ?_
 ·refine gS (fun Wz=>Ov V Wz) (bD _) fun hHeld=>?_
  generalize V.drew=W at hHeld ⊢
  refine kO 0 ?_
  refine kO 1 ?_
  refine kO 2 ?_
  refine kO 4 ?_
  refine kO 5 ?_
  refine kO 6 ?_
  refine kO 10 ?_
  refine kO 11 ?_
  refine kO 13 ?_
  refine kO 14 ?_
  refine rdC 3 9 17 rfl (fun K hK=>?_) rfl (fun K hK=>?_) rfl fun K hK=>?_
  ·obtain ⟨Wd,rfl⟩:=nm W
   obtain ⟨W,hW2⟩:=nm (Wd.alloc (ze #[] 169))
   have hb:Ov Wd W:=by rw [hW2];exact bA _ _
   obtain ⟨b3,hq⟩:∃ b:Nat,b=Wd.heap.size:=⟨_,rfl⟩
   have HO3:Hx (W.ownsRow b3 169 2 (O (some ⟨b3,0,none⟩) 0 0) 0 []):=by rw [hW2,hq];exact World.ownsRow_made (base:=Wd.heap.size) (e:=169) (size:=2) Wd #[] 0 (Nat.le_refl _) (by unfold maxLen;omega) rfl
   have HS3:Hx (b3=Wd.heap.size/\W.heap.size=Wd.heap.size+1):=⟨hq,by rw [hW2];simp⟩
   have HG3:Hx (V.heap.size<=b3):=by rw [hq];exact hHeld.size
   (try replace HO7:=Aa (Ad HO7.o hb))
   (try replace HO9:=Aa (Ad HO9.o hb))
   (try replace HO12:=Aa (Ad HO12.o hb))
   (try replace HZ:=Aa (HZ.o.over hb))
   (try replace HOL:=Aa (fun g hg=>(HOL.o g hg).over hb))
   go_simp
   rw [<-hW2,<-hq]
   clear hW2 hq
   refine xK hK (Ac hHeld hb) fun hHeld=>?_
   clear hK K
   refine rdC 7 9 17 rfl (fun K hK=>?_) rfl (fun K hK=>?_) rfl fun K hK=>?_
   ·obtain ⟨Wd,rfl⟩:=nm W
    obtain ⟨v7,W,hrun,hown,hgr,hat⟩:=D6 (Af HP.o.grants (HWV.o.trans (hHeld.mono HWV.o.size))) HO3.o H20.o (Nat.le_of_lt (A9 HO3.o))
    have HS7:Hx (Wd.heap.size<=W.heap.size):=hgr.size
    have HA7:Hx (v7.ownBlock=some b3\/(v7.ownBlock=some Wd.heap.size/\Wd.heap.size < W.heap.size)):=hat.imp id (fun e=>⟨e,(An hown e).2⟩)
    have hbx:=Au HO3.o hgr (Nat.le_of_lt (A9 HO3.o))
    have hHeld2:Ov V W:=hHeld.trans (hbx.mono HG3.o)
    (try replace HO9:=Aa (HO9.o.kept hgr (Or.inr (fun e=>by have e3:b9=b3:=Option.some.inj (show some b9=some b3 from e);(try have h3:=HS3.o);(try have h7:=HS7.o);(try have h9:=HS9.o);(try have h12:=HS12.o);(try have h15:=HS15.o);(try have h17:=HS17.o);omega))))
    (try replace HZ:=Aa (HZ.o.grown (g:=b3) hgr (fun e=>by (try have h3:=HS3.o);(try have h7:=HS7.o);(try have h9:=HS9.o);(try have h12:=HS12.o);(try have h15:=HS15.o);(try have h17:=HS17.o);omega)))
    have HO7:=Aa hown
    obtain ⟨g1,g2,g3 ,rfl⟩:=Ak hown
    refine Ao rfl _ _ _ rfl _ _ _ _ rfl rfl hrun ?_
    clear hrun hown hgr hat hbx HO3
    refine xK hK (hHeld2) fun hHeld=>?_
    clear hK K
    refine kO 8 ?_
    refine rdB 9 17 rfl (fun K hK=>?_) rfl fun K hK=>?_
    ·obtain ⟨Wd,rfl⟩:=nm W
     obtain ⟨W,hW2⟩:=nm (Wd.alloc (ze #[] 3))
     have hb:Ov Wd W:=by rw [hW2];exact bA _ _
     obtain ⟨b9,hq⟩:∃ b:Nat,b=Wd.heap.size:=⟨_,rfl⟩
     have HO9:Hx (W.ownsRow b9 3 1 (O (some ⟨b9,0,none⟩) 0 0) 0 []):=by rw [hW2,hq];exact World.ownsRow_made (base:=Wd.heap.size) (e:=3) (size:=1) Wd #[] 0 (Nat.le_refl _) (by unfold maxLen;omega) rfl
     have HS9:Hx (b9=Wd.heap.size/\W.heap.size=Wd.heap.size+1):=⟨hq,by rw [hW2];simp⟩
     have HG9:Hx (V.heap.size<=b9):=by rw [hq];exact hHeld.size
     (try replace HO3:=Aa (Ad HO3.o hb))
     (try replace HO7:=Aa (Ad HO7.o hb))
     (try replace HO12:=Aa (Ad HO12.o hb))
     (try replace HZ:=Aa (HZ.o.over hb))
     (try replace HOL:=Aa (fun g hg=>(HOL.o g hg).over hb))
     go_simp
     rw [<-hW2,<-hq]
     clear hW2 hq
     refine xK hK (Ac hHeld hb) fun hHeld=>?_
     clear hK K
     refine rdB 12 17 rfl (fun K hK=>?_) rfl fun K hK=>?_
     ·obtain ⟨Wd,rfl⟩:=nm W
      obtain ⟨v12,W,hrun,hown,hgr,hat⟩:=BG (AM.over HP.o.speak (HWV.o.trans (hHeld.mono HWV.o.size))) HO9.o HSP.o (Nat.le_of_lt (A9 HO9.o))
      have HS12:Hx (Wd.heap.size<=W.heap.size):=hgr.size
      have HA12:Hx (v12.ownBlock=some b9\/(v12.ownBlock=some Wd.heap.size/\Wd.heap.size < W.heap.size)):=hat.imp id (fun e=>⟨e,(An hown e).2⟩)
      have hbx:=Au HO9.o hgr (Nat.le_of_lt (A9 HO9.o))
      have hHeld2:Ov V W:=hHeld.trans (hbx.mono HG9.o)
      replace HO7:=Aa (HO7.o.kept hgr (Or.inr (fun e=>by
       (try have h3:=HS3.o);(try have h7:=HS7.o);(try have h9:=HS9.o);(try have h12:=HS12.o);(try have h15:=HS15.o);(try have h17:=HS17.o)
       rcases HA7.o with q | ⟨q,q2⟩
       ·have e3:b9=b3:=Option.some.inj (show some b9=some b3 from e.symm.trans q)
        omega
       ·have e3:=Option.some.inj (show some b9=some _ from e.symm.trans q)
        omega)))
      (try replace HZ:=Aa (HZ.o.grown (g:=b9) hgr (fun e=>by (try have h3:=HS3.o);(try have h7:=HS7.o);(try have h9:=HS9.o);(try have h12:=HS12.o);(try have h15:=HS15.o);(try have h17:=HS17.o);omega)))
      have HO12:=Aa hown
      obtain ⟨s1,s2,s3 ,rfl⟩:=Ak hown
      refine Ao rfl _ _ _ rfl _ _ _ _ rfl rfl hrun ?_
      clear hrun hown hgr hat hbx HO9
      refine xK hK (hHeld2) fun hHeld=>?_
      clear hK K
      refine rdB 15 17 rfl (fun K hK=>?_) rfl fun K hK=>?_
      ·go_simp
       obtain ⟨Wc,rfl⟩:=nm W
       refine (KM.o _ hHeld).mono ?_
       rintro e0 W ⟨m1,m3,rfl,hoff,hb⟩
       have HOL:Hx (∀ g,(g < Wc.heap.size\/W.heap.size<=g)->Off V.heap.size (some g) W _):=fun g hg=>BT hoff hHeld.size hg
       have HS15:Hx (Wc.heap.size<=W.heap.size):=hb.size
       (try replace HO3:=Aa (Ad HO3.o hb))
       (try replace HO7:=Aa (Ad HO7.o hb))
       (try replace HO9:=Aa (Ad HO9.o hb))
       (try replace HO12:=Aa (Ad HO12.o hb))
       (try replace HZ:=Aa (HZ.o.over hb))
       clear hoff
       go_simp
       refine xK hK (Ac hHeld hb) fun hHeld=>?_
       clear hK K
       refine kO 16 ?_
       refine rdA 17 rfl fun K hK=>?_
       obtain ⟨Wd,rfl⟩:=nm W
       obtain ⟨W,hW2⟩:=nm (Wd.alloc (ze #[U zd 0,O none 0 0,O none 0 0,O none 0 0,O none 0 0,O none 0 0,O none 0 0,O none 0 0] 31))
       have hb:Ov Wd W:=by rw [hW2];exact bA _ _
       obtain ⟨bo,hq⟩:∃ b:Nat,b=Wd.heap.size:=⟨_,rfl⟩
       have HZ:Hx (Z8 bo W):=by rw [hq,hW2];exact Cm _ _
       have HS17:Hx (bo=Wd.heap.size/\W.heap.size=Wd.heap.size+1):=⟨hq,by rw [hW2];simp⟩
       have HGQ:Hx (V.heap.size<=bo):=by rw [hq];exact hHeld.size
       (try replace HO3:=Aa (Ad HO3.o hb))
       (try replace HO7:=Aa (Ad HO7.o hb))
       (try replace HO9:=Aa (Ad HO9.o hb))
       (try replace HO12:=Aa (Ad HO12.o hb))
       (try replace HOL:=Aa (fun g hg=>(HOL.o g hg).over hb))
       go_simp
       rw [<-hW2,<-hq]
       clear hW2 hq
       refine xK hK (Ac hHeld hb) fun hHeld=>?_
       clear hK K
       refine rdA 18 rfl fun K hK=>?_
       obtain ⟨d0,d1,d2,d3,d4,d5,d6,d7⟩:=rc8 HZ.o.row
       have p0:=HZ.o.fz 0
       have p1:=HZ.o.fz 1
       have p2:=HZ.o.fz 2
       have p3:=HZ.o.fz 3
       have p4:=HZ.o.fz 4
       have p5:=HZ.o.fz 5
       have p6:=HZ.o.fz 6
       have p7:=HZ.o.fz 7
       obtain ⟨W9,hW9⟩:=nm (Bk W bo (U zd m) (O g1 g2 g3) (O s1 s2 s3) (O none 0 0) (O none 0 0) (O none 0 0) (O none 0 0) (O m1 l.length m3))
       have hg9:W.grownBy W9 (some bo):=by rw [hW9];exact A6 _ _
       have HB9:Hx (Ov V W9):=Bi hHeld hg9 HGQ.o (Nat.le_refl _)
       have HR9:Hx (Ae [U zd m,O g1 g2 g3,O s1 s2 s3,O none 0 0,O none 0 0,O none 0 0,O none 0 0,O m1 l.length m3] W9 bo):=by rw [hW9];exact HZ.o.fill _ _ _ _ _ _ _ _
       have HF9:Hx (∀ q,W9.frozen? ⟨bo,q,none⟩=false):=by rw [hW9];exact fun q=>(AX _ _ _).trans (HZ.o.fz q)
       have hs9:=And.intro HS3.o (And.intro HS7.o (And.intro HS9.o (And.intro HS12.o (And.intro HS15.o HS17.o))))
       have hn7:(Value.slice g1 g2 g3).ownBlock≠some bo:=fun e=>by
        rcases HA7.o with q | ⟨q,q2⟩
        ·have e3:=Option.some.inj (q.symm.trans e)
         omega
        ·have e3:=Option.some.inj (q.symm.trans e)
         omega
       have hn12:(Value.slice s1 s2 s3).ownBlock≠some bo:=fun e=>by
        rcases HA12.o with q | ⟨q,q2⟩
        ·have e3:=Option.some.inj (q.symm.trans e)
         omega
        ·have e3:=Option.some.inj (q.symm.trans e)
         omega
       have HX9:=Aa (And.intro (And.intro (HO7.o.kept hg9 (Or.inr hn7)) hn7) (And.intro (And.intro (HO12.o.kept hg9 (Or.inr hn12)) hn12) ((HOL.o bo (by omega)).grownG hg9)))
       have HGB:=Aa (And.intro HG3.o HG9.o)
       clear hs9 hn7 hn12 hg9
       unfold Bk at hW9
       go_simp
       rw [<-hW9]
       clear hW9 d0 d1 d2 d3 d4 d5 d6 d7 p0 p1 p2 p3 p4 p5 p6 p7
       refine xK hK (HB9.o) fun hHeld=>?_
       clear hK K
       refine gE ?_
       exact AG ⟨bo,_,_,_,_,_,_,_,_,_,_,_,_,_,_,_,_,_,g1,g2,g3,s1,s2,s3,m1,m3,_,_,rfl,HB9.o,HGQ.o,HR9.o,HF9.o,HX9.o,HGB.o⟩
      ·obtain ⟨Wd,rfl⟩:=nm W
       obtain ⟨W,hW2⟩:=nm (Wd.alloc (ze #[U zd 0,O none 0 0,O none 0 0,O none 0 0,O none 0 0,O none 0 0,O none 0 0,O none 0 0] 31))
       have hb:Ov Wd W:=by rw [hW2];exact bA _ _
       obtain ⟨bo,hq⟩:∃ b:Nat,b=Wd.heap.size:=⟨_,rfl⟩
       have HZ:Hx (Z8 bo W):=by rw [hq,hW2];exact Cm _ _
       have HS17:Hx (bo=Wd.heap.size/\W.heap.size=Wd.heap.size+1):=⟨hq,by rw [hW2];simp⟩
       have HGQ:Hx (V.heap.size<=bo):=by rw [hq];exact hHeld.size
       (try replace HO3:=Aa (Ad HO3.o hb))
       (try replace HO7:=Aa (Ad HO7.o hb))
       (try replace HO9:=Aa (Ad HO9.o hb))
       (try replace HO12:=Aa (Ad HO12.o hb))
       (try replace HOL:=Aa (fun g hg=>(HOL.o g hg).over hb))
       go_simp
       rw [<-hW2,<-hq]
       clear hW2 hq
       refine xK hK (Ac hHeld hb) fun hHeld=>?_
       clear hK K
       refine rdA 15 rfl fun K hK=>?_
       go_simp
       obtain ⟨Wc,rfl⟩:=nm W
       refine (KM.o _ hHeld).mono ?_
       rintro e0 W ⟨m1,m3,rfl,hoff,hb⟩
       have HOL:Hx (∀ g,(g < Wc.heap.size\/W.heap.size<=g)->Off V.heap.size (some g) W _):=fun g hg=>BT hoff hHeld.size hg
       have HS15:Hx (Wc.heap.size<=W.heap.size):=hb.size
       (try replace HO3:=Aa (Ad HO3.o hb))
       (try replace HO7:=Aa (Ad HO7.o hb))
       (try replace HO9:=Aa (Ad HO9.o hb))
       (try replace HO12:=Aa (Ad HO12.o hb))
       (try replace HZ:=Aa (HZ.o.over hb))
       clear hoff
       go_simp
       refine xK hK (Ac hHeld hb) fun hHeld=>?_
       clear hK K
       refine kO 16 ?_
       refine rdA 18 rfl fun K hK=>?_
       obtain ⟨d0,d1,d2,d3,d4,d5,d6,d7⟩:=rc8 HZ.o.row
       have p0:=HZ.o.fz 0
       have p1:=HZ.o.fz 1
       have p2:=HZ.o.fz 2
       have p3:=HZ.o.fz 3
       have p4:=HZ.o.fz 4
       have p5:=HZ.o.fz 5
       have p6:=HZ.o.fz 6
       have p7:=HZ.o.fz 7
       obtain ⟨W9,hW9⟩:=nm (Bk W bo (U zd m) (O g1 g2 g3) (O s1 s2 s3) (O none 0 0) (O none 0 0) (O none 0 0) (O none 0 0) (O m1 l.length m3))
       have hg9:W.grownBy W9 (some bo):=by rw [hW9];exact A6 _ _
       have HB9:Hx (Ov V W9):=Bi hHeld hg9 HGQ.o (Nat.le_refl _)
       have HR9:Hx (Ae [U zd m,O g1 g2 g3,O s1 s2 s3,O none 0 0,O none 0 0,O none 0 0,O none 0 0,O m1 l.length m3] W9 bo):=by rw [hW9];exact HZ.o.fill _ _ _ _ _ _ _ _
       have HF9:Hx (∀ q,W9.frozen? ⟨bo,q,none⟩=false):=by rw [hW9];exact fun q=>(AX _ _ _).trans (HZ.o.fz q)
       have hs9:=And.intro HS3.o (And.intro HS7.o (And.intro HS9.o (And.intro HS12.o (And.intro HS15.o HS17.o))))
       have hn7:(Value.slice g1 g2 g3).ownBlock≠some bo:=fun e=>by
        rcases HA7.o with q | ⟨q,q2⟩
        ·have e3:=Option.some.inj (q.symm.trans e)
         omega
        ·have e3:=Option.some.inj (q.symm.trans e)
         omega
       have hn12:(Value.slice s1 s2 s3).ownBlock≠some bo:=fun e=>by
        rcases HA12.o with q | ⟨q,q2⟩
        ·have e3:=Option.some.inj (q.symm.trans e)
         omega
        ·have e3:=Option.some.inj (q.symm.trans e)
         omega
       have HX9:=Aa (And.intro (And.intro (HO7.o.kept hg9 (Or.inr hn7)) hn7) (And.intro (And.intro (HO12.o.kept hg9 (Or.inr hn12)) hn12) ((HOL.o bo (by omega)).grownG hg9)))
       have HGB:=Aa (And.intro HG3.o HG9.o)
       clear hs9 hn7 hn12 hg9
       unfold Bk at hW9
       go_simp
       rw [<-hW9]
       clear hW9 d0 d1 d2 d3 d4 d5 d6 d7 p0 p1 p2 p3 p4 p5 p6 p7
       refine xK hK (HB9.o) fun hHeld=>?_
       clear hK K
       refine gE ?_
       exact AG ⟨bo,_,_,_,_,_,_,_,_,_,_,_,_,_,_,_,_,_,g1,g2,g3,s1,s2,s3,m1,m3,_,_,rfl,HB9.o,HGQ.o,HR9.o,HF9.o,HX9.o,HGB.o⟩
     ·obtain ⟨Wd,rfl⟩:=nm W
      obtain ⟨W,hW2⟩:=nm (Wd.alloc (ze #[U zd 0,O none 0 0,O none 0 0,O none 0 0,O none 0 0,O none 0 0,O none 0 0,O none 0 0] 31))
      have hb:Ov Wd W:=by rw [hW2];exact bA _ _
      obtain ⟨bo,hq⟩:∃ b:Nat,b=Wd.heap.size:=⟨_,rfl⟩
      have HZ:Hx (Z8 bo W):=by rw [hq,hW2];exact Cm _ _
      have HS17:Hx (bo=Wd.heap.size/\W.heap.size=Wd.heap.size+1):=⟨hq,by rw [hW2];simp⟩
      have HGQ:Hx (V.heap.size<=bo):=by rw [hq];exact hHeld.size
      (try replace HO3:=Aa (Ad HO3.o hb))
      (try replace HO7:=Aa (Ad HO7.o hb))
      (try replace HO9:=Aa (Ad HO9.o hb))
      (try replace HO12:=Aa (Ad HO12.o hb))
      (try replace HOL:=Aa (fun g hg=>(HOL.o g hg).over hb))
      go_simp
      rw [<-hW2,<-hq]
      clear hW2 hq
      refine xK hK (Ac hHeld hb) fun hHeld=>?_
      clear hK K
      refine rdA 12 rfl fun K hK=>?_
      obtain ⟨Wd,rfl⟩:=nm W
      obtain ⟨v12,W,hrun,hown,hgr,hat⟩:=BG (AM.over HP.o.speak (HWV.o.trans (hHeld.mono HWV.o.size))) HO9.o HSP.o (Nat.le_of_lt (A9 HO9.o))
      have HS12:Hx (Wd.heap.size<=W.heap.size):=hgr.size
      have HA12:Hx (v12.ownBlock=some b9\/(v12.ownBlock=some Wd.heap.size/\Wd.heap.size < W.heap.size)):=hat.imp id (fun e=>⟨e,(An hown e).2⟩)
      have hbx:=Au HO9.o hgr (Nat.le_of_lt (A9 HO9.o))
      have hHeld2:Ov V W:=hHeld.trans (hbx.mono HG9.o)
      replace HO7:=Aa (HO7.o.kept hgr (Or.inr (fun e=>by
       (try have h3:=HS3.o);(try have h7:=HS7.o);(try have h9:=HS9.o);(try have h12:=HS12.o);(try have h15:=HS15.o);(try have h17:=HS17.o)
       rcases HA7.o with q | ⟨q,q2⟩
       ·have e3:b9=b3:=Option.some.inj (show some b9=some b3 from e.symm.trans q)
        omega
       ·have e3:=Option.some.inj (show some b9=some _ from e.symm.trans q)
        omega)))
      (try replace HZ:=Aa (HZ.o.grown (g:=b9) hgr (fun e=>by (try have h3:=HS3.o);(try have h7:=HS7.o);(try have h9:=HS9.o);(try have h12:=HS12.o);(try have h15:=HS15.o);(try have h17:=HS17.o);omega)))
      have HO12:=Aa hown
      obtain ⟨s1,s2,s3 ,rfl⟩:=Ak hown
      refine Ao rfl _ _ _ rfl _ _ _ _ rfl rfl hrun ?_
      clear hrun hown hgr hat hbx HO9
      refine xK hK (hHeld2) fun hHeld=>?_
      clear hK K
      refine rdA 15 rfl fun K hK=>?_
      go_simp
      obtain ⟨Wc,rfl⟩:=nm W
      refine (KM.o _ hHeld).mono ?_
      rintro e0 W ⟨m1,m3,rfl,hoff,hb⟩
      have HOL:Hx (∀ g,(g < Wc.heap.size\/W.heap.size<=g)->Off V.heap.size (some g) W _):=fun g hg=>BT hoff hHeld.size hg
      have HS15:Hx (Wc.heap.size<=W.heap.size):=hb.size
      (try replace HO3:=Aa (Ad HO3.o hb))
      (try replace HO7:=Aa (Ad HO7.o hb))
      (try replace HO9:=Aa (Ad HO9.o hb))
      (try replace HO12:=Aa (Ad HO12.o hb))
      (try replace HZ:=Aa (HZ.o.over hb))
      clear hoff
      go_simp
      refine xK hK (Ac hHeld hb) fun hHeld=>?_
      clear hK K
      refine kO 16 ?_
      refine rdA 18 rfl fun K hK=>?_
      obtain ⟨d0,d1,d2,d3,d4,d5,d6,d7⟩:=rc8 HZ.o.row
      have p0:=HZ.o.fz 0
      have p1:=HZ.o.fz 1
      have p2:=HZ.o.fz 2
      have p3:=HZ.o.fz 3
      have p4:=HZ.o.fz 4
      have p5:=HZ.o.fz 5
      have p6:=HZ.o.fz 6
      have p7:=HZ.o.fz 7
      obtain ⟨W9,hW9⟩:=nm (Bk W bo (U zd m) (O g1 g2 g3) (O s1 s2 s3) (O none 0 0) (O none 0 0) (O none 0 0) (O none 0 0) (O m1 l.length m3))
      have hg9:W.grownBy W9 (some bo):=by rw [hW9];exact A6 _ _
      have HB9:Hx (Ov V W9):=Bi hHeld hg9 HGQ.o (Nat.le_refl _)
      have HR9:Hx (Ae [U zd m,O g1 g2 g3,O s1 s2 s3,O none 0 0,O none 0 0,O none 0 0,O none 0 0,O m1 l.length m3] W9 bo):=by rw [hW9];exact HZ.o.fill _ _ _ _ _ _ _ _
      have HF9:Hx (∀ q,W9.frozen? ⟨bo,q,none⟩=false):=by rw [hW9];exact fun q=>(AX _ _ _).trans (HZ.o.fz q)
      have hs9:=And.intro HS3.o (And.intro HS7.o (And.intro HS9.o (And.intro HS12.o (And.intro HS15.o HS17.o))))
      have hn7:(Value.slice g1 g2 g3).ownBlock≠some bo:=fun e=>by
       rcases HA7.o with q | ⟨q,q2⟩
       ·have e3:=Option.some.inj (q.symm.trans e)
        omega
       ·have e3:=Option.some.inj (q.symm.trans e)
        omega
      have hn12:(Value.slice s1 s2 s3).ownBlock≠some bo:=fun e=>by
       rcases HA12.o with q | ⟨q,q2⟩
       ·have e3:=Option.some.inj (q.symm.trans e)
        omega
       ·have e3:=Option.some.inj (q.symm.trans e)
        omega
      have HX9:=Aa (And.intro (And.intro (HO7.o.kept hg9 (Or.inr hn7)) hn7) (And.intro (And.intro (HO12.o.kept hg9 (Or.inr hn12)) hn12) ((HOL.o bo (by omega)).grownG hg9)))
      have HGB:=Aa (And.intro HG3.o HG9.o)
      clear hs9 hn7 hn12 hg9
      unfold Bk at hW9
      go_simp
      rw [<-hW9]
      clear hW9 d0 d1 d2 d3 d4 d5 d6 d7 p0 p1 p2 p3 p4 p5 p6 p7
      refine xK hK (HB9.o) fun hHeld=>?_
      clear hK K
      refine gE ?_
      exact AG ⟨bo,_,_,_,_,_,_,_,_,_,_,_,_,_,_,_,_,_,g1,g2,g3,s1,s2,s3,m1,m3,_,_,rfl,HB9.o,HGQ.o,HR9.o,HF9.o,HX9.o,HGB.o⟩
    ·obtain ⟨Wd,rfl⟩:=nm W
     obtain ⟨W,hW2⟩:=nm (Wd.alloc (ze #[U zd 0,O none 0 0,O none 0 0,O none 0 0,O none 0 0,O none 0 0,O none 0 0,O none 0 0] 31))
     have hb:Ov Wd W:=by rw [hW2];exact bA _ _
     obtain ⟨bo,hq⟩:∃ b:Nat,b=Wd.heap.size:=⟨_,rfl⟩
     have HZ:Hx (Z8 bo W):=by rw [hq,hW2];exact Cm _ _
     have HS17:Hx (bo=Wd.heap.size/\W.heap.size=Wd.heap.size+1):=⟨hq,by rw [hW2];simp⟩
     have HGQ:Hx (V.heap.size<=bo):=by rw [hq];exact hHeld.size
     (try replace HO3:=Aa (Ad HO3.o hb))
     (try replace HO7:=Aa (Ad HO7.o hb))
     (try replace HO9:=Aa (Ad HO9.o hb))
     (try replace HO12:=Aa (Ad HO12.o hb))
     (try replace HOL:=Aa (fun g hg=>(HOL.o g hg).over hb))
     go_simp
     rw [<-hW2,<-hq]
     clear hW2 hq
     refine xK hK (Ac hHeld hb) fun hHeld=>?_
     clear hK K
     refine rdA 9 rfl fun K hK=>?_
     obtain ⟨Wd,rfl⟩:=nm W
     obtain ⟨W,hW2⟩:=nm (Wd.alloc (ze #[] 3))
     have hb:Ov Wd W:=by rw [hW2];exact bA _ _
     obtain ⟨b9,hq⟩:∃ b:Nat,b=Wd.heap.size:=⟨_,rfl⟩
     have HO9:Hx (W.ownsRow b9 3 1 (O (some ⟨b9,0,none⟩) 0 0) 0 []):=by rw [hW2,hq];exact World.ownsRow_made (base:=Wd.heap.size) (e:=3) (size:=1) Wd #[] 0 (Nat.le_refl _) (by unfold maxLen;omega) rfl
     have HS9:Hx (b9=Wd.heap.size/\W.heap.size=Wd.heap.size+1):=⟨hq,by rw [hW2];simp⟩
     have HG9:Hx (V.heap.size<=b9):=by rw [hq];exact hHeld.size
     (try replace HO3:=Aa (Ad HO3.o hb))
     (try replace HO7:=Aa (Ad HO7.o hb))
     (try replace HO12:=Aa (Ad HO12.o hb))
     (try replace HZ:=Aa (HZ.o.over hb))
     (try replace HOL:=Aa (fun g hg=>(HOL.o g hg).over hb))
     go_simp
     rw [<-hW2,<-hq]
     clear hW2 hq
     refine xK hK (Ac hHeld hb) fun hHeld=>?_
     clear hK K
     refine rdA 12 rfl fun K hK=>?_
     obtain ⟨Wd,rfl⟩:=nm W
     obtain ⟨v12,W,hrun,hown,hgr,hat⟩:=BG (AM.over HP.o.speak (HWV.o.trans (hHeld.mono HWV.o.size))) HO9.o HSP.o (Nat.le_of_lt (A9 HO9.o))
     have HS12:Hx (Wd.heap.size<=W.heap.size):=hgr.size
     have HA12:Hx (v12.ownBlock=some b9\/(v12.ownBlock=some Wd.heap.size/\Wd.heap.size < W.heap.size)):=hat.imp id (fun e=>⟨e,(An hown e).2⟩)
     have hbx:=Au HO9.o hgr (Nat.le_of_lt (A9 HO9.o))
     have hHeld2:Ov V W:=hHeld.trans (hbx.mono HG9.o)
     replace HO7:=Aa (HO7.o.kept hgr (Or.inr (fun e=>by
      (try have h3:=HS3.o);(try have h7:=HS7.o);(try have h9:=HS9.o);(try have h12:=HS12.o);(try have h15:=HS15.o);(try have h17:=HS17.o)
      rcases HA7.o with q | ⟨q,q2⟩
      ·have e3:b9=b3:=Option.some.inj (show some b9=some b3 from e.symm.trans q)
       omega
      ·have e3:=Option.some.inj (show some b9=some _ from e.symm.trans q)
       omega)))
     (try replace HZ:=Aa (HZ.o.grown (g:=b9) hgr (fun e=>by (try have h3:=HS3.o);(try have h7:=HS7.o);(try have h9:=HS9.o);(try have h12:=HS12.o);(try have h15:=HS15.o);(try have h17:=HS17.o);omega)))
     have HO12:=Aa hown
     obtain ⟨s1,s2,s3 ,rfl⟩:=Ak hown
     refine Ao rfl _ _ _ rfl _ _ _ _ rfl rfl hrun ?_
     clear hrun hown hgr hat hbx HO9
     refine xK hK (hHeld2) fun hHeld=>?_
     clear hK K
     refine rdA 15 rfl fun K hK=>?_
     go_simp
     obtain ⟨Wc,rfl⟩:=nm W
     refine (KM.o _ hHeld).mono ?_
     rintro e0 W ⟨m1,m3,rfl,hoff,hb⟩
     have HOL:Hx (∀ g,(g < Wc.heap.size\/W.heap.size<=g)->Off V.heap.size (some g) W _):=fun g hg=>BT hoff hHeld.size hg
     have HS15:Hx (Wc.heap.size<=W.heap.size):=hb.size
     (try replace HO3:=Aa (Ad HO3.o hb))
     (try replace HO7:=Aa (Ad HO7.o hb))
     (try replace HO9:=Aa (Ad HO9.o hb))
     (try replace HO12:=Aa (Ad HO12.o hb))
     (try replace HZ:=Aa (HZ.o.over hb))
     clear hoff
     go_simp
     refine xK hK (Ac hHeld hb) fun hHeld=>?_
     clear hK K
     refine kO 16 ?_
     refine rdA 18 rfl fun K hK=>?_
     obtain ⟨d0,d1,d2,d3,d4,d5,d6,d7⟩:=rc8 HZ.o.row
     have p0:=HZ.o.fz 0
     have p1:=HZ.o.fz 1
     have p2:=HZ.o.fz 2
     have p3:=HZ.o.fz 3
     have p4:=HZ.o.fz 4
     have p5:=HZ.o.fz 5
     have p6:=HZ.o.fz 6
     have p7:=HZ.o.fz 7
     obtain ⟨W9,hW9⟩:=nm (Bk W bo (U zd m) (O g1 g2 g3) (O s1 s2 s3) (O none 0 0) (O none 0 0) (O none 0 0) (O none 0 0) (O m1 l.length m3))
     have hg9:W.grownBy W9 (some bo):=by rw [hW9];exact A6 _ _
     have HB9:Hx (Ov V W9):=Bi hHeld hg9 HGQ.o (Nat.le_refl _)
     have HR9:Hx (Ae [U zd m,O g1 g2 g3,O s1 s2 s3,O none 0 0,O none 0 0,O none 0 0,O none 0 0,O m1 l.length m3] W9 bo):=by rw [hW9];exact HZ.o.fill _ _ _ _ _ _ _ _
     have HF9:Hx (∀ q,W9.frozen? ⟨bo,q,none⟩=false):=by rw [hW9];exact fun q=>(AX _ _ _).trans (HZ.o.fz q)
     have hs9:=And.intro HS3.o (And.intro HS7.o (And.intro HS9.o (And.intro HS12.o (And.intro HS15.o HS17.o))))
     have hn7:(Value.slice g1 g2 g3).ownBlock≠some bo:=fun e=>by
      rcases HA7.o with q | ⟨q,q2⟩
      ·have e3:=Option.some.inj (q.symm.trans e)
       omega
      ·have e3:=Option.some.inj (q.symm.trans e)
       omega
     have hn12:(Value.slice s1 s2 s3).ownBlock≠some bo:=fun e=>by
      rcases HA12.o with q | ⟨q,q2⟩
      ·have e3:=Option.some.inj (q.symm.trans e)
       omega
      ·have e3:=Option.some.inj (q.symm.trans e)
       omega
     have HX9:=Aa (And.intro (And.intro (HO7.o.kept hg9 (Or.inr hn7)) hn7) (And.intro (And.intro (HO12.o.kept hg9 (Or.inr hn12)) hn12) ((HOL.o bo (by omega)).grownG hg9)))
     have HGB:=Aa (And.intro HG3.o HG9.o)
     clear hs9 hn7 hn12 hg9
     unfold Bk at hW9
     go_simp
     rw [<-hW9]
     clear hW9 d0 d1 d2 d3 d4 d5 d6 d7 p0 p1 p2 p3 p4 p5 p6 p7
     refine xK hK (HB9.o) fun hHeld=>?_
     clear hK K
     refine gE ?_
     exact AG ⟨bo,_,_,_,_,_,_,_,_,_,_,_,_,_,_,_,_,_,g1,g2,g3,s1,s2,s3,m1,m3,_,_,rfl,HB9.o,HGQ.o,HR9.o,HF9.o,HX9.o,HGB.o⟩
   ·obtain ⟨Wd,rfl⟩:=nm W
    obtain ⟨W,hW2⟩:=nm (Wd.alloc (ze #[] 3))
    have hb:Ov Wd W:=by rw [hW2];exact bA _ _
    obtain ⟨b9,hq⟩:∃ b:Nat,b=Wd.heap.size:=⟨_,rfl⟩
    have HO9:Hx (W.ownsRow b9 3 1 (O (some ⟨b9,0,none⟩) 0 0) 0 []):=by rw [hW2,hq];exact World.ownsRow_made (base:=Wd.heap.size) (e:=3) (size:=1) Wd #[] 0 (Nat.le_refl _) (by unfold maxLen;omega) rfl
    have HS9:Hx (b9=Wd.heap.size/\W.heap.size=Wd.heap.size+1):=⟨hq,by rw [hW2];simp⟩
    have HG9:Hx (V.heap.size<=b9):=by rw [hq];exact hHeld.size
    (try replace HO3:=Aa (Ad HO3.o hb))
    (try replace HO7:=Aa (Ad HO7.o hb))
    (try replace HO12:=Aa (Ad HO12.o hb))
    (try replace HZ:=Aa (HZ.o.over hb))
    (try replace HOL:=Aa (fun g hg=>(HOL.o g hg).over hb))
    go_simp
    rw [<-hW2,<-hq]
    clear hW2 hq
    refine xK hK (Ac hHeld hb) fun hHeld=>?_
    clear hK K
    refine rdB 7 17 rfl (fun K hK=>?_) rfl fun K hK=>?_
    ·obtain ⟨Wd,rfl⟩:=nm W
     obtain ⟨v7,W,hrun,hown,hgr,hat⟩:=D6 (Af HP.o.grants (HWV.o.trans (hHeld.mono HWV.o.size))) HO3.o H20.o (Nat.le_of_lt (A9 HO3.o))
     have HS7:Hx (Wd.heap.size<=W.heap.size):=hgr.size
     have HA7:Hx (v7.ownBlock=some b3\/(v7.ownBlock=some Wd.heap.size/\Wd.heap.size < W.heap.size)):=hat.imp id (fun e=>⟨e,(An hown e).2⟩)
     have hbx:=Au HO3.o hgr (Nat.le_of_lt (A9 HO3.o))
     have hHeld2:Ov V W:=hHeld.trans (hbx.mono HG3.o)
     (try replace HO9:=Aa (HO9.o.kept hgr (Or.inr (fun e=>by have e3:b9=b3:=Option.some.inj (show some b9=some b3 from e);(try have h3:=HS3.o);(try have h7:=HS7.o);(try have h9:=HS9.o);(try have h12:=HS12.o);(try have h15:=HS15.o);(try have h17:=HS17.o);omega))))
     (try replace HZ:=Aa (HZ.o.grown (g:=b3) hgr (fun e=>by (try have h3:=HS3.o);(try have h7:=HS7.o);(try have h9:=HS9.o);(try have h12:=HS12.o);(try have h15:=HS15.o);(try have h17:=HS17.o);omega)))
     have HO7:=Aa hown
     obtain ⟨g1,g2,g3 ,rfl⟩:=Ak hown
     refine Ao rfl _ _ _ rfl _ _ _ _ rfl rfl hrun ?_
     clear hrun hown hgr hat hbx HO3
     refine xK hK (hHeld2) fun hHeld=>?_
     clear hK K
     refine kO 8 ?_
     refine rdB 12 17 rfl (fun K hK=>?_) rfl fun K hK=>?_
     ·obtain ⟨Wd,rfl⟩:=nm W
      obtain ⟨v12,W,hrun,hown,hgr,hat⟩:=BG (AM.over HP.o.speak (HWV.o.trans (hHeld.mono HWV.o.size))) HO9.o HSP.o (Nat.le_of_lt (A9 HO9.o))
      have HS12:Hx (Wd.heap.size<=W.heap.size):=hgr.size
      have HA12:Hx (v12.ownBlock=some b9\/(v12.ownBlock=some Wd.heap.size/\Wd.heap.size < W.heap.size)):=hat.imp id (fun e=>⟨e,(An hown e).2⟩)
      have hbx:=Au HO9.o hgr (Nat.le_of_lt (A9 HO9.o))
      have hHeld2:Ov V W:=hHeld.trans (hbx.mono HG9.o)
      replace HO7:=Aa (HO7.o.kept hgr (Or.inr (fun e=>by
       (try have h3:=HS3.o);(try have h7:=HS7.o);(try have h9:=HS9.o);(try have h12:=HS12.o);(try have h15:=HS15.o);(try have h17:=HS17.o)
       rcases HA7.o with q | ⟨q,q2⟩
       ·have e3:b9=b3:=Option.some.inj (show some b9=some b3 from e.symm.trans q)
        omega
       ·have e3:=Option.some.inj (show some b9=some _ from e.symm.trans q)
        omega)))
      (try replace HZ:=Aa (HZ.o.grown (g:=b9) hgr (fun e=>by (try have h3:=HS3.o);(try have h7:=HS7.o);(try have h9:=HS9.o);(try have h12:=HS12.o);(try have h15:=HS15.o);(try have h17:=HS17.o);omega)))
      have HO12:=Aa hown
      obtain ⟨s1,s2,s3 ,rfl⟩:=Ak hown
      refine Ao rfl _ _ _ rfl _ _ _ _ rfl rfl hrun ?_
      clear hrun hown hgr hat hbx HO9
      refine xK hK (hHeld2) fun hHeld=>?_
      clear hK K
      refine rdB 15 17 rfl (fun K hK=>?_) rfl fun K hK=>?_
      ·go_simp
       obtain ⟨Wc,rfl⟩:=nm W
       refine (KM.o _ hHeld).mono ?_
       rintro e0 W ⟨m1,m3,rfl,hoff,hb⟩
       have HOL:Hx (∀ g,(g < Wc.heap.size\/W.heap.size<=g)->Off V.heap.size (some g) W _):=fun g hg=>BT hoff hHeld.size hg
       have HS15:Hx (Wc.heap.size<=W.heap.size):=hb.size
       (try replace HO3:=Aa (Ad HO3.o hb))
       (try replace HO7:=Aa (Ad HO7.o hb))
       (try replace HO9:=Aa (Ad HO9.o hb))
       (try replace HO12:=Aa (Ad HO12.o hb))
       (try replace HZ:=Aa (HZ.o.over hb))
       clear hoff
       go_simp
       refine xK hK (Ac hHeld hb) fun hHeld=>?_
       clear hK K
       refine kO 16 ?_
       refine rdA 17 rfl fun K hK=>?_
       obtain ⟨Wd,rfl⟩:=nm W
       obtain ⟨W,hW2⟩:=nm (Wd.alloc (ze #[U zd 0,O none 0 0,O none 0 0,O none 0 0,O none 0 0,O none 0 0,O none 0 0,O none 0 0] 31))
       have hb:Ov Wd W:=by rw [hW2];exact bA _ _
       obtain ⟨bo,hq⟩:∃ b:Nat,b=Wd.heap.size:=⟨_,rfl⟩
       have HZ:Hx (Z8 bo W):=by rw [hq,hW2];exact Cm _ _
       have HS17:Hx (bo=Wd.heap.size/\W.heap.size=Wd.heap.size+1):=⟨hq,by rw [hW2];simp⟩
       have HGQ:Hx (V.heap.size<=bo):=by rw [hq];exact hHeld.size
       (try replace HO3:=Aa (Ad HO3.o hb))
       (try replace HO7:=Aa (Ad HO7.o hb))
       (try replace HO9:=Aa (Ad HO9.o hb))
       (try replace HO12:=Aa (Ad HO12.o hb))
       (try replace HOL:=Aa (fun g hg=>(HOL.o g hg).over hb))
       go_simp
       rw [<-hW2,<-hq]
       clear hW2 hq
       refine xK hK (Ac hHeld hb) fun hHeld=>?_
       clear hK K
       refine rdA 18 rfl fun K hK=>?_
       obtain ⟨d0,d1,d2,d3,d4,d5,d6,d7⟩:=rc8 HZ.o.row
       have p0:=HZ.o.fz 0
       have p1:=HZ.o.fz 1
       have p2:=HZ.o.fz 2
       have p3:=HZ.o.fz 3
       have p4:=HZ.o.fz 4
       have p5:=HZ.o.fz 5
       have p6:=HZ.o.fz 6
       have p7:=HZ.o.fz 7
       obtain ⟨W9,hW9⟩:=nm (Bk W bo (U zd m) (O g1 g2 g3) (O s1 s2 s3) (O none 0 0) (O none 0 0) (O none 0 0) (O none 0 0) (O m1 l.length m3))
       have hg9:W.grownBy W9 (some bo):=by rw [hW9];exact A6 _ _
       have HB9:Hx (Ov V W9):=Bi hHeld hg9 HGQ.o (Nat.le_refl _)
       have HR9:Hx (Ae [U zd m,O g1 g2 g3,O s1 s2 s3,O none 0 0,O none 0 0,O none 0 0,O none 0 0,O m1 l.length m3] W9 bo):=by rw [hW9];exact HZ.o.fill _ _ _ _ _ _ _ _
       have HF9:Hx (∀ q,W9.frozen? ⟨bo,q,none⟩=false):=by rw [hW9];exact fun q=>(AX _ _ _).trans (HZ.o.fz q)
       have hs9:=And.intro HS3.o (And.intro HS7.o (And.intro HS9.o (And.intro HS12.o (And.intro HS15.o HS17.o))))
       have hn7:(Value.slice g1 g2 g3).ownBlock≠some bo:=fun e=>by
        rcases HA7.o with q | ⟨q,q2⟩
        ·have e3:=Option.some.inj (q.symm.trans e)
         omega
        ·have e3:=Option.some.inj (q.symm.trans e)
         omega
       have hn12:(Value.slice s1 s2 s3).ownBlock≠some bo:=fun e=>by
        rcases HA12.o with q | ⟨q,q2⟩
        ·have e3:=Option.some.inj (q.symm.trans e)
         omega
        ·have e3:=Option.some.inj (q.symm.trans e)
         omega
       have HX9:=Aa (And.intro (And.intro (HO7.o.kept hg9 (Or.inr hn7)) hn7) (And.intro (And.intro (HO12.o.kept hg9 (Or.inr hn12)) hn12) ((HOL.o bo (by omega)).grownG hg9)))
       have HGB:=Aa (And.intro HG3.o HG9.o)
       clear hs9 hn7 hn12 hg9
       unfold Bk at hW9
       go_simp
       rw [<-hW9]
       clear hW9 d0 d1 d2 d3 d4 d5 d6 d7 p0 p1 p2 p3 p4 p5 p6 p7
       refine xK hK (HB9.o) fun hHeld=>?_
       clear hK K
       refine gE ?_
       exact AG ⟨bo,_,_,_,_,_,_,_,_,_,_,_,_,_,_,_,_,_,g1,g2,g3,s1,s2,s3,m1,m3,_,_,rfl,HB9.o,HGQ.o,HR9.o,HF9.o,HX9.o,HGB.o⟩
      ·obtain ⟨Wd,rfl⟩:=nm W
       obtain ⟨W,hW2⟩:=nm (Wd.alloc (ze #[U zd 0,O none 0 0,O none 0 0,O none 0 0,O none 0 0,O none 0 0,O none 0 0,O none 0 0] 31))
       have hb:Ov Wd W:=by rw [hW2];exact bA _ _
       obtain ⟨bo,hq⟩:∃ b:Nat,b=Wd.heap.size:=⟨_,rfl⟩
       have HZ:Hx (Z8 bo W):=by rw [hq,hW2];exact Cm _ _
       have HS17:Hx (bo=Wd.heap.size/\W.heap.size=Wd.heap.size+1):=⟨hq,by rw [hW2];simp⟩
       have HGQ:Hx (V.heap.size<=bo):=by rw [hq];exact hHeld.size
       (try replace HO3:=Aa (Ad HO3.o hb))
       (try replace HO7:=Aa (Ad HO7.o hb))
       (try replace HO9:=Aa (Ad HO9.o hb))
       (try replace HO12:=Aa (Ad HO12.o hb))
       (try replace HOL:=Aa (fun g hg=>(HOL.o g hg).over hb))
       go_simp
       rw [<-hW2,<-hq]
       clear hW2 hq
       refine xK hK (Ac hHeld hb) fun hHeld=>?_
       clear hK K
       refine rdA 15 rfl fun K hK=>?_
       go_simp
       obtain ⟨Wc,rfl⟩:=nm W
       refine (KM.o _ hHeld).mono ?_
       rintro e0 W ⟨m1,m3,rfl,hoff,hb⟩
       have HOL:Hx (∀ g,(g < Wc.heap.size\/W.heap.size<=g)->Off V.heap.size (some g) W _):=fun g hg=>BT hoff hHeld.size hg
       have HS15:Hx (Wc.heap.size<=W.heap.size):=hb.size
       (try replace HO3:=Aa (Ad HO3.o hb))
       (try replace HO7:=Aa (Ad HO7.o hb))
       (try replace HO9:=Aa (Ad HO9.o hb))
       (try replace HO12:=Aa (Ad HO12.o hb))
       (try replace HZ:=Aa (HZ.o.over hb))
       clear hoff
       go_simp
       refine xK hK (Ac hHeld hb) fun hHeld=>?_
       clear hK K
       refine kO 16 ?_
       refine rdA 18 rfl fun K hK=>?_
       obtain ⟨d0,d1,d2,d3,d4,d5,d6,d7⟩:=rc8 HZ.o.row
       have p0:=HZ.o.fz 0
       have p1:=HZ.o.fz 1
       have p2:=HZ.o.fz 2
       have p3:=HZ.o.fz 3
       have p4:=HZ.o.fz 4
       have p5:=HZ.o.fz 5
       have p6:=HZ.o.fz 6
       have p7:=HZ.o.fz 7
       obtain ⟨W9,hW9⟩:=nm (Bk W bo (U zd m) (O g1 g2 g3) (O s1 s2 s3) (O none 0 0) (O none 0 0) (O none 0 0) (O none 0 0) (O m1 l.length m3))
       have hg9:W.grownBy W9 (some bo):=by rw [hW9];exact A6 _ _
       have HB9:Hx (Ov V W9):=Bi hHeld hg9 HGQ.o (Nat.le_refl _)
       have HR9:Hx (Ae [U zd m,O g1 g2 g3,O s1 s2 s3,O none 0 0,O none 0 0,O none 0 0,O none 0 0,O m1 l.length m3] W9 bo):=by rw [hW9];exact HZ.o.fill _ _ _ _ _ _ _ _
       have HF9:Hx (∀ q,W9.frozen? ⟨bo,q,none⟩=false):=by rw [hW9];exact fun q=>(AX _ _ _).trans (HZ.o.fz q)
       have hs9:=And.intro HS3.o (And.intro HS7.o (And.intro HS9.o (And.intro HS12.o (And.intro HS15.o HS17.o))))
       have hn7:(Value.slice g1 g2 g3).ownBlock≠some bo:=fun e=>by
        rcases HA7.o with q | ⟨q,q2⟩
        ·have e3:=Option.some.inj (q.symm.trans e)
         omega
        ·have e3:=Option.some.inj (q.symm.trans e)
         omega
       have hn12:(Value.slice s1 s2 s3).ownBlock≠some bo:=fun e=>by
        rcases HA12.o with q | ⟨q,q2⟩
        ·have e3:=Option.some.inj (q.symm.trans e)
         omega
        ·have e3:=Option.some.inj (q.symm.trans e)
         omega
       have HX9:=Aa (And.intro (And.intro (HO7.o.kept hg9 (Or.inr hn7)) hn7) (And.intro (And.intro (HO12.o.kept hg9 (Or.inr hn12)) hn12) ((HOL.o bo (by omega)).grownG hg9)))
       have HGB:=Aa (And.intro HG3.o HG9.o)
       clear hs9 hn7 hn12 hg9
       unfold Bk at hW9
       go_simp
       rw [<-hW9]
       clear hW9 d0 d1 d2 d3 d4 d5 d6 d7 p0 p1 p2 p3 p4 p5 p6 p7
       refine xK hK (HB9.o) fun hHeld=>?_
       clear hK K
       refine gE ?_
       exact AG ⟨bo,_,_,_,_,_,_,_,_,_,_,_,_,_,_,_,_,_,g1,g2,g3,s1,s2,s3,m1,m3,_,_,rfl,HB9.o,HGQ.o,HR9.o,HF9.o,HX9.o,HGB.o⟩
     ·obtain ⟨Wd,rfl⟩:=nm W
      obtain ⟨W,hW2⟩:=nm (Wd.alloc (ze #[U zd 0,O none 0 0,O none 0 0,O none 0 0,O none 0 0,O none 0 0,O none 0 0,O none 0 0] 31))
      have hb:Ov Wd W:=by rw [hW2];exact bA _ _
      obtain ⟨bo,hq⟩:∃ b:Nat,b=Wd.heap.size:=⟨_,rfl⟩
      have HZ:Hx (Z8 bo W):=by rw [hq,hW2];exact Cm _ _
      have HS17:Hx (bo=Wd.heap.size/\W.heap.size=Wd.heap.size+1):=⟨hq,by rw [hW2];simp⟩
      have HGQ:Hx (V.heap.size<=bo):=by rw [hq];exact hHeld.size
      (try replace HO3:=Aa (Ad HO3.o hb))
      (try replace HO7:=Aa (Ad HO7.o hb))
      (try replace HO9:=Aa (Ad HO9.o hb))
      (try replace HO12:=Aa (Ad HO12.o hb))
      (try replace HOL:=Aa (fun g hg=>(HOL.o g hg).over hb))
      go_simp
      rw [<-hW2,<-hq]
      clear hW2 hq
      refine xK hK (Ac hHeld hb) fun hHeld=>?_
      clear hK K
      refine rdA 12 rfl fun K hK=>?_
      obtain ⟨Wd,rfl⟩:=nm W
      obtain ⟨v12,W,hrun,hown,hgr,hat⟩:=BG (AM.over HP.o.speak (HWV.o.trans (hHeld.mono HWV.o.size))) HO9.o HSP.o (Nat.le_of_lt (A9 HO9.o))
      have HS12:Hx (Wd.heap.size<=W.heap.size):=hgr.size
      have HA12:Hx (v12.ownBlock=some b9\/(v12.ownBlock=some Wd.heap.size/\Wd.heap.size < W.heap.size)):=hat.imp id (fun e=>⟨e,(An hown e).2⟩)
      have hbx:=Au HO9.o hgr (Nat.le_of_lt (A9 HO9.o))
      have hHeld2:Ov V W:=hHeld.trans (hbx.mono HG9.o)
      replace HO7:=Aa (HO7.o.kept hgr (Or.inr (fun e=>by
       (try have h3:=HS3.o);(try have h7:=HS7.o);(try have h9:=HS9.o);(try have h12:=HS12.o);(try have h15:=HS15.o);(try have h17:=HS17.o)
       rcases HA7.o with q | ⟨q,q2⟩
       ·have e3:b9=b3:=Option.some.inj (show some b9=some b3 from e.symm.trans q)
        omega
       ·have e3:=Option.some.inj (show some b9=some _ from e.symm.trans q)
        omega)))
      (try replace HZ:=Aa (HZ.o.grown (g:=b9) hgr (fun e=>by (try have h3:=HS3.o);(try have h7:=HS7.o);(try have h9:=HS9.o);(try have h12:=HS12.o);(try have h15:=HS15.o);(try have h17:=HS17.o);omega)))
      have HO12:=Aa hown
      obtain ⟨s1,s2,s3 ,rfl⟩:=Ak hown
      refine Ao rfl _ _ _ rfl _ _ _ _ rfl rfl hrun ?_
      clear hrun hown hgr hat hbx HO9
      refine xK hK (hHeld2) fun hHeld=>?_
      clear hK K
      refine rdA 15 rfl fun K hK=>?_
      go_simp
      obtain ⟨Wc,rfl⟩:=nm W
      refine (KM.o _ hHeld).mono ?_
      rintro e0 W ⟨m1,m3,rfl,hoff,hb⟩
      have HOL:Hx (∀ g,(g < Wc.heap.size\/W.heap.size<=g)->Off V.heap.size (some g) W _):=fun g hg=>BT hoff hHeld.size hg
      have HS15:Hx (Wc.heap.size<=W.heap.size):=hb.size
      (try replace HO3:=Aa (Ad HO3.o hb))
      (try replace HO7:=Aa (Ad HO7.o hb))
      (try replace HO9:=Aa (Ad HO9.o hb))
      (try replace HO12:=Aa (Ad HO12.o hb))
      (try replace HZ:=Aa (HZ.o.over hb))
      clear hoff
      go_simp
      refine xK hK (Ac hHeld hb) fun hHeld=>?_
      clear hK K
      refine kO 16 ?_
      refine rdA 18 rfl fun K hK=>?_
      obtain ⟨d0,d1,d2,d3,d4,d5,d6,d7⟩:=rc8 HZ.o.row
      have p0:=HZ.o.fz 0
      have p1:=HZ.o.fz 1
      have p2:=HZ.o.fz 2
      have p3:=HZ.o.fz 3
      have p4:=HZ.o.fz 4
      have p5:=HZ.o.fz 5
      have p6:=HZ.o.fz 6
      have p7:=HZ.o.fz 7
      obtain ⟨W9,hW9⟩:=nm (Bk W bo (U zd m) (O g1 g2 g3) (O s1 s2 s3) (O none 0 0) (O none 0 0) (O none 0 0) (O none 0 0) (O m1 l.length m3))
      have hg9:W.grownBy W9 (some bo):=by rw [hW9];exact A6 _ _
      have HB9:Hx (Ov V W9):=Bi hHeld hg9 HGQ.o (Nat.le_refl _)
      have HR9:Hx (Ae [U zd m,O g1 g2 g3,O s1 s2 s3,O none 0 0,O none 0 0,O none 0 0,O none 0 0,O m1 l.length m3] W9 bo):=by rw [hW9];exact HZ.o.fill _ _ _ _ _ _ _ _
      have HF9:Hx (∀ q,W9.frozen? ⟨bo,q,none⟩=false):=by rw [hW9];exact fun q=>(AX _ _ _).trans (HZ.o.fz q)
      have hs9:=And.intro HS3.o (And.intro HS7.o (And.intro HS9.o (And.intro HS12.o (And.intro HS15.o HS17.o))))
      have hn7:(Value.slice g1 g2 g3).ownBlock≠some bo:=fun e=>by
       rcases HA7.o with q | ⟨q,q2⟩
       ·have e3:=Option.some.inj (q.symm.trans e)
        omega
       ·have e3:=Option.some.inj (q.symm.trans e)
        omega
      have hn12:(Value.slice s1 s2 s3).ownBlock≠some bo:=fun e=>by
       rcases HA12.o with q | ⟨q,q2⟩
       ·have e3:=Option.some.inj (q.symm.trans e)
        omega
       ·have e3:=Option.some.inj (q.symm.trans e)
        omega
      have HX9:=Aa (And.intro (And.intro (HO7.o.kept hg9 (Or.inr hn7)) hn7) (And.intro (And.intro (HO12.o.kept hg9 (Or.inr hn12)) hn12) ((HOL.o bo (by omega)).grownG hg9)))
      have HGB:=Aa (And.intro HG3.o HG9.o)
      clear hs9 hn7 hn12 hg9
      unfold Bk at hW9
      go_simp
      rw [<-hW9]
      clear hW9 d0 d1 d2 d3 d4 d5 d6 d7 p0 p1 p2 p3 p4 p5 p6 p7
      refine xK hK (HB9.o) fun hHeld=>?_
      clear hK K
      refine gE ?_
      exact AG ⟨bo,_,_,_,_,_,_,_,_,_,_,_,_,_,_,_,_,_,g1,g2,g3,s1,s2,s3,m1,m3,_,_,rfl,HB9.o,HGQ.o,HR9.o,HF9.o,HX9.o,HGB.o⟩
    ·obtain ⟨Wd,rfl⟩:=nm W
     obtain ⟨W,hW2⟩:=nm (Wd.alloc (ze #[U zd 0,O none 0 0,O none 0 0,O none 0 0,O none 0 0,O none 0 0,O none 0 0,O none 0 0] 31))
     have hb:Ov Wd W:=by rw [hW2];exact bA _ _
     obtain ⟨bo,hq⟩:∃ b:Nat,b=Wd.heap.size:=⟨_,rfl⟩
     have HZ:Hx (Z8 bo W):=by rw [hq,hW2];exact Cm _ _
     have HS17:Hx (bo=Wd.heap.size/\W.heap.size=Wd.heap.size+1):=⟨hq,by rw [hW2];simp⟩
     have HGQ:Hx (V.heap.size<=bo):=by rw [hq];exact hHeld.size
     (try replace HO3:=Aa (Ad HO3.o hb))
     (try replace HO7:=Aa (Ad HO7.o hb))
     (try replace HO9:=Aa (Ad HO9.o hb))
     (try replace HO12:=Aa (Ad HO12.o hb))
     (try replace HOL:=Aa (fun g hg=>(HOL.o g hg).over hb))
     go_simp
     rw [<-hW2,<-hq]
     clear hW2 hq
     refine xK hK (Ac hHeld hb) fun hHeld=>?_
     clear hK K
     refine rdA 7 rfl fun K hK=>?_
     obtain ⟨Wd,rfl⟩:=nm W
     obtain ⟨v7,W,hrun,hown,hgr,hat⟩:=D6 (Af HP.o.grants (HWV.o.trans (hHeld.mono HWV.o.size))) HO3.o H20.o (Nat.le_of_lt (A9 HO3.o))
     have HS7:Hx (Wd.heap.size<=W.heap.size):=hgr.size
     have HA7:Hx (v7.ownBlock=some b3\/(v7.ownBlock=some Wd.heap.size/\Wd.heap.size < W.heap.size)):=hat.imp id (fun e=>⟨e,(An hown e).2⟩)
     have hbx:=Au HO3.o hgr (Nat.le_of_lt (A9 HO3.o))
     have hHeld2:Ov V W:=hHeld.trans (hbx.mono HG3.o)
     (try replace HO9:=Aa (HO9.o.kept hgr (Or.inr (fun e=>by have e3:b9=b3:=Option.some.inj (show some b9=some b3 from e);(try have h3:=HS3.o);(try have h7:=HS7.o);(try have h9:=HS9.o);(try have h12:=HS12.o);(try have h15:=HS15.o);(try have h17:=HS17.o);omega))))
     (try replace HZ:=Aa (HZ.o.grown (g:=b3) hgr (fun e=>by (try have h3:=HS3.o);(try have h7:=HS7.o);(try have h9:=HS9.o);(try have h12:=HS12.o);(try have h15:=HS15.o);(try have h17:=HS17.o);omega)))
     have HO7:=Aa hown
     obtain ⟨g1,g2,g3 ,rfl⟩:=Ak hown
     refine Ao rfl _ _ _ rfl _ _ _ _ rfl rfl hrun ?_
     clear hrun hown hgr hat hbx HO3
     refine xK hK (hHeld2) fun hHeld=>?_
     clear hK K
     refine kO 8 ?_
     refine rdA 12 rfl fun K hK=>?_
     obtain ⟨Wd,rfl⟩:=nm W
     obtain ⟨v12,W,hrun,hown,hgr,hat⟩:=BG (AM.over HP.o.speak (HWV.o.trans (hHeld.mono HWV.o.size))) HO9.o HSP.o (Nat.le_of_lt (A9 HO9.o))
     have HS12:Hx (Wd.heap.size<=W.heap.size):=hgr.size
     have HA12:Hx (v12.ownBlock=some b9\/(v12.ownBlock=some Wd.heap.size/\Wd.heap.size < W.heap.size)):=hat.imp id (fun e=>⟨e,(An hown e).2⟩)
     have hbx:=Au HO9.o hgr (Nat.le_of_lt (A9 HO9.o))
     have hHeld2:Ov V W:=hHeld.trans (hbx.mono HG9.o)
     replace HO7:=Aa (HO7.o.kept hgr (Or.inr (fun e=>by
      (try have h3:=HS3.o);(try have h7:=HS7.o);(try have h9:=HS9.o);(try have h12:=HS12.o);(try have h15:=HS15.o);(try have h17:=HS17.o)
      rcases HA7.o with q | ⟨q,q2⟩
      ·have e3:b9=b3:=Option.some.inj (show some b9=some b3 from e.symm.trans q)
       omega
      ·have e3:=Option.some.inj (show some b9=some _ from e.symm.trans q)
       omega)))
     (try replace HZ:=Aa (HZ.o.grown (g:=b9) hgr (fun e=>by (try have h3:=HS3.o);(try have h7:=HS7.o);(try have h9:=HS9.o);(try have h12:=HS12.o);(try have h15:=HS15.o);(try have h17:=HS17.o);omega)))
     have HO12:=Aa hown
     obtain ⟨s1,s2,s3 ,rfl⟩:=Ak hown
     refine Ao rfl _ _ _ rfl _ _ _ _ rfl rfl hrun ?_
     clear hrun hown hgr hat hbx HO9
     refine xK hK (hHeld2) fun hHeld=>?_
     clear hK K
     refine rdA 15 rfl fun K hK=>?_
     go_simp
     obtain ⟨Wc,rfl⟩:=nm W
     refine (KM.o _ hHeld).mono ?_
     rintro e0 W ⟨m1,m3,rfl,hoff,hb⟩
     have HOL:Hx (∀ g,(g < Wc.heap.size\/W.heap.size<=g)->Off V.heap.size (some g) W _):=fun g hg=>BT hoff hHeld.size hg
     have HS15:Hx (Wc.heap.size<=W.heap.size):=hb.size
     (try replace HO3:=Aa (Ad HO3.o hb))
     (try replace HO7:=Aa (Ad HO7.o hb))
     (try replace HO9:=Aa (Ad HO9.o hb))
     (try replace HO12:=Aa (Ad HO12.o hb))
     (try replace HZ:=Aa (HZ.o.over hb))
     clear hoff
     go_simp
     refine xK hK (Ac hHeld hb) fun hHeld=>?_
     clear hK K
     refine kO 16 ?_
     refine rdA 18 rfl fun K hK=>?_
     obtain ⟨d0,d1,d2,d3,d4,d5,d6,d7⟩:=rc8 HZ.o.row
     have p0:=HZ.o.fz 0
     have p1:=HZ.o.fz 1
     have p2:=HZ.o.fz 2
     have p3:=HZ.o.fz 3
     have p4:=HZ.o.fz 4
     have p5:=HZ.o.fz 5
     have p6:=HZ.o.fz 6
     have p7:=HZ.o.fz 7
     obtain ⟨W9,hW9⟩:=nm (Bk W bo (U zd m) (O g1 g2 g3) (O s1 s2 s3) (O none 0 0) (O none 0 0) (O none 0 0) (O none 0 0) (O m1 l.length m3))
     have hg9:W.grownBy W9 (some bo):=by rw [hW9];exact A6 _ _
     have HB9:Hx (Ov V W9):=Bi hHeld hg9 HGQ.o (Nat.le_refl _)
     have HR9:Hx (Ae [U zd m,O g1 g2 g3,O s1 s2 s3,O none 0 0,O none 0 0,O none 0 0,O none 0 0,O m1 l.length m3] W9 bo):=by rw [hW9];exact HZ.o.fill _ _ _ _ _ _ _ _
     have HF9:Hx (∀ q,W9.frozen? ⟨bo,q,none⟩=false):=by rw [hW9];exact fun q=>(AX _ _ _).trans (HZ.o.fz q)
     have hs9:=And.intro HS3.o (And.intro HS7.o (And.intro HS9.o (And.intro HS12.o (And.intro HS15.o HS17.o))))
     have hn7:(Value.slice g1 g2 g3).ownBlock≠some bo:=fun e=>by
      rcases HA7.o with q | ⟨q,q2⟩
      ·have e3:=Option.some.inj (q.symm.trans e)
       omega
      ·have e3:=Option.some.inj (q.symm.trans e)
       omega
     have hn12:(Value.slice s1 s2 s3).ownBlock≠some bo:=fun e=>by
      rcases HA12.o with q | ⟨q,q2⟩
      ·have e3:=Option.some.inj (q.symm.trans e)
       omega
      ·have e3:=Option.some.inj (q.symm.trans e)
       omega
     have HX9:=Aa (And.intro (And.intro (HO7.o.kept hg9 (Or.inr hn7)) hn7) (And.intro (And.intro (HO12.o.kept hg9 (Or.inr hn12)) hn12) ((HOL.o bo (by omega)).grownG hg9)))
     have HGB:=Aa (And.intro HG3.o HG9.o)
     clear hs9 hn7 hn12 hg9
     unfold Bk at hW9
     go_simp
     rw [<-hW9]
     clear hW9 d0 d1 d2 d3 d4 d5 d6 d7 p0 p1 p2 p3 p4 p5 p6 p7
     refine xK hK (HB9.o) fun hHeld=>?_
     clear hK K
     refine gE ?_
     exact AG ⟨bo,_,_,_,_,_,_,_,_,_,_,_,_,_,_,_,_,_,g1,g2,g3,s1,s2,s3,m1,m3,_,_,rfl,HB9.o,HGQ.o,HR9.o,HF9.o,HX9.o,HGB.o⟩
   ·obtain ⟨Wd,rfl⟩:=nm W
    obtain ⟨W,hW2⟩:=nm (Wd.alloc (ze #[U zd 0,O none 0 0,O none 0 0,O none 0 0,O none 0 0,O none 0 0,O none 0 0,O none 0 0] 31))
    have hb:Ov Wd W:=by rw [hW2];exact bA _ _
    obtain ⟨bo,hq⟩:∃ b:Nat,b=Wd.heap.size:=⟨_,rfl⟩
    have HZ:Hx (Z8 bo W):=by rw [hq,hW2];exact Cm _ _
    have HS17:Hx (bo=Wd.heap.size/\W.heap.size=Wd.heap.size+1):=⟨hq,by rw [hW2];simp⟩
    have HGQ:Hx (V.heap.size<=bo):=by rw [hq];exact hHeld.size
    (try replace HO3:=Aa (Ad HO3.o hb))
    (try replace HO7:=Aa (Ad HO7.o hb))
    (try replace HO9:=Aa (Ad HO9.o hb))
    (try replace HO12:=Aa (Ad HO12.o hb))
    (try replace HOL:=Aa (fun g hg=>(HOL.o g hg).over hb))
    go_simp
    rw [<-hW2,<-hq]
    clear hW2 hq
    refine xK hK (Ac hHeld hb) fun hHeld=>?_
    clear hK K
    refine rdB 7 9 rfl (fun K hK=>?_) rfl fun K hK=>?_
    ·obtain ⟨Wd,rfl⟩:=nm W
     obtain ⟨v7,W,hrun,hown,hgr,hat⟩:=D6 (Af HP.o.grants (HWV.o.trans (hHeld.mono HWV.o.size))) HO3.o H20.o (Nat.le_of_lt (A9 HO3.o))
     have HS7:Hx (Wd.heap.size<=W.heap.size):=hgr.size
     have HA7:Hx (v7.ownBlock=some b3\/(v7.ownBlock=some Wd.heap.size/\Wd.heap.size < W.heap.size)):=hat.imp id (fun e=>⟨e,(An hown e).2⟩)
     have hbx:=Au HO3.o hgr (Nat.le_of_lt (A9 HO3.o))
     have hHeld2:Ov V W:=hHeld.trans (hbx.mono HG3.o)
     (try replace HO9:=Aa (HO9.o.kept hgr (Or.inr (fun e=>by have e3:b9=b3:=Option.some.inj (show some b9=some b3 from e);(try have h3:=HS3.o);(try have h7:=HS7.o);(try have h9:=HS9.o);(try have h12:=HS12.o);(try have h15:=HS15.o);(try have h17:=HS17.o);omega))))
     (try replace HZ:=Aa (HZ.o.grown (g:=b3) hgr (fun e=>by (try have h3:=HS3.o);(try have h7:=HS7.o);(try have h9:=HS9.o);(try have h12:=HS12.o);(try have h15:=HS15.o);(try have h17:=HS17.o);omega)))
     have HO7:=Aa hown
     obtain ⟨g1,g2,g3 ,rfl⟩:=Ak hown
     refine Ao rfl _ _ _ rfl _ _ _ _ rfl rfl hrun ?_
     clear hrun hown hgr hat hbx HO3
     refine xK hK (hHeld2) fun hHeld=>?_
     clear hK K
     refine kO 8 ?_
     refine rdA 9 rfl fun K hK=>?_
     obtain ⟨Wd,rfl⟩:=nm W
     obtain ⟨W,hW2⟩:=nm (Wd.alloc (ze #[] 3))
     have hb:Ov Wd W:=by rw [hW2];exact bA _ _
     obtain ⟨b9,hq⟩:∃ b:Nat,b=Wd.heap.size:=⟨_,rfl⟩
     have HO9:Hx (W.ownsRow b9 3 1 (O (some ⟨b9,0,none⟩) 0 0) 0 []):=by rw [hW2,hq];exact World.ownsRow_made (base:=Wd.heap.size) (e:=3) (size:=1) Wd #[] 0 (Nat.le_refl _) (by unfold maxLen;omega) rfl
     have HS9:Hx (b9=Wd.heap.size/\W.heap.size=Wd.heap.size+1):=⟨hq,by rw [hW2];simp⟩
     have HG9:Hx (V.heap.size<=b9):=by rw [hq];exact hHeld.size
     (try replace HO3:=Aa (Ad HO3.o hb))
     (try replace HO7:=Aa (Ad HO7.o hb))
     (try replace HO12:=Aa (Ad HO12.o hb))
     (try replace HZ:=Aa (HZ.o.over hb))
     (try replace HOL:=Aa (fun g hg=>(HOL.o g hg).over hb))
     go_simp
     rw [<-hW2,<-hq]
     clear hW2 hq
     refine xK hK (Ac hHeld hb) fun hHeld=>?_
     clear hK K
     refine rdA 12 rfl fun K hK=>?_
     obtain ⟨Wd,rfl⟩:=nm W
     obtain ⟨v12,W,hrun,hown,hgr,hat⟩:=BG (AM.over HP.o.speak (HWV.o.trans (hHeld.mono HWV.o.size))) HO9.o HSP.o (Nat.le_of_lt (A9 HO9.o))
     have HS12:Hx (Wd.heap.size<=W.heap.size):=hgr.size
     have HA12:Hx (v12.ownBlock=some b9\/(v12.ownBlock=some Wd.heap.size/\Wd.heap.size < W.heap.size)):=hat.imp id (fun e=>⟨e,(An hown e).2⟩)
     have hbx:=Au HO9.o hgr (Nat.le_of_lt (A9 HO9.o))
     have hHeld2:Ov V W:=hHeld.trans (hbx.mono HG9.o)
     replace HO7:=Aa (HO7.o.kept hgr (Or.inr (fun e=>by
      (try have h3:=HS3.o);(try have h7:=HS7.o);(try have h9:=HS9.o);(try have h12:=HS12.o);(try have h15:=HS15.o);(try have h17:=HS17.o)
      rcases HA7.o with q | ⟨q,q2⟩
      ·have e3:b9=b3:=Option.some.inj (show some b9=some b3 from e.symm.trans q)
       omega
      ·have e3:=Option.some.inj (show some b9=some _ from e.symm.trans q)
       omega)))
     (try replace HZ:=Aa (HZ.o.grown (g:=b9) hgr (fun e=>by (try have h3:=HS3.o);(try have h7:=HS7.o);(try have h9:=HS9.o);(try have h12:=HS12.o);(try have h15:=HS15.o);(try have h17:=HS17.o);omega)))
     have HO12:=Aa hown
     obtain ⟨s1,s2,s3 ,rfl⟩:=Ak hown
     refine Ao rfl _ _ _ rfl _ _ _ _ rfl rfl hrun ?_
     clear hrun hown hgr hat hbx HO9
     refine xK hK (hHeld2) fun hHeld=>?_
     clear hK K
     refine rdA 15 rfl fun K hK=>?_
     go_simp
     obtain ⟨Wc,rfl⟩:=nm W
     refine (KM.o _ hHeld).mono ?_
     rintro e0 W ⟨m1,m3,rfl,hoff,hb⟩
     have HOL:Hx (∀ g,(g < Wc.heap.size\/W.heap.size<=g)->Off V.heap.size (some g) W _):=fun g hg=>BT hoff hHeld.size hg
     have HS15:Hx (Wc.heap.size<=W.heap.size):=hb.size
     (try replace HO3:=Aa (Ad HO3.o hb))
     (try replace HO7:=Aa (Ad HO7.o hb))
     (try replace HO9:=Aa (Ad HO9.o hb))
     (try replace HO12:=Aa (Ad HO12.o hb))
     (try replace HZ:=Aa (HZ.o.over hb))
     clear hoff
     go_simp
     refine xK hK (Ac hHeld hb) fun hHeld=>?_
     clear hK K
     refine kO 16 ?_
     refine rdA 18 rfl fun K hK=>?_
     obtain ⟨d0,d1,d2,d3,d4,d5,d6,d7⟩:=rc8 HZ.o.row
     have p0:=HZ.o.fz 0
     have p1:=HZ.o.fz 1
     have p2:=HZ.o.fz 2
     have p3:=HZ.o.fz 3
     have p4:=HZ.o.fz 4
     have p5:=HZ.o.fz 5
     have p6:=HZ.o.fz 6
     have p7:=HZ.o.fz 7
     obtain ⟨W9,hW9⟩:=nm (Bk W bo (U zd m) (O g1 g2 g3) (O s1 s2 s3) (O none 0 0) (O none 0 0) (O none 0 0) (O none 0 0) (O m1 l.length m3))
     have hg9:W.grownBy W9 (some bo):=by rw [hW9];exact A6 _ _
     have HB9:Hx (Ov V W9):=Bi hHeld hg9 HGQ.o (Nat.le_refl _)
     have HR9:Hx (Ae [U zd m,O g1 g2 g3,O s1 s2 s3,O none 0 0,O none 0 0,O none 0 0,O none 0 0,O m1 l.length m3] W9 bo):=by rw [hW9];exact HZ.o.fill _ _ _ _ _ _ _ _
     have HF9:Hx (∀ q,W9.frozen? ⟨bo,q,none⟩=false):=by rw [hW9];exact fun q=>(AX _ _ _).trans (HZ.o.fz q)
     have hs9:=And.intro HS3.o (And.intro HS7.o (And.intro HS9.o (And.intro HS12.o (And.intro HS15.o HS17.o))))
     have hn7:(Value.slice g1 g2 g3).ownBlock≠some bo:=fun e=>by
      rcases HA7.o with q | ⟨q,q2⟩
      ·have e3:=Option.some.inj (q.symm.trans e)
       omega
      ·have e3:=Option.some.inj (q.symm.trans e)
       omega
     have hn12:(Value.slice s1 s2 s3).ownBlock≠some bo:=fun e=>by
      rcases HA12.o with q | ⟨q,q2⟩
      ·have e3:=Option.some.inj (q.symm.trans e)
       omega
      ·have e3:=Option.some.inj (q.symm.trans e)
       omega
     have HX9:=Aa (And.intro (And.intro (HO7.o.kept hg9 (Or.inr hn7)) hn7) (And.intro (And.intro (HO12.o.kept hg9 (Or.inr hn12)) hn12) ((HOL.o bo (by omega)).grownG hg9)))
     have HGB:=Aa (And.intro HG3.o HG9.o)
     clear hs9 hn7 hn12 hg9
     unfold Bk at hW9
     go_simp
     rw [<-hW9]
     clear hW9 d0 d1 d2 d3 d4 d5 d6 d7 p0 p1 p2 p3 p4 p5 p6 p7
     refine xK hK (HB9.o) fun hHeld=>?_
     clear hK K
     refine gE ?_
     exact AG ⟨bo,_,_,_,_,_,_,_,_,_,_,_,_,_,_,_,_,_,g1,g2,g3,s1,s2,s3,m1,m3,_,_,rfl,HB9.o,HGQ.o,HR9.o,HF9.o,HX9.o,HGB.o⟩
    ·obtain ⟨Wd,rfl⟩:=nm W
     obtain ⟨W,hW2⟩:=nm (Wd.alloc (ze #[] 3))
     have hb:Ov Wd W:=by rw [hW2];exact bA _ _
     obtain ⟨b9,hq⟩:∃ b:Nat,b=Wd.heap.size:=⟨_,rfl⟩
     have HO9:Hx (W.ownsRow b9 3 1 (O (some ⟨b9,0,none⟩) 0 0) 0 []):=by rw [hW2,hq];exact World.ownsRow_made (base:=Wd.heap.size) (e:=3) (size:=1) Wd #[] 0 (Nat.le_refl _) (by unfold maxLen;omega) rfl
     have HS9:Hx (b9=Wd.heap.size/\W.heap.size=Wd.heap.size+1):=⟨hq,by rw [hW2];simp⟩
     have HG9:Hx (V.heap.size<=b9):=by rw [hq];exact hHeld.size
     (try replace HO3:=Aa (Ad HO3.o hb))
     (try replace HO7:=Aa (Ad HO7.o hb))
     (try replace HO12:=Aa (Ad HO12.o hb))
     (try replace HZ:=Aa (HZ.o.over hb))
     (try replace HOL:=Aa (fun g hg=>(HOL.o g hg).over hb))
     go_simp
     rw [<-hW2,<-hq]
     clear hW2 hq
     refine xK hK (Ac hHeld hb) fun hHeld=>?_
     clear hK K
     refine rdA 7 rfl fun K hK=>?_
     obtain ⟨Wd,rfl⟩:=nm W
     obtain ⟨v7,W,hrun,hown,hgr,hat⟩:=D6 (Af HP.o.grants (HWV.o.trans (hHeld.mono HWV.o.size))) HO3.o H20.o (Nat.le_of_lt (A9 HO3.o))
     have HS7:Hx (Wd.heap.size<=W.heap.size):=hgr.size
     have HA7:Hx (v7.ownBlock=some b3\/(v7.ownBlock=some Wd.heap.size/\Wd.heap.size < W.heap.size)):=hat.imp id (fun e=>⟨e,(An hown e).2⟩)
     have hbx:=Au HO3.o hgr (Nat.le_of_lt (A9 HO3.o))
     have hHeld2:Ov V W:=hHeld.trans (hbx.mono HG3.o)
     (try replace HO9:=Aa (HO9.o.kept hgr (Or.inr (fun e=>by have e3:b9=b3:=Option.some.inj (show some b9=some b3 from e);(try have h3:=HS3.o);(try have h7:=HS7.o);(try have h9:=HS9.o);(try have h12:=HS12.o);(try have h15:=HS15.o);(try have h17:=HS17.o);omega))))
     (try replace HZ:=Aa (HZ.o.grown (g:=b3) hgr (fun e=>by (try have h3:=HS3.o);(try have h7:=HS7.o);(try have h9:=HS9.o);(try have h12:=HS12.o);(try have h15:=HS15.o);(try have h17:=HS17.o);omega)))
     have HO7:=Aa hown
     obtain ⟨g1,g2,g3 ,rfl⟩:=Ak hown
     refine Ao rfl _ _ _ rfl _ _ _ _ rfl rfl hrun ?_
     clear hrun hown hgr hat hbx HO3
     refine xK hK (hHeld2) fun hHeld=>?_
     clear hK K
     refine kO 8 ?_
     refine rdA 12 rfl fun K hK=>?_
     obtain ⟨Wd,rfl⟩:=nm W
     obtain ⟨v12,W,hrun,hown,hgr,hat⟩:=BG (AM.over HP.o.speak (HWV.o.trans (hHeld.mono HWV.o.size))) HO9.o HSP.o (Nat.le_of_lt (A9 HO9.o))
     have HS12:Hx (Wd.heap.size<=W.heap.size):=hgr.size
     have HA12:Hx (v12.ownBlock=some b9\/(v12.ownBlock=some Wd.heap.size/\Wd.heap.size < W.heap.size)):=hat.imp id (fun e=>⟨e,(An hown e).2⟩)
     have hbx:=Au HO9.o hgr (Nat.le_of_lt (A9 HO9.o))
     have hHeld2:Ov V W:=hHeld.trans (hbx.mono HG9.o)
     replace HO7:=Aa (HO7.o.kept hgr (Or.inr (fun e=>by
      (try have h3:=HS3.o);(try have h7:=HS7.o);(try have h9:=HS9.o);(try have h12:=HS12.o);(try have h15:=HS15.o);(try have h17:=HS17.o)
      rcases HA7.o with q | ⟨q,q2⟩
      ·have e3:b9=b3:=Option.some.inj (show some b9=some b3 from e.symm.trans q)
       omega
      ·have e3:=Option.some.inj (show some b9=some _ from e.symm.trans q)
       omega)))
     (try replace HZ:=Aa (HZ.o.grown (g:=b9) hgr (fun e=>by (try have h3:=HS3.o);(try have h7:=HS7.o);(try have h9:=HS9.o);(try have h12:=HS12.o);(try have h15:=HS15.o);(try have h17:=HS17.o);omega)))
     have HO12:=Aa hown
     obtain ⟨s1,s2,s3 ,rfl⟩:=Ak hown
     refine Ao rfl _ _ _ rfl _ _ _ _ rfl rfl hrun ?_
     clear hrun hown hgr hat hbx HO9
     refine xK hK (hHeld2) fun hHeld=>?_
     clear hK K
     refine rdA 15 rfl fun K hK=>?_
     go_simp
     obtain ⟨Wc,rfl⟩:=nm W
     refine (KM.o _ hHeld).mono ?_
     rintro e0 W ⟨m1,m3,rfl,hoff,hb⟩
     have HOL:Hx (∀ g,(g < Wc.heap.size\/W.heap.size<=g)->Off V.heap.size (some g) W _):=fun g hg=>BT hoff hHeld.size hg
     have HS15:Hx (Wc.heap.size<=W.heap.size):=hb.size
     (try replace HO3:=Aa (Ad HO3.o hb))
     (try replace HO7:=Aa (Ad HO7.o hb))
     (try replace HO9:=Aa (Ad HO9.o hb))
     (try replace HO12:=Aa (Ad HO12.o hb))
     (try replace HZ:=Aa (HZ.o.over hb))
     clear hoff
     go_simp
     refine xK hK (Ac hHeld hb) fun hHeld=>?_
     clear hK K
     refine kO 16 ?_
     refine rdA 18 rfl fun K hK=>?_
     obtain ⟨d0,d1,d2,d3,d4,d5,d6,d7⟩:=rc8 HZ.o.row
     have p0:=HZ.o.fz 0
     have p1:=HZ.o.fz 1
     have p2:=HZ.o.fz 2
     have p3:=HZ.o.fz 3
     have p4:=HZ.o.fz 4
     have p5:=HZ.o.fz 5
     have p6:=HZ.o.fz 6
     have p7:=HZ.o.fz 7
     obtain ⟨W9,hW9⟩:=nm (Bk W bo (U zd m) (O g1 g2 g3) (O s1 s2 s3) (O none 0 0) (O none 0 0) (O none 0 0) (O none 0 0) (O m1 l.length m3))
     have hg9:W.grownBy W9 (some bo):=by rw [hW9];exact A6 _ _
     have HB9:Hx (Ov V W9):=Bi hHeld hg9 HGQ.o (Nat.le_refl _)
     have HR9:Hx (Ae [U zd m,O g1 g2 g3,O s1 s2 s3,O none 0 0,O none 0 0,O none 0 0,O none 0 0,O m1 l.length m3] W9 bo):=by rw [hW9];exact HZ.o.fill _ _ _ _ _ _ _ _
     have HF9:Hx (∀ q,W9.frozen? ⟨bo,q,none⟩=false):=by rw [hW9];exact fun q=>(AX _ _ _).trans (HZ.o.fz q)
     have hs9:=And.intro HS3.o (And.intro HS7.o (And.intro HS9.o (And.intro HS12.o (And.intro HS15.o HS17.o))))
     have hn7:(Value.slice g1 g2 g3).ownBlock≠some bo:=fun e=>by
      rcases HA7.o with q | ⟨q,q2⟩
      ·have e3:=Option.some.inj (q.symm.trans e)
       omega
      ·have e3:=Option.some.inj (q.symm.trans e)
       omega
     have hn12:(Value.slice s1 s2 s3).ownBlock≠some bo:=fun e=>by
      rcases HA12.o with q | ⟨q,q2⟩
      ·have e3:=Option.some.inj (q.symm.trans e)
       omega
      ·have e3:=Option.some.inj (q.symm.trans e)
       omega
     have HX9:=Aa (And.intro (And.intro (HO7.o.kept hg9 (Or.inr hn7)) hn7) (And.intro (And.intro (HO12.o.kept hg9 (Or.inr hn12)) hn12) ((HOL.o bo (by omega)).grownG hg9)))
     have HGB:=Aa (And.intro HG3.o HG9.o)
     clear hs9 hn7 hn12 hg9
     unfold Bk at hW9
     go_simp
     rw [<-hW9]
     clear hW9 d0 d1 d2 d3 d4 d5 d6 d7 p0 p1 p2 p3 p4 p5 p6 p7
     refine xK hK (HB9.o) fun hHeld=>?_
     clear hK K
     refine gE ?_
     exact AG ⟨bo,_,_,_,_,_,_,_,_,_,_,_,_,_,_,_,_,_,g1,g2,g3,s1,s2,s3,m1,m3,_,_,rfl,HB9.o,HGQ.o,HR9.o,HF9.o,HX9.o,HGB.o⟩
  ·obtain ⟨Wd,rfl⟩:=nm W
   obtain ⟨W,hW2⟩:=nm (Wd.alloc (ze #[] 3))
   have hb:Ov Wd W:=by rw [hW2];exact bA _ _
   obtain ⟨b9,hq⟩:∃ b:Nat,b=Wd.heap.size:=⟨_,rfl⟩
   have HO9:Hx (W.ownsRow b9 3 1 (O (some ⟨b9,0,none⟩) 0 0) 0 []):=by rw [hW2,hq];exact World.ownsRow_made (base:=Wd.heap.size) (e:=3) (size:=1) Wd #[] 0 (Nat.le_refl _) (by unfold maxLen;omega) rfl
   have HS9:Hx (b9=Wd.heap.size/\W.heap.size=Wd.heap.size+1):=⟨hq,by rw [hW2];simp⟩
   have HG9:Hx (V.heap.size<=b9):=by rw [hq];exact hHeld.size
   (try replace HO3:=Aa (Ad HO3.o hb))
   (try replace HO7:=Aa (Ad HO7.o hb))
   (try replace HO12:=Aa (Ad HO12.o hb))
   (try replace HZ:=Aa (HZ.o.over hb))
   (try replace HOL:=Aa (fun g hg=>(HOL.o g hg).over hb))
   go_simp
   rw [<-hW2,<-hq]
   clear hW2 hq
   refine xK hK (Ac hHeld hb) fun hHeld=>?_
   clear hK K
   refine rdB 3 17 rfl (fun K hK=>?_) rfl fun K hK=>?_
   ·obtain ⟨Wd,rfl⟩:=nm W
    obtain ⟨W,hW2⟩:=nm (Wd.alloc (ze #[] 169))
    have hb:Ov Wd W:=by rw [hW2];exact bA _ _
    obtain ⟨b3,hq⟩:∃ b:Nat,b=Wd.heap.size:=⟨_,rfl⟩
    have HO3:Hx (W.ownsRow b3 169 2 (O (some ⟨b3,0,none⟩) 0 0) 0 []):=by rw [hW2,hq];exact World.ownsRow_made (base:=Wd.heap.size) (e:=169) (size:=2) Wd #[] 0 (Nat.le_refl _) (by unfold maxLen;omega) rfl
    have HS3:Hx (b3=Wd.heap.size/\W.heap.size=Wd.heap.size+1):=⟨hq,by rw [hW2];simp⟩
    have HG3:Hx (V.heap.size<=b3):=by rw [hq];exact hHeld.size
    (try replace HO7:=Aa (Ad HO7.o hb))
    (try replace HO9:=Aa (Ad HO9.o hb))
    (try replace HO12:=Aa (Ad HO12.o hb))
    (try replace HZ:=Aa (HZ.o.over hb))
    (try replace HOL:=Aa (fun g hg=>(HOL.o g hg).over hb))
    go_simp
    rw [<-hW2,<-hq]
    clear hW2 hq
    refine xK hK (Ac hHeld hb) fun hHeld=>?_
    clear hK K
    refine rdB 7 17 rfl (fun K hK=>?_) rfl fun K hK=>?_
    ·obtain ⟨Wd,rfl⟩:=nm W
     obtain ⟨v7,W,hrun,hown,hgr,hat⟩:=D6 (Af HP.o.grants (HWV.o.trans (hHeld.mono HWV.o.size))) HO3.o H20.o (Nat.le_of_lt (A9 HO3.o))
     have HS7:Hx (Wd.heap.size<=W.heap.size):=hgr.size
     have HA7:Hx (v7.ownBlock=some b3\/(v7.ownBlock=some Wd.heap.size/\Wd.heap.size < W.heap.size)):=hat.imp id (fun e=>⟨e,(An hown e).2⟩)
     have hbx:=Au HO3.o hgr (Nat.le_of_lt (A9 HO3.o))
     have hHeld2:Ov V W:=hHeld.trans (hbx.mono HG3.o)
     (try replace HO9:=Aa (HO9.o.kept hgr (Or.inr (fun e=>by have e3:b9=b3:=Option.some.inj (show some b9=some b3 from e);(try have h3:=HS3.o);(try have h7:=HS7.o);(try have h9:=HS9.o);(try have h12:=HS12.o);(try have h15:=HS15.o);(try have h17:=HS17.o);omega))))
     (try replace HZ:=Aa (HZ.o.grown (g:=b3) hgr (fun e=>by (try have h3:=HS3.o);(try have h7:=HS7.o);(try have h9:=HS9.o);(try have h12:=HS12.o);(try have h15:=HS15.o);(try have h17:=HS17.o);omega)))
     have HO7:=Aa hown
     obtain ⟨g1,g2,g3 ,rfl⟩:=Ak hown
     refine Ao rfl _ _ _ rfl _ _ _ _ rfl rfl hrun ?_
     clear hrun hown hgr hat hbx HO3
     refine xK hK (hHeld2) fun hHeld=>?_
     clear hK K
     refine kO 8 ?_
     refine rdB 12 17 rfl (fun K hK=>?_) rfl fun K hK=>?_
     ·obtain ⟨Wd,rfl⟩:=nm W
      obtain ⟨v12,W,hrun,hown,hgr,hat⟩:=BG (AM.over HP.o.speak (HWV.o.trans (hHeld.mono HWV.o.size))) HO9.o HSP.o (Nat.le_of_lt (A9 HO9.o))
      have HS12:Hx (Wd.heap.size<=W.heap.size):=hgr.size
      have HA12:Hx (v12.ownBlock=some b9\/(v12.ownBlock=some Wd.heap.size/\Wd.heap.size < W.heap.size)):=hat.imp id (fun e=>⟨e,(An hown e).2⟩)
      have hbx:=Au HO9.o hgr (Nat.le_of_lt (A9 HO9.o))
      have hHeld2:Ov V W:=hHeld.trans (hbx.mono HG9.o)
      replace HO7:=Aa (HO7.o.kept hgr (Or.inr (fun e=>by
       (try have h3:=HS3.o);(try have h7:=HS7.o);(try have h9:=HS9.o);(try have h12:=HS12.o);(try have h15:=HS15.o);(try have h17:=HS17.o)
       rcases HA7.o with q | ⟨q,q2⟩
       ·have e3:b9=b3:=Option.some.inj (show some b9=some b3 from e.symm.trans q)
        omega
       ·have e3:=Option.some.inj (show some b9=some _ from e.symm.trans q)
        omega)))
      (try replace HZ:=Aa (HZ.o.grown (g:=b9) hgr (fun e=>by (try have h3:=HS3.o);(try have h7:=HS7.o);(try have h9:=HS9.o);(try have h12:=HS12.o);(try have h15:=HS15.o);(try have h17:=HS17.o);omega)))
      have HO12:=Aa hown
      obtain ⟨s1,s2,s3 ,rfl⟩:=Ak hown
      refine Ao rfl _ _ _ rfl _ _ _ _ rfl rfl hrun ?_
      clear hrun hown hgr hat hbx HO9
      refine xK hK (hHeld2) fun hHeld=>?_
      clear hK K
      refine rdB 15 17 rfl (fun K hK=>?_) rfl fun K hK=>?_
      ·go_simp
       obtain ⟨Wc,rfl⟩:=nm W
       refine (KM.o _ hHeld).mono ?_
       rintro e0 W ⟨m1,m3,rfl,hoff,hb⟩
       have HOL:Hx (∀ g,(g < Wc.heap.size\/W.heap.size<=g)->Off V.heap.size (some g) W _):=fun g hg=>BT hoff hHeld.size hg
       have HS15:Hx (Wc.heap.size<=W.heap.size):=hb.size
       (try replace HO3:=Aa (Ad HO3.o hb))
       (try replace HO7:=Aa (Ad HO7.o hb))
       (try replace HO9:=Aa (Ad HO9.o hb))
       (try replace HO12:=Aa (Ad HO12.o hb))
       (try replace HZ:=Aa (HZ.o.over hb))
       clear hoff
       go_simp
       refine xK hK (Ac hHeld hb) fun hHeld=>?_
       clear hK K
       refine kO 16 ?_
       refine rdA 17 rfl fun K hK=>?_
       obtain ⟨Wd,rfl⟩:=nm W
       obtain ⟨W,hW2⟩:=nm (Wd.alloc (ze #[U zd 0,O none 0 0,O none 0 0,O none 0 0,O none 0 0,O none 0 0,O none 0 0,O none 0 0] 31))
       have hb:Ov Wd W:=by rw [hW2];exact bA _ _
       obtain ⟨bo,hq⟩:∃ b:Nat,b=Wd.heap.size:=⟨_,rfl⟩
       have HZ:Hx (Z8 bo W):=by rw [hq,hW2];exact Cm _ _
       have HS17:Hx (bo=Wd.heap.size/\W.heap.size=Wd.heap.size+1):=⟨hq,by rw [hW2];simp⟩
       have HGQ:Hx (V.heap.size<=bo):=by rw [hq];exact hHeld.size
       (try replace HO3:=Aa (Ad HO3.o hb))
       (try replace HO7:=Aa (Ad HO7.o hb))
       (try replace HO9:=Aa (Ad HO9.o hb))
       (try replace HO12:=Aa (Ad HO12.o hb))
       (try replace HOL:=Aa (fun g hg=>(HOL.o g hg).over hb))
       go_simp
       rw [<-hW2,<-hq]
       clear hW2 hq
       refine xK hK (Ac hHeld hb) fun hHeld=>?_
       clear hK K
       refine rdA 18 rfl fun K hK=>?_
       obtain ⟨d0,d1,d2,d3,d4,d5,d6,d7⟩:=rc8 HZ.o.row
       have p0:=HZ.o.fz 0
       have p1:=HZ.o.fz 1
       have p2:=HZ.o.fz 2
       have p3:=HZ.o.fz 3
       have p4:=HZ.o.fz 4
       have p5:=HZ.o.fz 5
       have p6:=HZ.o.fz 6
       have p7:=HZ.o.fz 7
       obtain ⟨W9,hW9⟩:=nm (Bk W bo (U zd m) (O g1 g2 g3) (O s1 s2 s3) (O none 0 0) (O none 0 0) (O none 0 0) (O none 0 0) (O m1 l.length m3))
       have hg9:W.grownBy W9 (some bo):=by rw [hW9];exact A6 _ _
       have HB9:Hx (Ov V W9):=Bi hHeld hg9 HGQ.o (Nat.le_refl _)
       have HR9:Hx (Ae [U zd m,O g1 g2 g3,O s1 s2 s3,O none 0 0,O none 0 0,O none 0 0,O none 0 0,O m1 l.length m3] W9 bo):=by rw [hW9];exact HZ.o.fill _ _ _ _ _ _ _ _
       have HF9:Hx (∀ q,W9.frozen? ⟨bo,q,none⟩=false):=by rw [hW9];exact fun q=>(AX _ _ _).trans (HZ.o.fz q)
       have hs9:=And.intro HS3.o (And.intro HS7.o (And.intro HS9.o (And.intro HS12.o (And.intro HS15.o HS17.o))))
       have hn7:(Value.slice g1 g2 g3).ownBlock≠some bo:=fun e=>by
        rcases HA7.o with q | ⟨q,q2⟩
        ·have e3:=Option.some.inj (q.symm.trans e)
         omega
        ·have e3:=Option.some.inj (q.symm.trans e)
         omega
       have hn12:(Value.slice s1 s2 s3).ownBlock≠some bo:=fun e=>by
        rcases HA12.o with q | ⟨q,q2⟩
        ·have e3:=Option.some.inj (q.symm.trans e)
         omega
        ·have e3:=Option.some.inj (q.symm.trans e)
         omega
       have HX9:=Aa (And.intro (And.intro (HO7.o.kept hg9 (Or.inr hn7)) hn7) (And.intro (And.intro (HO12.o.kept hg9 (Or.inr hn12)) hn12) ((HOL.o bo (by omega)).grownG hg9)))
       have HGB:=Aa (And.intro HG3.o HG9.o)
       clear hs9 hn7 hn12 hg9
       unfold Bk at hW9
       go_simp
       rw [<-hW9]
       clear hW9 d0 d1 d2 d3 d4 d5 d6 d7 p0 p1 p2 p3 p4 p5 p6 p7
       refine xK hK (HB9.o) fun hHeld=>?_
       clear hK K
       refine gE ?_
       exact AG ⟨bo,_,_,_,_,_,_,_,_,_,_,_,_,_,_,_,_,_,g1,g2,g3,s1,s2,s3,m1,m3,_,_,rfl,HB9.o,HGQ.o,HR9.o,HF9.o,HX9.o,HGB.o⟩
      ·obtain ⟨Wd,rfl⟩:=nm W
       obtain ⟨W,hW2⟩:=nm (Wd.alloc (ze #[U zd 0,O none 0 0,O none 0 0,O none 0 0,O none 0 0,O none 0 0,O none 0 0,O none 0 0] 31))
       have hb:Ov Wd W:=by rw [hW2];exact bA _ _
       obtain ⟨bo,hq⟩:∃ b:Nat,b=Wd.heap.size:=⟨_,rfl⟩
       have HZ:Hx (Z8 bo W):=by rw [hq,hW2];exact Cm _ _
       have HS17:Hx (bo=Wd.heap.size/\W.heap.size=Wd.heap.size+1):=⟨hq,by rw [hW2];simp⟩
       have HGQ:Hx (V.heap.size<=bo):=by rw [hq];exact hHeld.size
       (try replace HO3:=Aa (Ad HO3.o hb))
       (try replace HO7:=Aa (Ad HO7.o hb))
       (try replace HO9:=Aa (Ad HO9.o hb))
       (try replace HO12:=Aa (Ad HO12.o hb))
       (try replace HOL:=Aa (fun g hg=>(HOL.o g hg).over hb))
       go_simp
       rw [<-hW2,<-hq]
       clear hW2 hq
       refine xK hK (Ac hHeld hb) fun hHeld=>?_
       clear hK K
       refine rdA 15 rfl fun K hK=>?_
       go_simp
       obtain ⟨Wc,rfl⟩:=nm W
       refine (KM.o _ hHeld).mono ?_
       rintro e0 W ⟨m1,m3,rfl,hoff,hb⟩
       have HOL:Hx (∀ g,(g < Wc.heap.size\/W.heap.size<=g)->Off V.heap.size (some g) W _):=fun g hg=>BT hoff hHeld.size hg
       have HS15:Hx (Wc.heap.size<=W.heap.size):=hb.size
       (try replace HO3:=Aa (Ad HO3.o hb))
       (try replace HO7:=Aa (Ad HO7.o hb))
       (try replace HO9:=Aa (Ad HO9.o hb))
       (try replace HO12:=Aa (Ad HO12.o hb))
       (try replace HZ:=Aa (HZ.o.over hb))
       clear hoff
       go_simp
       refine xK hK (Ac hHeld hb) fun hHeld=>?_
       clear hK K
       refine kO 16 ?_
       refine rdA 18 rfl fun K hK=>?_
       obtain ⟨d0,d1,d2,d3,d4,d5,d6,d7⟩:=rc8 HZ.o.row
       have p0:=HZ.o.fz 0
       have p1:=HZ.o.fz 1
       have p2:=HZ.o.fz 2
       have p3:=HZ.o.fz 3
       have p4:=HZ.o.fz 4
       have p5:=HZ.o.fz 5
       have p6:=HZ.o.fz 6
       have p7:=HZ.o.fz 7
       obtain ⟨W9,hW9⟩:=nm (Bk W bo (U zd m) (O g1 g2 g3) (O s1 s2 s3) (O none 0 0) (O none 0 0) (O none 0 0) (O none 0 0) (O m1 l.length m3))
       have hg9:W.grownBy W9 (some bo):=by rw [hW9];exact A6 _ _
       have HB9:Hx (Ov V W9):=Bi hHeld hg9 HGQ.o (Nat.le_refl _)
       have HR9:Hx (Ae [U zd m,O g1 g2 g3,O s1 s2 s3,O none 0 0,O none 0 0,O none 0 0,O none 0 0,O m1 l.length m3] W9 bo):=by rw [hW9];exact HZ.o.fill _ _ _ _ _ _ _ _
       have HF9:Hx (∀ q,W9.frozen? ⟨bo,q,none⟩=false):=by rw [hW9];exact fun q=>(AX _ _ _).trans (HZ.o.fz q)
       have hs9:=And.intro HS3.o (And.intro HS7.o (And.intro HS9.o (And.intro HS12.o (And.intro HS15.o HS17.o))))
       have hn7:(Value.slice g1 g2 g3).ownBlock≠some bo:=fun e=>by
        rcases HA7.o with q | ⟨q,q2⟩
        ·have e3:=Option.some.inj (q.symm.trans e)
         omega
        ·have e3:=Option.some.inj (q.symm.trans e)
         omega
       have hn12:(Value.slice s1 s2 s3).ownBlock≠some bo:=fun e=>by
        rcases HA12.o with q | ⟨q,q2⟩
        ·have e3:=Option.some.inj (q.symm.trans e)
         omega
        ·have e3:=Option.some.inj (q.symm.trans e)
         omega
       have HX9:=Aa (And.intro (And.intro (HO7.o.kept hg9 (Or.inr hn7)) hn7) (And.intro (And.intro (HO12.o.kept hg9 (Or.inr hn12)) hn12) ((HOL.o bo (by omega)).grownG hg9)))
       have HGB:=Aa (And.intro HG3.o HG9.o)
       clear hs9 hn7 hn12 hg9
       unfold Bk at hW9
       go_simp
       rw [<-hW9]
       clear hW9 d0 d1 d2 d3 d4 d5 d6 d7 p0 p1 p2 p3 p4 p5 p6 p7
       refine xK hK (HB9.o) fun hHeld=>?_
       clear hK K
       refine gE ?_
       exact AG ⟨bo,_,_,_,_,_,_,_,_,_,_,_,_,_,_,_,_,_,g1,g2,g3,s1,s2,s3,m1,m3,_,_,rfl,HB9.o,HGQ.o,HR9.o,HF9.o,HX9.o,HGB.o⟩
     ·obtain ⟨Wd,rfl⟩:=nm W
      obtain ⟨W,hW2⟩:=nm (Wd.alloc (ze #[U zd 0,O none 0 0,O none 0 0,O none 0 0,O none 0 0,O none 0 0,O none 0 0,O none 0 0] 31))
      have hb:Ov Wd W:=by rw [hW2];exact bA _ _
      obtain ⟨bo,hq⟩:∃ b:Nat,b=Wd.heap.size:=⟨_,rfl⟩
      have HZ:Hx (Z8 bo W):=by rw [hq,hW2];exact Cm _ _
      have HS17:Hx (bo=Wd.heap.size/\W.heap.size=Wd.heap.size+1):=⟨hq,by rw [hW2];simp⟩
      have HGQ:Hx (V.heap.size<=bo):=by rw [hq];exact hHeld.size
      (try replace HO3:=Aa (Ad HO3.o hb))
      (try replace HO7:=Aa (Ad HO7.o hb))
      (try replace HO9:=Aa (Ad HO9.o hb))
      (try replace HO12:=Aa (Ad HO12.o hb))
      (try replace HOL:=Aa (fun g hg=>(HOL.o g hg).over hb))
      go_simp
      rw [<-hW2,<-hq]
      clear hW2 hq
      refine xK hK (Ac hHeld hb) fun hHeld=>?_
      clear hK K
      refine rdA 12 rfl fun K hK=>?_
      obtain ⟨Wd,rfl⟩:=nm W
      obtain ⟨v12,W,hrun,hown,hgr,hat⟩:=BG (AM.over HP.o.speak (HWV.o.trans (hHeld.mono HWV.o.size))) HO9.o HSP.o (Nat.le_of_lt (A9 HO9.o))
      have HS12:Hx (Wd.heap.size<=W.heap.size):=hgr.size
      have HA12:Hx (v12.ownBlock=some b9\/(v12.ownBlock=some Wd.heap.size/\Wd.heap.size < W.heap.size)):=hat.imp id (fun e=>⟨e,(An hown e).2⟩)
      have hbx:=Au HO9.o hgr (Nat.le_of_lt (A9 HO9.o))
      have hHeld2:Ov V W:=hHeld.trans (hbx.mono HG9.o)
      replace HO7:=Aa (HO7.o.kept hgr (Or.inr (fun e=>by
       (try have h3:=HS3.o);(try have h7:=HS7.o);(try have h9:=HS9.o);(try have h12:=HS12.o);(try have h15:=HS15.o);(try have h17:=HS17.o)
       rcases HA7.o with q | ⟨q,q2⟩
       ·have e3:b9=b3:=Option.some.inj (show some b9=some b3 from e.symm.trans q)
        omega
       ·have e3:=Option.some.inj (show some b9=some _ from e.symm.trans q)
        omega)))
      (try replace HZ:=Aa (HZ.o.grown (g:=b9) hgr (fun e=>by (try have h3:=HS3.o);(try have h7:=HS7.o);(try have h9:=HS9.o);(try have h12:=HS12.o);(try have h15:=HS15.o);(try have h17:=HS17.o);omega)))
      have HO12:=Aa hown
      obtain ⟨s1,s2,s3 ,rfl⟩:=Ak hown
      refine Ao rfl _ _ _ rfl _ _ _ _ rfl rfl hrun ?_
      clear hrun hown hgr hat hbx HO9
      refine xK hK (hHeld2) fun hHeld=>?_
      clear hK K
      refine rdA 15 rfl fun K hK=>?_
      go_simp
      obtain ⟨Wc,rfl⟩:=nm W
      refine (KM.o _ hHeld).mono ?_
      rintro e0 W ⟨m1,m3,rfl,hoff,hb⟩
      have HOL:Hx (∀ g,(g < Wc.heap.size\/W.heap.size<=g)->Off V.heap.size (some g) W _):=fun g hg=>BT hoff hHeld.size hg
      have HS15:Hx (Wc.heap.size<=W.heap.size):=hb.size
      (try replace HO3:=Aa (Ad HO3.o hb))
      (try replace HO7:=Aa (Ad HO7.o hb))
      (try replace HO9:=Aa (Ad HO9.o hb))
      (try replace HO12:=Aa (Ad HO12.o hb))
      (try replace HZ:=Aa (HZ.o.over hb))
      clear hoff
      go_simp
      refine xK hK (Ac hHeld hb) fun hHeld=>?_
      clear hK K
      refine kO 16 ?_
      refine rdA 18 rfl fun K hK=>?_
      obtain ⟨d0,d1,d2,d3,d4,d5,d6,d7⟩:=rc8 HZ.o.row
      have p0:=HZ.o.fz 0
      have p1:=HZ.o.fz 1
      have p2:=HZ.o.fz 2
      have p3:=HZ.o.fz 3
      have p4:=HZ.o.fz 4
      have p5:=HZ.o.fz 5
      have p6:=HZ.o.fz 6
      have p7:=HZ.o.fz 7
      obtain ⟨W9,hW9⟩:=nm (Bk W bo (U zd m) (O g1 g2 g3) (O s1 s2 s3) (O none 0 0) (O none 0 0) (O none 0 0) (O none 0 0) (O m1 l.length m3))
      have hg9:W.grownBy W9 (some bo):=by rw [hW9];exact A6 _ _
      have HB9:Hx (Ov V W9):=Bi hHeld hg9 HGQ.o (Nat.le_refl _)
      have HR9:Hx (Ae [U zd m,O g1 g2 g3,O s1 s2 s3,O none 0 0,O none 0 0,O none 0 0,O none 0 0,O m1 l.length m3] W9 bo):=by rw [hW9];exact HZ.o.fill _ _ _ _ _ _ _ _
      have HF9:Hx (∀ q,W9.frozen? ⟨bo,q,none⟩=false):=by rw [hW9];exact fun q=>(AX _ _ _).trans (HZ.o.fz q)
      have hs9:=And.intro HS3.o (And.intro HS7.o (And.intro HS9.o (And.intro HS12.o (And.intro HS15.o HS17.o))))
      have hn7:(Value.slice g1 g2 g3).ownBlock≠some bo:=fun e=>by
       rcases HA7.o with q | ⟨q,q2⟩
       ·have e3:=Option.some.inj (q.symm.trans e)
        omega
       ·have e3:=Option.some.inj (q.symm.trans e)
        omega
      have hn12:(Value.slice s1 s2 s3).ownBlock≠some bo:=fun e=>by
       rcases HA12.o with q | ⟨q,q2⟩
       ·have e3:=Option.some.inj (q.symm.trans e)
        omega
       ·have e3:=Option.some.inj (q.symm.trans e)
        omega
      have HX9:=Aa (And.intro (And.intro (HO7.o.kept hg9 (Or.inr hn7)) hn7) (And.intro (And.intro (HO12.o.kept hg9 (Or.inr hn12)) hn12) ((HOL.o bo (by omega)).grownG hg9)))
      have HGB:=Aa (And.intro HG3.o HG9.o)
      clear hs9 hn7 hn12 hg9
      unfold Bk at hW9
      go_simp
      rw [<-hW9]
      clear hW9 d0 d1 d2 d3 d4 d5 d6 d7 p0 p1 p2 p3 p4 p5 p6 p7
      refine xK hK (HB9.o) fun hHeld=>?_
      clear hK K
      refine gE ?_
      exact AG ⟨bo,_,_,_,_,_,_,_,_,_,_,_,_,_,_,_,_,_,g1,g2,g3,s1,s2,s3,m1,m3,_,_,rfl,HB9.o,HGQ.o,HR9.o,HF9.o,HX9.o,HGB.o⟩
    ·obtain ⟨Wd,rfl⟩:=nm W
     obtain ⟨W,hW2⟩:=nm (Wd.alloc (ze #[U zd 0,O none 0 0,O none 0 0,O none 0 0,O none 0 0,O none 0 0,O none 0 0,O none 0 0] 31))
     have hb:Ov Wd W:=by rw [hW2];exact bA _ _
     obtain ⟨bo,hq⟩:∃ b:Nat,b=Wd.heap.size:=⟨_,rfl⟩
     have HZ:Hx (Z8 bo W):=by rw [hq,hW2];exact Cm _ _
     have HS17:Hx (bo=Wd.heap.size/\W.heap.size=Wd.heap.size+1):=⟨hq,by rw [hW2];simp⟩
     have HGQ:Hx (V.heap.size<=bo):=by rw [hq];exact hHeld.size
     (try replace HO3:=Aa (Ad HO3.o hb))
     (try replace HO7:=Aa (Ad HO7.o hb))
     (try replace HO9:=Aa (Ad HO9.o hb))
     (try replace HO12:=Aa (Ad HO12.o hb))
     (try replace HOL:=Aa (fun g hg=>(HOL.o g hg).over hb))
     go_simp
     rw [<-hW2,<-hq]
     clear hW2 hq
     refine xK hK (Ac hHeld hb) fun hHeld=>?_
     clear hK K
     refine rdA 7 rfl fun K hK=>?_
     obtain ⟨Wd,rfl⟩:=nm W
     obtain ⟨v7,W,hrun,hown,hgr,hat⟩:=D6 (Af HP.o.grants (HWV.o.trans (hHeld.mono HWV.o.size))) HO3.o H20.o (Nat.le_of_lt (A9 HO3.o))
     have HS7:Hx (Wd.heap.size<=W.heap.size):=hgr.size
     have HA7:Hx (v7.ownBlock=some b3\/(v7.ownBlock=some Wd.heap.size/\Wd.heap.size < W.heap.size)):=hat.imp id (fun e=>⟨e,(An hown e).2⟩)
     have hbx:=Au HO3.o hgr (Nat.le_of_lt (A9 HO3.o))
     have hHeld2:Ov V W:=hHeld.trans (hbx.mono HG3.o)
     (try replace HO9:=Aa (HO9.o.kept hgr (Or.inr (fun e=>by have e3:b9=b3:=Option.some.inj (show some b9=some b3 from e);(try have h3:=HS3.o);(try have h7:=HS7.o);(try have h9:=HS9.o);(try have h12:=HS12.o);(try have h15:=HS15.o);(try have h17:=HS17.o);omega))))
     (try replace HZ:=Aa (HZ.o.grown (g:=b3) hgr (fun e=>by (try have h3:=HS3.o);(try have h7:=HS7.o);(try have h9:=HS9.o);(try have h12:=HS12.o);(try have h15:=HS15.o);(try have h17:=HS17.o);omega)))
     have HO7:=Aa hown
     obtain ⟨g1,g2,g3 ,rfl⟩:=Ak hown
     refine Ao rfl _ _ _ rfl _ _ _ _ rfl rfl hrun ?_
     clear hrun hown hgr hat hbx HO3
     refine xK hK (hHeld2) fun hHeld=>?_
     clear hK K
     refine kO 8 ?_
     refine rdA 12 rfl fun K hK=>?_
     obtain ⟨Wd,rfl⟩:=nm W
     obtain ⟨v12,W,hrun,hown,hgr,hat⟩:=BG (AM.over HP.o.speak (HWV.o.trans (hHeld.mono HWV.o.size))) HO9.o HSP.o (Nat.le_of_lt (A9 HO9.o))
     have HS12:Hx (Wd.heap.size<=W.heap.size):=hgr.size
     have HA12:Hx (v12.ownBlock=some b9\/(v12.ownBlock=some Wd.heap.size/\Wd.heap.size < W.heap.size)):=hat.imp id (fun e=>⟨e,(An hown e).2⟩)
     have hbx:=Au HO9.o hgr (Nat.le_of_lt (A9 HO9.o))
     have hHeld2:Ov V W:=hHeld.trans (hbx.mono HG9.o)
     replace HO7:=Aa (HO7.o.kept hgr (Or.inr (fun e=>by
      (try have h3:=HS3.o);(try have h7:=HS7.o);(try have h9:=HS9.o);(try have h12:=HS12.o);(try have h15:=HS15.o);(try have h17:=HS17.o)
      rcases HA7.o with q | ⟨q,q2⟩
      ·have e3:b9=b3:=Option.some.inj (show some b9=some b3 from e.symm.trans q)
       omega
      ·have e3:=Option.some.inj (show some b9=some _ from e.symm.trans q)
       omega)))
     (try replace HZ:=Aa (HZ.o.grown (g:=b9) hgr (fun e=>by (try have h3:=HS3.o);(try have h7:=HS7.o);(try have h9:=HS9.o);(try have h12:=HS12.o);(try have h15:=HS15.o);(try have h17:=HS17.o);omega)))
     have HO12:=Aa hown
     obtain ⟨s1,s2,s3 ,rfl⟩:=Ak hown
     refine Ao rfl _ _ _ rfl _ _ _ _ rfl rfl hrun ?_
     clear hrun hown hgr hat hbx HO9
     refine xK hK (hHeld2) fun hHeld=>?_
     clear hK K
     refine rdA 15 rfl fun K hK=>?_
     go_simp
     obtain ⟨Wc,rfl⟩:=nm W
     refine (KM.o _ hHeld).mono ?_
     rintro e0 W ⟨m1,m3,rfl,hoff,hb⟩
     have HOL:Hx (∀ g,(g < Wc.heap.size\/W.heap.size<=g)->Off V.heap.size (some g) W _):=fun g hg=>BT hoff hHeld.size hg
     have HS15:Hx (Wc.heap.size<=W.heap.size):=hb.size
     (try replace HO3:=Aa (Ad HO3.o hb))
     (try replace HO7:=Aa (Ad HO7.o hb))
     (try replace HO9:=Aa (Ad HO9.o hb))
     (try replace HO12:=Aa (Ad HO12.o hb))
     (try replace HZ:=Aa (HZ.o.over hb))
     clear hoff
     go_simp
     refine xK hK (Ac hHeld hb) fun hHeld=>?_
     clear hK K
     refine kO 16 ?_
     refine rdA 18 rfl fun K hK=>?_
     obtain ⟨d0,d1,d2,d3,d4,d5,d6,d7⟩:=rc8 HZ.o.row
     have p0:=HZ.o.fz 0
     have p1:=HZ.o.fz 1
     have p2:=HZ.o.fz 2
     have p3:=HZ.o.fz 3
     have p4:=HZ.o.fz 4
     have p5:=HZ.o.fz 5
     have p6:=HZ.o.fz 6
     have p7:=HZ.o.fz 7
     obtain ⟨W9,hW9⟩:=nm (Bk W bo (U zd m) (O g1 g2 g3) (O s1 s2 s3) (O none 0 0) (O none 0 0) (O none 0 0) (O none 0 0) (O m1 l.length m3))
     have hg9:W.grownBy W9 (some bo):=by rw [hW9];exact A6 _ _
     have HB9:Hx (Ov V W9):=Bi hHeld hg9 HGQ.o (Nat.le_refl _)
     have HR9:Hx (Ae [U zd m,O g1 g2 g3,O s1 s2 s3,O none 0 0,O none 0 0,O none 0 0,O none 0 0,O m1 l.length m3] W9 bo):=by rw [hW9];exact HZ.o.fill _ _ _ _ _ _ _ _
     have HF9:Hx (∀ q,W9.frozen? ⟨bo,q,none⟩=false):=by rw [hW9];exact fun q=>(AX _ _ _).trans (HZ.o.fz q)
     have hs9:=And.intro HS3.o (And.intro HS7.o (And.intro HS9.o (And.intro HS12.o (And.intro HS15.o HS17.o))))
     have hn7:(Value.slice g1 g2 g3).ownBlock≠some bo:=fun e=>by
      rcases HA7.o with q | ⟨q,q2⟩
      ·have e3:=Option.some.inj (q.symm.trans e)
       omega
      ·have e3:=Option.some.inj (q.symm.trans e)
       omega
     have hn12:(Value.slice s1 s2 s3).ownBlock≠some bo:=fun e=>by
      rcases HA12.o with q | ⟨q,q2⟩
      ·have e3:=Option.some.inj (q.symm.trans e)
       omega
      ·have e3:=Option.some.inj (q.symm.trans e)
       omega
     have HX9:=Aa (And.intro (And.intro (HO7.o.kept hg9 (Or.inr hn7)) hn7) (And.intro (And.intro (HO12.o.kept hg9 (Or.inr hn12)) hn12) ((HOL.o bo (by omega)).grownG hg9)))
     have HGB:=Aa (And.intro HG3.o HG9.o)
     clear hs9 hn7 hn12 hg9
     unfold Bk at hW9
     go_simp
     rw [<-hW9]
     clear hW9 d0 d1 d2 d3 d4 d5 d6 d7 p0 p1 p2 p3 p4 p5 p6 p7
     refine xK hK (HB9.o) fun hHeld=>?_
     clear hK K
     refine gE ?_
     exact AG ⟨bo,_,_,_,_,_,_,_,_,_,_,_,_,_,_,_,_,_,g1,g2,g3,s1,s2,s3,m1,m3,_,_,rfl,HB9.o,HGQ.o,HR9.o,HF9.o,HX9.o,HGB.o⟩
   ·obtain ⟨Wd,rfl⟩:=nm W
    obtain ⟨W,hW2⟩:=nm (Wd.alloc (ze #[U zd 0,O none 0 0,O none 0 0,O none 0 0,O none 0 0,O none 0 0,O none 0 0,O none 0 0] 31))
    have hb:Ov Wd W:=by rw [hW2];exact bA _ _
    obtain ⟨bo,hq⟩:∃ b:Nat,b=Wd.heap.size:=⟨_,rfl⟩
    have HZ:Hx (Z8 bo W):=by rw [hq,hW2];exact Cm _ _
    have HS17:Hx (bo=Wd.heap.size/\W.heap.size=Wd.heap.size+1):=⟨hq,by rw [hW2];simp⟩
    have HGQ:Hx (V.heap.size<=bo):=by rw [hq];exact hHeld.size
    (try replace HO3:=Aa (Ad HO3.o hb))
    (try replace HO7:=Aa (Ad HO7.o hb))
    (try replace HO9:=Aa (Ad HO9.o hb))
    (try replace HO12:=Aa (Ad HO12.o hb))
    (try replace HOL:=Aa (fun g hg=>(HOL.o g hg).over hb))
    go_simp
    rw [<-hW2,<-hq]
    clear hW2 hq
    refine xK hK (Ac hHeld hb) fun hHeld=>?_
    clear hK K
    refine rdA 3 rfl fun K hK=>?_
    obtain ⟨Wd,rfl⟩:=nm W
    obtain ⟨W,hW2⟩:=nm (Wd.alloc (ze #[] 169))
    have hb:Ov Wd W:=by rw [hW2];exact bA _ _
    obtain ⟨b3,hq⟩:∃ b:Nat,b=Wd.heap.size:=⟨_,rfl⟩
    have HO3:Hx (W.ownsRow b3 169 2 (O (some ⟨b3,0,none⟩) 0 0) 0 []):=by rw [hW2,hq];exact World.ownsRow_made (base:=Wd.heap.size) (e:=169) (size:=2) Wd #[] 0 (Nat.le_refl _) (by unfold maxLen;omega) rfl
    have HS3:Hx (b3=Wd.heap.size/\W.heap.size=Wd.heap.size+1):=⟨hq,by rw [hW2];simp⟩
    have HG3:Hx (V.heap.size<=b3):=by rw [hq];exact hHeld.size
    (try replace HO7:=Aa (Ad HO7.o hb))
    (try replace HO9:=Aa (Ad HO9.o hb))
    (try replace HO12:=Aa (Ad HO12.o hb))
    (try replace HZ:=Aa (HZ.o.over hb))
    (try replace HOL:=Aa (fun g hg=>(HOL.o g hg).over hb))
    go_simp
    rw [<-hW2,<-hq]
    clear hW2 hq
    refine xK hK (Ac hHeld hb) fun hHeld=>?_
    clear hK K
    refine rdA 7 rfl fun K hK=>?_
    obtain ⟨Wd,rfl⟩:=nm W
    obtain ⟨v7,W,hrun,hown,hgr,hat⟩:=D6 (Af HP.o.grants (HWV.o.trans (hHeld.mono HWV.o.size))) HO3.o H20.o (Nat.le_of_lt (A9 HO3.o))
    have HS7:Hx (Wd.heap.size<=W.heap.size):=hgr.size
    have HA7:Hx (v7.ownBlock=some b3\/(v7.ownBlock=some Wd.heap.size/\Wd.heap.size < W.heap.size)):=hat.imp id (fun e=>⟨e,(An hown e).2⟩)
    have hbx:=Au HO3.o hgr (Nat.le_of_lt (A9 HO3.o))
    have hHeld2:Ov V W:=hHeld.trans (hbx.mono HG3.o)
    (try replace HO9:=Aa (HO9.o.kept hgr (Or.inr (fun e=>by have e3:b9=b3:=Option.some.inj (show some b9=some b3 from e);(try have h3:=HS3.o);(try have h7:=HS7.o);(try have h9:=HS9.o);(try have h12:=HS12.o);(try have h15:=HS15.o);(try have h17:=HS17.o);omega))))
    (try replace HZ:=Aa (HZ.o.grown (g:=b3) hgr (fun e=>by (try have h3:=HS3.o);(try have h7:=HS7.o);(try have h9:=HS9.o);(try have h12:=HS12.o);(try have h15:=HS15.o);(try have h17:=HS17.o);omega)))
    have HO7:=Aa hown
    obtain ⟨g1,g2,g3 ,rfl⟩:=Ak hown
    refine Ao rfl _ _ _ rfl _ _ _ _ rfl rfl hrun ?_
    clear hrun hown hgr hat hbx HO3
    refine xK hK (hHeld2) fun hHeld=>?_
    clear hK K
    refine kO 8 ?_
    refine rdA 12 rfl fun K hK=>?_
    obtain ⟨Wd,rfl⟩:=nm W
    obtain ⟨v12,W,hrun,hown,hgr,hat⟩:=BG (AM.over HP.o.speak (HWV.o.trans (hHeld.mono HWV.o.size))) HO9.o HSP.o (Nat.le_of_lt (A9 HO9.o))
    have HS12:Hx (Wd.heap.size<=W.heap.size):=hgr.size
    have HA12:Hx (v12.ownBlock=some b9\/(v12.ownBlock=some Wd.heap.size/\Wd.heap.size < W.heap.size)):=hat.imp id (fun e=>⟨e,(An hown e).2⟩)
    have hbx:=Au HO9.o hgr (Nat.le_of_lt (A9 HO9.o))
    have hHeld2:Ov V W:=hHeld.trans (hbx.mono HG9.o)
    replace HO7:=Aa (HO7.o.kept hgr (Or.inr (fun e=>by
     (try have h3:=HS3.o);(try have h7:=HS7.o);(try have h9:=HS9.o);(try have h12:=HS12.o);(try have h15:=HS15.o);(try have h17:=HS17.o)
     rcases HA7.o with q | ⟨q,q2⟩
     ·have e3:b9=b3:=Option.some.inj (show some b9=some b3 from e.symm.trans q)
      omega
     ·have e3:=Option.some.inj (show some b9=some _ from e.symm.trans q)
      omega)))
    (try replace HZ:=Aa (HZ.o.grown (g:=b9) hgr (fun e=>by (try have h3:=HS3.o);(try have h7:=HS7.o);(try have h9:=HS9.o);(try have h12:=HS12.o);(try have h15:=HS15.o);(try have h17:=HS17.o);omega)))
    have HO12:=Aa hown
    obtain ⟨s1,s2,s3 ,rfl⟩:=Ak hown
    refine Ao rfl _ _ _ rfl _ _ _ _ rfl rfl hrun ?_
    clear hrun hown hgr hat hbx HO9
    refine xK hK (hHeld2) fun hHeld=>?_
    clear hK K
    refine rdA 15 rfl fun K hK=>?_
    go_simp
    obtain ⟨Wc,rfl⟩:=nm W
    refine (KM.o _ hHeld).mono ?_
    rintro e0 W ⟨m1,m3,rfl,hoff,hb⟩
    have HOL:Hx (∀ g,(g < Wc.heap.size\/W.heap.size<=g)->Off V.heap.size (some g) W _):=fun g hg=>BT hoff hHeld.size hg
    have HS15:Hx (Wc.heap.size<=W.heap.size):=hb.size
    (try replace HO3:=Aa (Ad HO3.o hb))
    (try replace HO7:=Aa (Ad HO7.o hb))
    (try replace HO9:=Aa (Ad HO9.o hb))
    (try replace HO12:=Aa (Ad HO12.o hb))
    (try replace HZ:=Aa (HZ.o.over hb))
    clear hoff
    go_simp
    refine xK hK (Ac hHeld hb) fun hHeld=>?_
    clear hK K
    refine kO 16 ?_
    refine rdA 18 rfl fun K hK=>?_
    obtain ⟨d0,d1,d2,d3,d4,d5,d6,d7⟩:=rc8 HZ.o.row
    have p0:=HZ.o.fz 0
    have p1:=HZ.o.fz 1
    have p2:=HZ.o.fz 2
    have p3:=HZ.o.fz 3
    have p4:=HZ.o.fz 4
    have p5:=HZ.o.fz 5
    have p6:=HZ.o.fz 6
    have p7:=HZ.o.fz 7
    obtain ⟨W9,hW9⟩:=nm (Bk W bo (U zd m) (O g1 g2 g3) (O s1 s2 s3) (O none 0 0) (O none 0 0) (O none 0 0) (O none 0 0) (O m1 l.length m3))
    have hg9:W.grownBy W9 (some bo):=by rw [hW9];exact A6 _ _
    have HB9:Hx (Ov V W9):=Bi hHeld hg9 HGQ.o (Nat.le_refl _)
    have HR9:Hx (Ae [U zd m,O g1 g2 g3,O s1 s2 s3,O none 0 0,O none 0 0,O none 0 0,O none 0 0,O m1 l.length m3] W9 bo):=by rw [hW9];exact HZ.o.fill _ _ _ _ _ _ _ _
    have HF9:Hx (∀ q,W9.frozen? ⟨bo,q,none⟩=false):=by rw [hW9];exact fun q=>(AX _ _ _).trans (HZ.o.fz q)
    have hs9:=And.intro HS3.o (And.intro HS7.o (And.intro HS9.o (And.intro HS12.o (And.intro HS15.o HS17.o))))
    have hn7:(Value.slice g1 g2 g3).ownBlock≠some bo:=fun e=>by
     rcases HA7.o with q | ⟨q,q2⟩
     ·have e3:=Option.some.inj (q.symm.trans e)
      omega
     ·have e3:=Option.some.inj (q.symm.trans e)
      omega
    have hn12:(Value.slice s1 s2 s3).ownBlock≠some bo:=fun e=>by
     rcases HA12.o with q | ⟨q,q2⟩
     ·have e3:=Option.some.inj (q.symm.trans e)
      omega
     ·have e3:=Option.some.inj (q.symm.trans e)
      omega
    have HX9:=Aa (And.intro (And.intro (HO7.o.kept hg9 (Or.inr hn7)) hn7) (And.intro (And.intro (HO12.o.kept hg9 (Or.inr hn12)) hn12) ((HOL.o bo (by omega)).grownG hg9)))
    have HGB:=Aa (And.intro HG3.o HG9.o)
    clear hs9 hn7 hn12 hg9
    unfold Bk at hW9
    go_simp
    rw [<-hW9]
    clear hW9 d0 d1 d2 d3 d4 d5 d6 d7 p0 p1 p2 p3 p4 p5 p6 p7
    refine xK hK (HB9.o) fun hHeld=>?_
    clear hK K
    refine gE ?_
    exact AG ⟨bo,_,_,_,_,_,_,_,_,_,_,_,_,_,_,_,_,_,g1,g2,g3,s1,s2,s3,m1,m3,_,_,rfl,HB9.o,HGQ.o,HR9.o,HF9.o,HX9.o,HGB.o⟩
  ·obtain ⟨Wd,rfl⟩:=nm W
   obtain ⟨W,hW2⟩:=nm (Wd.alloc (ze #[U zd 0,O none 0 0,O none 0 0,O none 0 0,O none 0 0,O none 0 0,O none 0 0,O none 0 0] 31))
   have hb:Ov Wd W:=by rw [hW2];exact bA _ _
   obtain ⟨bo,hq⟩:∃ b:Nat,b=Wd.heap.size:=⟨_,rfl⟩
   have HZ:Hx (Z8 bo W):=by rw [hq,hW2];exact Cm _ _
   have HS17:Hx (bo=Wd.heap.size/\W.heap.size=Wd.heap.size+1):=⟨hq,by rw [hW2];simp⟩
   have HGQ:Hx (V.heap.size<=bo):=by rw [hq];exact hHeld.size
   (try replace HO3:=Aa (Ad HO3.o hb))
   (try replace HO7:=Aa (Ad HO7.o hb))
   (try replace HO9:=Aa (Ad HO9.o hb))
   (try replace HO12:=Aa (Ad HO12.o hb))
   (try replace HOL:=Aa (fun g hg=>(HOL.o g hg).over hb))
   go_simp
   rw [<-hW2,<-hq]
   clear hW2 hq
   refine xK hK (Ac hHeld hb) fun hHeld=>?_
   clear hK K
   refine rdB 3 9 rfl (fun K hK=>?_) rfl fun K hK=>?_
   ·obtain ⟨Wd,rfl⟩:=nm W
    obtain ⟨W,hW2⟩:=nm (Wd.alloc (ze #[] 169))
    have hb:Ov Wd W:=by rw [hW2];exact bA _ _
    obtain ⟨b3,hq⟩:∃ b:Nat,b=Wd.heap.size:=⟨_,rfl⟩
    have HO3:Hx (W.ownsRow b3 169 2 (O (some ⟨b3,0,none⟩) 0 0) 0 []):=by rw [hW2,hq];exact World.ownsRow_made (base:=Wd.heap.size) (e:=169) (size:=2) Wd #[] 0 (Nat.le_refl _) (by unfold maxLen;omega) rfl
    have HS3:Hx (b3=Wd.heap.size/\W.heap.size=Wd.heap.size+1):=⟨hq,by rw [hW2];simp⟩
    have HG3:Hx (V.heap.size<=b3):=by rw [hq];exact hHeld.size
    (try replace HO7:=Aa (Ad HO7.o hb))
    (try replace HO9:=Aa (Ad HO9.o hb))
    (try replace HO12:=Aa (Ad HO12.o hb))
    (try replace HZ:=Aa (HZ.o.over hb))
    (try replace HOL:=Aa (fun g hg=>(HOL.o g hg).over hb))
    go_simp
    rw [<-hW2,<-hq]
    clear hW2 hq
    refine xK hK (Ac hHeld hb) fun hHeld=>?_
    clear hK K
    refine rdB 7 9 rfl (fun K hK=>?_) rfl fun K hK=>?_
    ·obtain ⟨Wd,rfl⟩:=nm W
     obtain ⟨v7,W,hrun,hown,hgr,hat⟩:=D6 (Af HP.o.grants (HWV.o.trans (hHeld.mono HWV.o.size))) HO3.o H20.o (Nat.le_of_lt (A9 HO3.o))
     have HS7:Hx (Wd.heap.size<=W.heap.size):=hgr.size
     have HA7:Hx (v7.ownBlock=some b3\/(v7.ownBlock=some Wd.heap.size/\Wd.heap.size < W.heap.size)):=hat.imp id (fun e=>⟨e,(An hown e).2⟩)
     have hbx:=Au HO3.o hgr (Nat.le_of_lt (A9 HO3.o))
     have hHeld2:Ov V W:=hHeld.trans (hbx.mono HG3.o)
     (try replace HO9:=Aa (HO9.o.kept hgr (Or.inr (fun e=>by have e3:b9=b3:=Option.some.inj (show some b9=some b3 from e);(try have h3:=HS3.o);(try have h7:=HS7.o);(try have h9:=HS9.o);(try have h12:=HS12.o);(try have h15:=HS15.o);(try have h17:=HS17.o);omega))))
     (try replace HZ:=Aa (HZ.o.grown (g:=b3) hgr (fun e=>by (try have h3:=HS3.o);(try have h7:=HS7.o);(try have h9:=HS9.o);(try have h12:=HS12.o);(try have h15:=HS15.o);(try have h17:=HS17.o);omega)))
     have HO7:=Aa hown
     obtain ⟨g1,g2,g3 ,rfl⟩:=Ak hown
     refine Ao rfl _ _ _ rfl _ _ _ _ rfl rfl hrun ?_
     clear hrun hown hgr hat hbx HO3
     refine xK hK (hHeld2) fun hHeld=>?_
     clear hK K
     refine kO 8 ?_
     refine rdA 9 rfl fun K hK=>?_
     obtain ⟨Wd,rfl⟩:=nm W
     obtain ⟨W,hW2⟩:=nm (Wd.alloc (ze #[] 3))
     have hb:Ov Wd W:=by rw [hW2];exact bA _ _
     obtain ⟨b9,hq⟩:∃ b:Nat,b=Wd.heap.size:=⟨_,rfl⟩
     have HO9:Hx (W.ownsRow b9 3 1 (O (some ⟨b9,0,none⟩) 0 0) 0 []):=by rw [hW2,hq];exact World.ownsRow_made (base:=Wd.heap.size) (e:=3) (size:=1) Wd #[] 0 (Nat.le_refl _) (by unfold maxLen;omega) rfl
     have HS9:Hx (b9=Wd.heap.size/\W.heap.size=Wd.heap.size+1):=⟨hq,by rw [hW2];simp⟩
     have HG9:Hx (V.heap.size<=b9):=by rw [hq];exact hHeld.size
     (try replace HO3:=Aa (Ad HO3.o hb))
     (try replace HO7:=Aa (Ad HO7.o hb))
     (try replace HO12:=Aa (Ad HO12.o hb))
     (try replace HZ:=Aa (HZ.o.over hb))
     (try replace HOL:=Aa (fun g hg=>(HOL.o g hg).over hb))
     go_simp
     rw [<-hW2,<-hq]
     clear hW2 hq
     refine xK hK (Ac hHeld hb) fun hHeld=>?_
     clear hK K
     refine rdA 12 rfl fun K hK=>?_
     obtain ⟨Wd,rfl⟩:=nm W
     obtain ⟨v12,W,hrun,hown,hgr,hat⟩:=BG (AM.over HP.o.speak (HWV.o.trans (hHeld.mono HWV.o.size))) HO9.o HSP.o (Nat.le_of_lt (A9 HO9.o))
     have HS12:Hx (Wd.heap.size<=W.heap.size):=hgr.size
     have HA12:Hx (v12.ownBlock=some b9\/(v12.ownBlock=some Wd.heap.size/\Wd.heap.size < W.heap.size)):=hat.imp id (fun e=>⟨e,(An hown e).2⟩)
     have hbx:=Au HO9.o hgr (Nat.le_of_lt (A9 HO9.o))
     have hHeld2:Ov V W:=hHeld.trans (hbx.mono HG9.o)
     replace HO7:=Aa (HO7.o.kept hgr (Or.inr (fun e=>by
      (try have h3:=HS3.o);(try have h7:=HS7.o);(try have h9:=HS9.o);(try have h12:=HS12.o);(try have h15:=HS15.o);(try have h17:=HS17.o)
      rcases HA7.o with q | ⟨q,q2⟩
      ·have e3:b9=b3:=Option.some.inj (show some b9=some b3 from e.symm.trans q)
       omega
      ·have e3:=Option.some.inj (show some b9=some _ from e.symm.trans q)
       omega)))
     (try replace HZ:=Aa (HZ.o.grown (g:=b9) hgr (fun e=>by (try have h3:=HS3.o);(try have h7:=HS7.o);(try have h9:=HS9.o);(try have h12:=HS12.o);(try have h15:=HS15.o);(try have h17:=HS17.o);omega)))
     have HO12:=Aa hown
     obtain ⟨s1,s2,s3 ,rfl⟩:=Ak hown
     refine Ao rfl _ _ _ rfl _ _ _ _ rfl rfl hrun ?_
     clear hrun hown hgr hat hbx HO9
     refine xK hK (hHeld2) fun hHeld=>?_
     clear hK K
     refine rdA 15 rfl fun K hK=>?_
     go_simp
     obtain ⟨Wc,rfl⟩:=nm W
     refine (KM.o _ hHeld).mono ?_
     rintro e0 W ⟨m1,m3,rfl,hoff,hb⟩
     have HOL:Hx (∀ g,(g < Wc.heap.size\/W.heap.size<=g)->Off V.heap.size (some g) W _):=fun g hg=>BT hoff hHeld.size hg
     have HS15:Hx (Wc.heap.size<=W.heap.size):=hb.size
     (try replace HO3:=Aa (Ad HO3.o hb))
     (try replace HO7:=Aa (Ad HO7.o hb))
     (try replace HO9:=Aa (Ad HO9.o hb))
     (try replace HO12:=Aa (Ad HO12.o hb))
     (try replace HZ:=Aa (HZ.o.over hb))
     clear hoff
     go_simp
     refine xK hK (Ac hHeld hb) fun hHeld=>?_
     clear hK K
     refine kO 16 ?_
     refine rdA 18 rfl fun K hK=>?_
     obtain ⟨d0,d1,d2,d3,d4,d5,d6,d7⟩:=rc8 HZ.o.row
     have p0:=HZ.o.fz 0
     have p1:=HZ.o.fz 1
     have p2:=HZ.o.fz 2
     have p3:=HZ.o.fz 3
     have p4:=HZ.o.fz 4
     have p5:=HZ.o.fz 5
     have p6:=HZ.o.fz 6
     have p7:=HZ.o.fz 7
     obtain ⟨W9,hW9⟩:=nm (Bk W bo (U zd m) (O g1 g2 g3) (O s1 s2 s3) (O none 0 0) (O none 0 0) (O none 0 0) (O none 0 0) (O m1 l.length m3))
     have hg9:W.grownBy W9 (some bo):=by rw [hW9];exact A6 _ _
     have HB9:Hx (Ov V W9):=Bi hHeld hg9 HGQ.o (Nat.le_refl _)
     have HR9:Hx (Ae [U zd m,O g1 g2 g3,O s1 s2 s3,O none 0 0,O none 0 0,O none 0 0,O none 0 0,O m1 l.length m3] W9 bo):=by rw [hW9];exact HZ.o.fill _ _ _ _ _ _ _ _
     have HF9:Hx (∀ q,W9.frozen? ⟨bo,q,none⟩=false):=by rw [hW9];exact fun q=>(AX _ _ _).trans (HZ.o.fz q)
     have hs9:=And.intro HS3.o (And.intro HS7.o (And.intro HS9.o (And.intro HS12.o (And.intro HS15.o HS17.o))))
     have hn7:(Value.slice g1 g2 g3).ownBlock≠some bo:=fun e=>by
      rcases HA7.o with q | ⟨q,q2⟩
      ·have e3:=Option.some.inj (q.symm.trans e)
       omega
      ·have e3:=Option.some.inj (q.symm.trans e)
       omega
     have hn12:(Value.slice s1 s2 s3).ownBlock≠some bo:=fun e=>by
      rcases HA12.o with q | ⟨q,q2⟩
      ·have e3:=Option.some.inj (q.symm.trans e)
       omega
      ·have e3:=Option.some.inj (q.symm.trans e)
       omega
     have HX9:=Aa (And.intro (And.intro (HO7.o.kept hg9 (Or.inr hn7)) hn7) (And.intro (And.intro (HO12.o.kept hg9 (Or.inr hn12)) hn12) ((HOL.o bo (by omega)).grownG hg9)))
     have HGB:=Aa (And.intro HG3.o HG9.o)
     clear hs9 hn7 hn12 hg9
     unfold Bk at hW9
     go_simp
     rw [<-hW9]
     clear hW9 d0 d1 d2 d3 d4 d5 d6 d7 p0 p1 p2 p3 p4 p5 p6 p7
     refine xK hK (HB9.o) fun hHeld=>?_
     clear hK K
     refine gE ?_
     exact AG ⟨bo,_,_,_,_,_,_,_,_,_,_,_,_,_,_,_,_,_,g1,g2,g3,s1,s2,s3,m1,m3,_,_,rfl,HB9.o,HGQ.o,HR9.o,HF9.o,HX9.o,HGB.o⟩
    ·obtain ⟨Wd,rfl⟩:=nm W
     obtain ⟨W,hW2⟩:=nm (Wd.alloc (ze #[] 3))
     have hb:Ov Wd W:=by rw [hW2];exact bA _ _
     obtain ⟨b9,hq⟩:∃ b:Nat,b=Wd.heap.size:=⟨_,rfl⟩
     have HO9:Hx (W.ownsRow b9 3 1 (O (some ⟨b9,0,none⟩) 0 0) 0 []):=by rw [hW2,hq];exact World.ownsRow_made (base:=Wd.heap.size) (e:=3) (size:=1) Wd #[] 0 (Nat.le_refl _) (by unfold maxLen;omega) rfl
     have HS9:Hx (b9=Wd.heap.size/\W.heap.size=Wd.heap.size+1):=⟨hq,by rw [hW2];simp⟩
     have HG9:Hx (V.heap.size<=b9):=by rw [hq];exact hHeld.size
     (try replace HO3:=Aa (Ad HO3.o hb))
     (try replace HO7:=Aa (Ad HO7.o hb))
     (try replace HO12:=Aa (Ad HO12.o hb))
     (try replace HZ:=Aa (HZ.o.over hb))
     (try replace HOL:=Aa (fun g hg=>(HOL.o g hg).over hb))
     go_simp
     rw [<-hW2,<-hq]
     clear hW2 hq
     refine xK hK (Ac hHeld hb) fun hHeld=>?_
     clear hK K
     refine rdA 7 rfl fun K hK=>?_
     obtain ⟨Wd,rfl⟩:=nm W
     obtain ⟨v7,W,hrun,hown,hgr,hat⟩:=D6 (Af HP.o.grants (HWV.o.trans (hHeld.mono HWV.o.size))) HO3.o H20.o (Nat.le_of_lt (A9 HO3.o))
     have HS7:Hx (Wd.heap.size<=W.heap.size):=hgr.size
     have HA7:Hx (v7.ownBlock=some b3\/(v7.ownBlock=some Wd.heap.size/\Wd.heap.size < W.heap.size)):=hat.imp id (fun e=>⟨e,(An hown e).2⟩)
     have hbx:=Au HO3.o hgr (Nat.le_of_lt (A9 HO3.o))
     have hHeld2:Ov V W:=hHeld.trans (hbx.mono HG3.o)
     (try replace HO9:=Aa (HO9.o.kept hgr (Or.inr (fun e=>by have e3:b9=b3:=Option.some.inj (show some b9=some b3 from e);(try have h3:=HS3.o);(try have h7:=HS7.o);(try have h9:=HS9.o);(try have h12:=HS12.o);(try have h15:=HS15.o);(try have h17:=HS17.o);omega))))
     (try replace HZ:=Aa (HZ.o.grown (g:=b3) hgr (fun e=>by (try have h3:=HS3.o);(try have h7:=HS7.o);(try have h9:=HS9.o);(try have h12:=HS12.o);(try have h15:=HS15.o);(try have h17:=HS17.o);omega)))
     have HO7:=Aa hown
     obtain ⟨g1,g2,g3 ,rfl⟩:=Ak hown
     refine Ao rfl _ _ _ rfl _ _ _ _ rfl rfl hrun ?_
     clear hrun hown hgr hat hbx HO3
     refine xK hK (hHeld2) fun hHeld=>?_
     clear hK K
     refine kO 8 ?_
     refine rdA 12 rfl fun K hK=>?_
     obtain ⟨Wd,rfl⟩:=nm W
     obtain ⟨v12,W,hrun,hown,hgr,hat⟩:=BG (AM.over HP.o.speak (HWV.o.trans (hHeld.mono HWV.o.size))) HO9.o HSP.o (Nat.le_of_lt (A9 HO9.o))
     have HS12:Hx (Wd.heap.size<=W.heap.size):=hgr.size
     have HA12:Hx (v12.ownBlock=some b9\/(v12.ownBlock=some Wd.heap.size/\Wd.heap.size < W.heap.size)):=hat.imp id (fun e=>⟨e,(An hown e).2⟩)
     have hbx:=Au HO9.o hgr (Nat.le_of_lt (A9 HO9.o))
     have hHeld2:Ov V W:=hHeld.trans (hbx.mono HG9.o)
     replace HO7:=Aa (HO7.o.kept hgr (Or.inr (fun e=>by
      (try have h3:=HS3.o);(try have h7:=HS7.o);(try have h9:=HS9.o);(try have h12:=HS12.o);(try have h15:=HS15.o);(try have h17:=HS17.o)
      rcases HA7.o with q | ⟨q,q2⟩
      ·have e3:b9=b3:=Option.some.inj (show some b9=some b3 from e.symm.trans q)
       omega
      ·have e3:=Option.some.inj (show some b9=some _ from e.symm.trans q)
       omega)))
     (try replace HZ:=Aa (HZ.o.grown (g:=b9) hgr (fun e=>by (try have h3:=HS3.o);(try have h7:=HS7.o);(try have h9:=HS9.o);(try have h12:=HS12.o);(try have h15:=HS15.o);(try have h17:=HS17.o);omega)))
     have HO12:=Aa hown
     obtain ⟨s1,s2,s3 ,rfl⟩:=Ak hown
     refine Ao rfl _ _ _ rfl _ _ _ _ rfl rfl hrun ?_
     clear hrun hown hgr hat hbx HO9
     refine xK hK (hHeld2) fun hHeld=>?_
     clear hK K
     refine rdA 15 rfl fun K hK=>?_
     go_simp
     obtain ⟨Wc,rfl⟩:=nm W
     refine (KM.o _ hHeld).mono ?_
     rintro e0 W ⟨m1,m3,rfl,hoff,hb⟩
     have HOL:Hx (∀ g,(g < Wc.heap.size\/W.heap.size<=g)->Off V.heap.size (some g) W _):=fun g hg=>BT hoff hHeld.size hg
     have HS15:Hx (Wc.heap.size<=W.heap.size):=hb.size
     (try replace HO3:=Aa (Ad HO3.o hb))
     (try replace HO7:=Aa (Ad HO7.o hb))
     (try replace HO9:=Aa (Ad HO9.o hb))
     (try replace HO12:=Aa (Ad HO12.o hb))
     (try replace HZ:=Aa (HZ.o.over hb))
     clear hoff
     go_simp
     refine xK hK (Ac hHeld hb) fun hHeld=>?_
     clear hK K
     refine kO 16 ?_
     refine rdA 18 rfl fun K hK=>?_
     obtain ⟨d0,d1,d2,d3,d4,d5,d6,d7⟩:=rc8 HZ.o.row
     have p0:=HZ.o.fz 0
     have p1:=HZ.o.fz 1
     have p2:=HZ.o.fz 2
     have p3:=HZ.o.fz 3
     have p4:=HZ.o.fz 4
     have p5:=HZ.o.fz 5
     have p6:=HZ.o.fz 6
     have p7:=HZ.o.fz 7
     obtain ⟨W9,hW9⟩:=nm (Bk W bo (U zd m) (O g1 g2 g3) (O s1 s2 s3) (O none 0 0) (O none 0 0) (O none 0 0) (O none 0 0) (O m1 l.length m3))
     have hg9:W.grownBy W9 (some bo):=by rw [hW9];exact A6 _ _
     have HB9:Hx (Ov V W9):=Bi hHeld hg9 HGQ.o (Nat.le_refl _)
     have HR9:Hx (Ae [U zd m,O g1 g2 g3,O s1 s2 s3,O none 0 0,O none 0 0,O none 0 0,O none 0 0,O m1 l.length m3] W9 bo):=by rw [hW9];exact HZ.o.fill _ _ _ _ _ _ _ _
     have HF9:Hx (∀ q,W9.frozen? ⟨bo,q,none⟩=false):=by rw [hW9];exact fun q=>(AX _ _ _).trans (HZ.o.fz q)
     have hs9:=And.intro HS3.o (And.intro HS7.o (And.intro HS9.o (And.intro HS12.o (And.intro HS15.o HS17.o))))
     have hn7:(Value.slice g1 g2 g3).ownBlock≠some bo:=fun e=>by
      rcases HA7.o with q | ⟨q,q2⟩
      ·have e3:=Option.some.inj (q.symm.trans e)
       omega
      ·have e3:=Option.some.inj (q.symm.trans e)
       omega
     have hn12:(Value.slice s1 s2 s3).ownBlock≠some bo:=fun e=>by
      rcases HA12.o with q | ⟨q,q2⟩
      ·have e3:=Option.some.inj (q.symm.trans e)
       omega
      ·have e3:=Option.some.inj (q.symm.trans e)
       omega
     have HX9:=Aa (And.intro (And.intro (HO7.o.kept hg9 (Or.inr hn7)) hn7) (And.intro (And.intro (HO12.o.kept hg9 (Or.inr hn12)) hn12) ((HOL.o bo (by omega)).grownG hg9)))
     have HGB:=Aa (And.intro HG3.o HG9.o)
     clear hs9 hn7 hn12 hg9
     unfold Bk at hW9
     go_simp
     rw [<-hW9]
     clear hW9 d0 d1 d2 d3 d4 d5 d6 d7 p0 p1 p2 p3 p4 p5 p6 p7
     refine xK hK (HB9.o) fun hHeld=>?_
     clear hK K
     refine gE ?_
     exact AG ⟨bo,_,_,_,_,_,_,_,_,_,_,_,_,_,_,_,_,_,g1,g2,g3,s1,s2,s3,m1,m3,_,_,rfl,HB9.o,HGQ.o,HR9.o,HF9.o,HX9.o,HGB.o⟩
   ·obtain ⟨Wd,rfl⟩:=nm W
    obtain ⟨W,hW2⟩:=nm (Wd.alloc (ze #[] 3))
    have hb:Ov Wd W:=by rw [hW2];exact bA _ _
    obtain ⟨b9,hq⟩:∃ b:Nat,b=Wd.heap.size:=⟨_,rfl⟩
    have HO9:Hx (W.ownsRow b9 3 1 (O (some ⟨b9,0,none⟩) 0 0) 0 []):=by rw [hW2,hq];exact World.ownsRow_made (base:=Wd.heap.size) (e:=3) (size:=1) Wd #[] 0 (Nat.le_refl _) (by unfold maxLen;omega) rfl
    have HS9:Hx (b9=Wd.heap.size/\W.heap.size=Wd.heap.size+1):=⟨hq,by rw [hW2];simp⟩
    have HG9:Hx (V.heap.size<=b9):=by rw [hq];exact hHeld.size
    (try replace HO3:=Aa (Ad HO3.o hb))
    (try replace HO7:=Aa (Ad HO7.o hb))
    (try replace HO12:=Aa (Ad HO12.o hb))
    (try replace HZ:=Aa (HZ.o.over hb))
    (try replace HOL:=Aa (fun g hg=>(HOL.o g hg).over hb))
    go_simp
    rw [<-hW2,<-hq]
    clear hW2 hq
    refine xK hK (Ac hHeld hb) fun hHeld=>?_
    clear hK K
    refine rdA 3 rfl fun K hK=>?_
    obtain ⟨Wd,rfl⟩:=nm W
    obtain ⟨W,hW2⟩:=nm (Wd.alloc (ze #[] 169))
    have hb:Ov Wd W:=by rw [hW2];exact bA _ _
    obtain ⟨b3,hq⟩:∃ b:Nat,b=Wd.heap.size:=⟨_,rfl⟩
    have HO3:Hx (W.ownsRow b3 169 2 (O (some ⟨b3,0,none⟩) 0 0) 0 []):=by rw [hW2,hq];exact World.ownsRow_made (base:=Wd.heap.size) (e:=169) (size:=2) Wd #[] 0 (Nat.le_refl _) (by unfold maxLen;omega) rfl
    have HS3:Hx (b3=Wd.heap.size/\W.heap.size=Wd.heap.size+1):=⟨hq,by rw [hW2];simp⟩
    have HG3:Hx (V.heap.size<=b3):=by rw [hq];exact hHeld.size
    (try replace HO7:=Aa (Ad HO7.o hb))
    (try replace HO9:=Aa (Ad HO9.o hb))
    (try replace HO12:=Aa (Ad HO12.o hb))
    (try replace HZ:=Aa (HZ.o.over hb))
    (try replace HOL:=Aa (fun g hg=>(HOL.o g hg).over hb))
    go_simp
    rw [<-hW2,<-hq]
    clear hW2 hq
    refine xK hK (Ac hHeld hb) fun hHeld=>?_
    clear hK K
    refine rdA 7 rfl fun K hK=>?_
    obtain ⟨Wd,rfl⟩:=nm W
    obtain ⟨v7,W,hrun,hown,hgr,hat⟩:=D6 (Af HP.o.grants (HWV.o.trans (hHeld.mono HWV.o.size))) HO3.o H20.o (Nat.le_of_lt (A9 HO3.o))
    have HS7:Hx (Wd.heap.size<=W.heap.size):=hgr.size
    have HA7:Hx (v7.ownBlock=some b3\/(v7.ownBlock=some Wd.heap.size/\Wd.heap.size < W.heap.size)):=hat.imp id (fun e=>⟨e,(An hown e).2⟩)
    have hbx:=Au HO3.o hgr (Nat.le_of_lt (A9 HO3.o))
    have hHeld2:Ov V W:=hHeld.trans (hbx.mono HG3.o)
    (try replace HO9:=Aa (HO9.o.kept hgr (Or.inr (fun e=>by have e3:b9=b3:=Option.some.inj (show some b9=some b3 from e);(try have h3:=HS3.o);(try have h7:=HS7.o);(try have h9:=HS9.o);(try have h12:=HS12.o);(try have h15:=HS15.o);(try have h17:=HS17.o);omega))))
    (try replace HZ:=Aa (HZ.o.grown (g:=b3) hgr (fun e=>by (try have h3:=HS3.o);(try have h7:=HS7.o);(try have h9:=HS9.o);(try have h12:=HS12.o);(try have h15:=HS15.o);(try have h17:=HS17.o);omega)))
    have HO7:=Aa hown
    obtain ⟨g1,g2,g3 ,rfl⟩:=Ak hown
    refine Ao rfl _ _ _ rfl _ _ _ _ rfl rfl hrun ?_
    clear hrun hown hgr hat hbx HO3
    refine xK hK (hHeld2) fun hHeld=>?_
    clear hK K
    refine kO 8 ?_
    refine rdA 12 rfl fun K hK=>?_
    obtain ⟨Wd,rfl⟩:=nm W
    obtain ⟨v12,W,hrun,hown,hgr,hat⟩:=BG (AM.over HP.o.speak (HWV.o.trans (hHeld.mono HWV.o.size))) HO9.o HSP.o (Nat.le_of_lt (A9 HO9.o))
    have HS12:Hx (Wd.heap.size<=W.heap.size):=hgr.size
    have HA12:Hx (v12.ownBlock=some b9\/(v12.ownBlock=some Wd.heap.size/\Wd.heap.size < W.heap.size)):=hat.imp id (fun e=>⟨e,(An hown e).2⟩)
    have hbx:=Au HO9.o hgr (Nat.le_of_lt (A9 HO9.o))
    have hHeld2:Ov V W:=hHeld.trans (hbx.mono HG9.o)
    replace HO7:=Aa (HO7.o.kept hgr (Or.inr (fun e=>by
     (try have h3:=HS3.o);(try have h7:=HS7.o);(try have h9:=HS9.o);(try have h12:=HS12.o);(try have h15:=HS15.o);(try have h17:=HS17.o)
     rcases HA7.o with q | ⟨q,q2⟩
     ·have e3:b9=b3:=Option.some.inj (show some b9=some b3 from e.symm.trans q)
      omega
     ·have e3:=Option.some.inj (show some b9=some _ from e.symm.trans q)
      omega)))
    (try replace HZ:=Aa (HZ.o.grown (g:=b9) hgr (fun e=>by (try have h3:=HS3.o);(try have h7:=HS7.o);(try have h9:=HS9.o);(try have h12:=HS12.o);(try have h15:=HS15.o);(try have h17:=HS17.o);omega)))
    have HO12:=Aa hown
    obtain ⟨s1,s2,s3 ,rfl⟩:=Ak hown
    refine Ao rfl _ _ _ rfl _ _ _ _ rfl rfl hrun ?_
    clear hrun hown hgr hat hbx HO9
    refine xK hK (hHeld2) fun hHeld=>?_
    clear hK K
    refine rdA 15 rfl fun K hK=>?_
    go_simp
    obtain ⟨Wc,rfl⟩:=nm W
    refine (KM.o _ hHeld).mono ?_
    rintro e0 W ⟨m1,m3,rfl,hoff,hb⟩
    have HOL:Hx (∀ g,(g < Wc.heap.size\/W.heap.size<=g)->Off V.heap.size (some g) W _):=fun g hg=>BT hoff hHeld.size hg
    have HS15:Hx (Wc.heap.size<=W.heap.size):=hb.size
    (try replace HO3:=Aa (Ad HO3.o hb))
    (try replace HO7:=Aa (Ad HO7.o hb))
    (try replace HO9:=Aa (Ad HO9.o hb))
    (try replace HO12:=Aa (Ad HO12.o hb))
    (try replace HZ:=Aa (HZ.o.over hb))
    clear hoff
    go_simp
    refine xK hK (Ac hHeld hb) fun hHeld=>?_
    clear hK K
    refine kO 16 ?_
    refine rdA 18 rfl fun K hK=>?_
    obtain ⟨d0,d1,d2,d3,d4,d5,d6,d7⟩:=rc8 HZ.o.row
    have p0:=HZ.o.fz 0
    have p1:=HZ.o.fz 1
    have p2:=HZ.o.fz 2
    have p3:=HZ.o.fz 3
    have p4:=HZ.o.fz 4
    have p5:=HZ.o.fz 5
    have p6:=HZ.o.fz 6
    have p7:=HZ.o.fz 7
    obtain ⟨W9,hW9⟩:=nm (Bk W bo (U zd m) (O g1 g2 g3) (O s1 s2 s3) (O none 0 0) (O none 0 0) (O none 0 0) (O none 0 0) (O m1 l.length m3))
    have hg9:W.grownBy W9 (some bo):=by rw [hW9];exact A6 _ _
    have HB9:Hx (Ov V W9):=Bi hHeld hg9 HGQ.o (Nat.le_refl _)
    have HR9:Hx (Ae [U zd m,O g1 g2 g3,O s1 s2 s3,O none 0 0,O none 0 0,O none 0 0,O none 0 0,O m1 l.length m3] W9 bo):=by rw [hW9];exact HZ.o.fill _ _ _ _ _ _ _ _
    have HF9:Hx (∀ q,W9.frozen? ⟨bo,q,none⟩=false):=by rw [hW9];exact fun q=>(AX _ _ _).trans (HZ.o.fz q)
    have hs9:=And.intro HS3.o (And.intro HS7.o (And.intro HS9.o (And.intro HS12.o (And.intro HS15.o HS17.o))))
    have hn7:(Value.slice g1 g2 g3).ownBlock≠some bo:=fun e=>by
     rcases HA7.o with q | ⟨q,q2⟩
     ·have e3:=Option.some.inj (q.symm.trans e)
      omega
     ·have e3:=Option.some.inj (q.symm.trans e)
      omega
    have hn12:(Value.slice s1 s2 s3).ownBlock≠some bo:=fun e=>by
     rcases HA12.o with q | ⟨q,q2⟩
     ·have e3:=Option.some.inj (q.symm.trans e)
      omega
     ·have e3:=Option.some.inj (q.symm.trans e)
      omega
    have HX9:=Aa (And.intro (And.intro (HO7.o.kept hg9 (Or.inr hn7)) hn7) (And.intro (And.intro (HO12.o.kept hg9 (Or.inr hn12)) hn12) ((HOL.o bo (by omega)).grownG hg9)))
    have HGB:=Aa (And.intro HG3.o HG9.o)
    clear hs9 hn7 hn12 hg9
    unfold Bk at hW9
    go_simp
    rw [<-hW9]
    clear hW9 d0 d1 d2 d3 d4 d5 d6 d7 p0 p1 p2 p3 p4 p5 p6 p7
    refine xK hK (HB9.o) fun hHeld=>?_
    clear hK K
    refine gE ?_
    exact AG ⟨bo,_,_,_,_,_,_,_,_,_,_,_,_,_,_,_,_,_,g1,g2,g3,s1,s2,s3,m1,m3,_,_,rfl,HB9.o,HGQ.o,HR9.o,HF9.o,HX9.o,HGB.o⟩
 ·rintro act2 Wn ⟨bo,x9,x10,x11,x12,x13,x14,x15,x16,x17,x18,x19,x20,x21,x22,x23,x24,x25,g1,g2,g3,s1,s2,s3,m1,m3,b3,b9,rfl,hVn,hGQ,hR,hF,⟨hO7,hO12,hOL⟩,hG3,hG9⟩
  obtain ⟨hla0,hla1,hla2,hla3,hla4⟩:=info_parts Tryz.infoLa
  obtain ⟨hva0,hva1,hva2,hva3,hva4⟩:=info_parts Tryz.infoVa
  obtain ⟨hfu0,hfu1,hfu2,hfu3,hfu4⟩:=info_parts Tryz.infoFu
  have HGQ:=Aa hGQ
  have HO7:=Aa hO7
  have HO12:=Aa hO12
  have HOL:=Aa hOL
  have HG39:=Aa (And.intro hG3 hG9)
  have HR1:=Aa hR
  have HF1:=Aa hF
  have HB1:=Aa hVn
  have HBO1:Hx (bo < Wn.heap.size):=bL (hR 0 _ rfl)
  obtain ⟨Z1,rfl⟩:=nm Wn
  clear hVn hGQ hR hF hO7 hO12 hOL hG3 hG9 KM H20 HSP c0 c1 c2 c3 c4 c5 c6 c7
  go_wp2_with fail
  go_loopw [4] (fun i wi=>∃ (jj:Nat) (v:Value),jj<=ls.length/\i=U zd jj/\CpG Z1 bo [U zd m,O g1 g2 g3,O s1 s2 s3,O none 0 0,O none 0 0,O none 0 0,O none 0 0,O m1 l.length m3] 3 39 2 (fun i cs W=>∀ b,ls[i]? = some b->∃ x y,cs=[x,y]/\AC W x b.r/\AC W y b.w) jj v wi) (fun i _=>ls.length - (intOf i).toNat)
  case atStart=>exact ⟨0,O none 0 0,Nat.zero_le _,rfl,CpG.start HR1.o rfl HF1.o⟩
  case round=>
   obtain ⟨wi,rfl⟩:=nm wr
   obtain ⟨jj,v,hjj,rfl,hI⟩:=hrel
   have hVi:Ov V wi:=Bi HB1.o hI.grown HGQ.o (Nat.le_refl _)
   have q3:CE wi w.heap.size 3 (O ya ls.length yc):=(hVi.cell (p:=⟨w.heap.size,3,none⟩) (by have:=HVS.o;show w.heap.size < _;omega)).trans (HRV.o 3 _ rfl)
   have HVk:Hx (V.heap.size<=Z1.heap.size):=HB1.o.size
   by_cases hlt:jj < ls.length
   ·obtain ⟨-,ao3,cap3,hA3,hel3⟩:=HP.o.ins
    injection hA3 with hA4 hA5 hA6
    obtain ⟨b2,off2,hb2,hel⟩:=hel3 (by intro hz;rw [hz] at hlt;simp at hlt)
    obtain ⟨pr,pw,k0,k1,hpr,hpw⟩:=hel jj hlt
    have hlb:=HSM.o.lab ls[jj] (Or.inl (List.getElem_mem hlt))
    have HDJ2:Hx (ls[jj]? = some ls[jj]):=List.getElem?_eq_getElem hlt
    obtain ⟨bl,hbl⟩:=nm ls[jj]
    rw [<-hbl] at hpr hpw hlb HDJ2
    have hwi:Ov w wi:=HWV.o.trans (hVi.mono HWV.o.size)
    have HCALL:Hx (∀ W,Below V.heap.size wi W->_):=fun W (hW:Below V.heap.size wi W)=>Ms bl pr pw W (Ai hpr (hwi.trans (hW.mono HWV.o.size))) (Ai hpw (hwi.trans (hW.mono HWV.o.size))) hlb.1 hlb.2
    obtain ⟨a1,z1,rfl,-⟩:=id hpr
    obtain ⟨a2,z2,rfl,-⟩:=id hpw
    obtain ⟨r1,hr1⟩:=nm bl.r.length
    obtain ⟨r2,hr2⟩:=nm bl.w.length
    rw [<-hr1,<-hr2] at HCALL
    rw [<-hr1] at k0
    rw [<-hr2] at k1
    have haA:ya=some ⟨b2,off2,none⟩:=hA4.trans hb2
    have hbw:b2 < V.heap.size:=Nat.lt_of_lt_of_le (bL k0) HWV.o.size
    have q0:=Ab hwi _ _ k0
    have q1:=Ab hwi _ _ k1
    have hws:w.heap.size < V.heap.size:=by have:=HVS.o;omega
    rw [haA] at q3
    have HSS:Hx (∀ W,Below V.heap.size wi W->(fun Wz=>CE Wz w.heap.size 3 (O (some ⟨b2,off2,none⟩) ls.length yc)/\CE Wz b2 (off2+jj*2) (O a1 r1 z1)/\CE Wz b2 (off2+jj*2+1) (O a2 r2 z2)) W):=fun W hW=>⟨(hW.cell (p:=⟨w.heap.size,3,none⟩) hws).trans q3,(hW.cell (p:=⟨b2,off2+jj*2,none⟩) hbw).trans q0,(hW.cell (p:=⟨b2,off2+jj*2+1,none⟩) hbw).trans q1⟩
    obtain ⟨va2',vc2',rfl,-⟩:=hI.cop.cells (by decide)
    have HD:Hx (Ov wi wi.drew):=bD wi
    have HIc:=Aa (hI.over HBO1.o HD.o)
    have HBc:=Aa (HD.o.mono hVi.size)
    have hj100:ls.length<=100:=HSM.o.yB
    clear hr1 hr2 k0 k1 hpr hpw hel hel3 hbl q0 q1 hI hlb hwi hws hbw hVi hA4 hA5 hA6 hb2 haA HRV HP HSM HR1 HF1 HB1
    go_wp2_with fail
    refine gS (fun Wz=>CE Wz w.heap.size 3 (O (some ⟨b2,off2,none⟩) ls.length yc)/\CE Wz b2 (off2+jj*2) (O a1 r1 z1)/\CE Wz b2 (off2+jj*2+1) (O a2 r2 z2)) (HSS.o _ HBc.o) fun hHeld=>?_
    generalize wi.drew=W at hHeld HD HIc HBc ⊢
    refine kT 0 ?_
    refine kT 2 ?_
    refine kT 3 ?_
    refine kT 4 ?_
    refine kT 5 ?_
    refine kT 6 ?_
    refine rdB 1 7 rfl (fun K hK=>?_) rfl fun K hK=>?_
    ·have c2:=HIc.o.out 3 _ rfl
     go_simp
     clear c2
     refine xK hK (HSS.o _ HBc.o) fun hHeld=>?_
     clear hK K
     refine rdA 7 rfl fun K hK=>?_
     have HR7:=Aa HIc.o.rowlt
     have HZ7:=Aa HIc.o.sz
     go_simp
     refine (HCALL.o _ HBc.o).mono ?_
     rintro e0 W1 ⟨a3,c3,a4,c4,rfl,hoff,hb1⟩
     have HOFF:=Aa hoff
     replace HBc:=Aa (HBc.o.trans (hb1.mono (Nat.le_trans HVk.o HZ7.o)))
     replace HIc:=Aa (HIc.o.over HBO1.o hb1)
     clear hoff hb1
     refine xK hK (HSS.o _ HBc.o) fun hHeld=>?_
     clear hK K
     refine rdA 8 rfl fun K hK=>?_
     obtain ⟨W2,hW2⟩:=nm (W1.alloc (ze #[O a3 r1 c3,O a4 r2 c4] 39))
     have hb2:Ov W1 W2:=by rw [hW2];exact bA _ _
     have HN2:Hx (Ae [O a3 r1 c3,O a4 r2 c4] W2 W1.heap.size):=by rw [hW2];exact Ae.new [O a3 r1 c3,O a4 r2 c4] 39 W1
     replace HOFF:=Aa (HOFF.o.over hb2)
     replace HBc:=Aa (HBc.o.trans (hb2.mono (Nat.le_trans HVk.o HIc.o.sz)))
     replace HIc:=Aa (HIc.o.over HBO1.o hb2)
     go_simp
     rw [<-hW2]
     clear hW2 hb2
     refine xK hK (HSS.o _ HBc.o) fun hHeld=>?_
     clear hK K
     refine rdA 9 rfl fun K hK=>?_
     obtain ⟨xs,hown,hel⟩:=HIc.o.cop
     obtain ⟨v2,W3,hrun,hown3,hgr3,-,hat⟩:=run_append_own_at (P:=Tryz.prog) (w:=W2) Z1.heap.size 26 26 39 hla0 (zh #[O none 0 0,O none 0 0]) 2 48 Tryz.underlying26 hla1 hla2 hla3 hla4 rfl (by decide) _ _ _ hown ⟨W1.heap.size,0,none⟩ 1 1 [O a3 r1 c3,O a4 r2 c4] rfl (fun jj u hu=>by rw [Addr.add_lit,Nat.zero_add];exact HN2.o jj u hu) (by simp [Value.oneCell']) (by unfold maxLen;omega) (by omega) HIc.o.sz
     obtain ⟨va2,vn2,vc2,rfl⟩:=Ak hown3
     have HF:=Aa (HIc.o.add HBO1.o (by simp) (ds:=[O a3 r1 c3,O a4 r2 c4]) hown hel rfl (HOFF.o.imp fun W hW b hb=>by rw [HDJ2.o] at hb;injection hb with hb;rw [<-hb];exact ⟨_,_,rfl,hW.1,hW.2⟩) HZ7.o HR7.o hown3 hgr3 hat)
     replace HBc:=Aa (HBc.o.trans (BA hown hgr3 (m:=V.heap.size) HVk.o HIc.o.sz))
     have d2:CE W3 bo 3 (O va2' jj vc2'):=(World.cell?_of_block (a:=⟨bo,3,none⟩) (hgr3.block bo (Nat.lt_of_lt_of_le HBO1.o HIc.o.sz) (fun e=>by have:=(An hown e.symm).1;have:=HBO1.o;omega))).trans (HIc.o.out 3 _ rfl)
     have f2:W3.frozen? ⟨bo,3,none⟩=false:=(World.frozen?_of_block (a:=⟨bo,3,none⟩) (hgr3.block bo (Nat.lt_of_lt_of_le HBO1.o HIc.o.sz) (fun e=>by have:=(An hown e.symm).1;have:=HBO1.o;omega))).trans (HIc.o.fz _)
     refine Ao rfl _ _ _ rfl _ _ _ _ rfl rfl hrun ?_
     clear hrun hown hel hown3 hgr3 hat
     refine xK hK (HSS.o _ HBc.o) fun hHeld=>?_
     clear hK K
     refine kT 10 ?_
     refine rdA 11 rfl fun K hK=>?_
     replace HBc:Hx (Below V.heap.size wi (W3.setCell ⟨bo,3,none⟩ (O va2 vn2 vc2))):=HBc.o.setCell HGQ.o _
     go_simp
     refine xK hK (HSS.o _ HBc.o) fun hHeld=>?_
     clear hK K
     refine gE ?_
     clear HSS HCALL
     go_wp2_with fail
     exact ⟨⟨jj+1,_,by omega,by go_num,HF.o⟩,by simp [intOf];omega⟩
    ·have HR7:=Aa HIc.o.rowlt
     have HZ7:=Aa HIc.o.sz
     go_simp
     refine (HCALL.o _ HBc.o).mono ?_
     rintro e0 W1 ⟨a3,c3,a4,c4,rfl,hoff,hb1⟩
     have HOFF:=Aa hoff
     replace HBc:=Aa (HBc.o.trans (hb1.mono (Nat.le_trans HVk.o HZ7.o)))
     replace HIc:=Aa (HIc.o.over HBO1.o hb1)
     clear hoff hb1
     refine xK hK (HSS.o _ HBc.o) fun hHeld=>?_
     clear hK K
     refine rdB 1 8 rfl (fun K hK=>?_) rfl fun K hK=>?_
     ·have c2:=HIc.o.out 3 _ rfl
      go_simp
      clear c2
      refine xK hK (HSS.o _ HBc.o) fun hHeld=>?_
      clear hK K
      refine rdA 8 rfl fun K hK=>?_
      obtain ⟨W2,hW2⟩:=nm (W1.alloc (ze #[O a3 r1 c3,O a4 r2 c4] 39))
      have hb2:Ov W1 W2:=by rw [hW2];exact bA _ _
      have HN2:Hx (Ae [O a3 r1 c3,O a4 r2 c4] W2 W1.heap.size):=by rw [hW2];exact Ae.new [O a3 r1 c3,O a4 r2 c4] 39 W1
      replace HOFF:=Aa (HOFF.o.over hb2)
      replace HBc:=Aa (HBc.o.trans (hb2.mono (Nat.le_trans HVk.o HIc.o.sz)))
      replace HIc:=Aa (HIc.o.over HBO1.o hb2)
      go_simp
      rw [<-hW2]
      clear hW2 hb2
      refine xK hK (HSS.o _ HBc.o) fun hHeld=>?_
      clear hK K
      refine rdA 9 rfl fun K hK=>?_
      obtain ⟨xs,hown,hel⟩:=HIc.o.cop
      obtain ⟨v2,W3,hrun,hown3,hgr3,-,hat⟩:=run_append_own_at (P:=Tryz.prog) (w:=W2) Z1.heap.size 26 26 39 hla0 (zh #[O none 0 0,O none 0 0]) 2 48 Tryz.underlying26 hla1 hla2 hla3 hla4 rfl (by decide) _ _ _ hown ⟨W1.heap.size,0,none⟩ 1 1 [O a3 r1 c3,O a4 r2 c4] rfl (fun jj u hu=>by rw [Addr.add_lit,Nat.zero_add];exact HN2.o jj u hu) (by simp [Value.oneCell']) (by unfold maxLen;omega) (by omega) HIc.o.sz
      obtain ⟨va2,vn2,vc2,rfl⟩:=Ak hown3
      have HF:=Aa (HIc.o.add HBO1.o (by simp) (ds:=[O a3 r1 c3,O a4 r2 c4]) hown hel rfl (HOFF.o.imp fun W hW b hb=>by rw [HDJ2.o] at hb;injection hb with hb;rw [<-hb];exact ⟨_,_,rfl,hW.1,hW.2⟩) HZ7.o HR7.o hown3 hgr3 hat)
      replace HBc:=Aa (HBc.o.trans (BA hown hgr3 (m:=V.heap.size) HVk.o HIc.o.sz))
      have d2:CE W3 bo 3 (O va2' jj vc2'):=(World.cell?_of_block (a:=⟨bo,3,none⟩) (hgr3.block bo (Nat.lt_of_lt_of_le HBO1.o HIc.o.sz) (fun e=>by have:=(An hown e.symm).1;have:=HBO1.o;omega))).trans (HIc.o.out 3 _ rfl)
      have f2:W3.frozen? ⟨bo,3,none⟩=false:=(World.frozen?_of_block (a:=⟨bo,3,none⟩) (hgr3.block bo (Nat.lt_of_lt_of_le HBO1.o HIc.o.sz) (fun e=>by have:=(An hown e.symm).1;have:=HBO1.o;omega))).trans (HIc.o.fz _)
      refine Ao rfl _ _ _ rfl _ _ _ _ rfl rfl hrun ?_
      clear hrun hown hel hown3 hgr3 hat
      refine xK hK (HSS.o _ HBc.o) fun hHeld=>?_
      clear hK K
      refine kT 10 ?_
      refine rdA 11 rfl fun K hK=>?_
      replace HBc:Hx (Below V.heap.size wi (W3.setCell ⟨bo,3,none⟩ (O va2 vn2 vc2))):=HBc.o.setCell HGQ.o _
      go_simp
      refine xK hK (HSS.o _ HBc.o) fun hHeld=>?_
      clear hK K
      refine gE ?_
      clear HSS HCALL
      go_wp2_with fail
      exact ⟨⟨jj+1,_,by omega,by go_num,HF.o⟩,by simp [intOf];omega⟩
     ·obtain ⟨W2,hW2⟩:=nm (W1.alloc (ze #[O a3 r1 c3,O a4 r2 c4] 39))
      have hb2:Ov W1 W2:=by rw [hW2];exact bA _ _
      have HN2:Hx (Ae [O a3 r1 c3,O a4 r2 c4] W2 W1.heap.size):=by rw [hW2];exact Ae.new [O a3 r1 c3,O a4 r2 c4] 39 W1
      replace HOFF:=Aa (HOFF.o.over hb2)
      replace HBc:=Aa (HBc.o.trans (hb2.mono (Nat.le_trans HVk.o HIc.o.sz)))
      replace HIc:=Aa (HIc.o.over HBO1.o hb2)
      go_simp
      rw [<-hW2]
      clear hW2 hb2
      refine xK hK (HSS.o _ HBc.o) fun hHeld=>?_
      clear hK K
      refine rdA 1 rfl fun K hK=>?_
      have c2:=HIc.o.out 3 _ rfl
      go_simp
      clear c2
      refine xK hK (HSS.o _ HBc.o) fun hHeld=>?_
      clear hK K
      refine rdA 9 rfl fun K hK=>?_
      obtain ⟨xs,hown,hel⟩:=HIc.o.cop
      obtain ⟨v2,W3,hrun,hown3,hgr3,-,hat⟩:=run_append_own_at (P:=Tryz.prog) (w:=W2) Z1.heap.size 26 26 39 hla0 (zh #[O none 0 0,O none 0 0]) 2 48 Tryz.underlying26 hla1 hla2 hla3 hla4 rfl (by decide) _ _ _ hown ⟨W1.heap.size,0,none⟩ 1 1 [O a3 r1 c3,O a4 r2 c4] rfl (fun jj u hu=>by rw [Addr.add_lit,Nat.zero_add];exact HN2.o jj u hu) (by simp [Value.oneCell']) (by unfold maxLen;omega) (by omega) HIc.o.sz
      obtain ⟨va2,vn2,vc2,rfl⟩:=Ak hown3
      have HF:=Aa (HIc.o.add HBO1.o (by simp) (ds:=[O a3 r1 c3,O a4 r2 c4]) hown hel rfl (HOFF.o.imp fun W hW b hb=>by rw [HDJ2.o] at hb;injection hb with hb;rw [<-hb];exact ⟨_,_,rfl,hW.1,hW.2⟩) HZ7.o HR7.o hown3 hgr3 hat)
      replace HBc:=Aa (HBc.o.trans (BA hown hgr3 (m:=V.heap.size) HVk.o HIc.o.sz))
      have d2:CE W3 bo 3 (O va2' jj vc2'):=(World.cell?_of_block (a:=⟨bo,3,none⟩) (hgr3.block bo (Nat.lt_of_lt_of_le HBO1.o HIc.o.sz) (fun e=>by have:=(An hown e.symm).1;have:=HBO1.o;omega))).trans (HIc.o.out 3 _ rfl)
      have f2:W3.frozen? ⟨bo,3,none⟩=false:=(World.frozen?_of_block (a:=⟨bo,3,none⟩) (hgr3.block bo (Nat.lt_of_lt_of_le HBO1.o HIc.o.sz) (fun e=>by have:=(An hown e.symm).1;have:=HBO1.o;omega))).trans (HIc.o.fz _)
      refine Ao rfl _ _ _ rfl _ _ _ _ rfl rfl hrun ?_
      clear hrun hown hel hown3 hgr3 hat
      refine xK hK (HSS.o _ HBc.o) fun hHeld=>?_
      clear hK K
      refine kT 10 ?_
      refine rdA 11 rfl fun K hK=>?_
      replace HBc:Hx (Below V.heap.size wi (W3.setCell ⟨bo,3,none⟩ (O va2 vn2 vc2))):=HBc.o.setCell HGQ.o _
      go_simp
      refine xK hK (HSS.o _ HBc.o) fun hHeld=>?_
      clear hK K
      refine gE ?_
      clear HSS HCALL
      go_wp2_with fail
      exact ⟨⟨jj+1,_,by omega,by go_num,HF.o⟩,by simp [intOf];omega⟩
   ·obtain rfl:jj=ls.length:=by omega
    obtain ⟨y1,y3,rfl,hoff⟩:=hI.cop.cells (by decide)
    have HN1:Hx (y1=none->y3=0):=IM hI.cop
    have HE1:=Aa hoff
    have HGW1:=Aa hI.grown
    have HR2:Hx (Ae [U zd m,O g1 g2 g3,O s1 s2 s3,O y1 ls.length y3,O none 0 0,O none 0 0,O none 0 0,O m1 l.length m3] wi bo):=hI.out
    have HF2:=Aa hI.fz
    have HB2:=Aa hVi
    have HBO2:=Aa (Nat.lt_of_lt_of_le HBO1.o hI.sz)
    obtain ⟨Z2,rfl⟩:=nm wi
    have HVZ1:=HVk
    clear hoff hI hVi hlt HVk HR1 HF1 HB1 hjj
    go_wp2_with fail
    go_loopw [5] (fun i wi=>∃ (jj:Nat) (v:Value),jj<=ms.length/\i=U zd jj/\CpG Z2 bo [U zd m,O g1 g2 g3,O s1 s2 s3,O y1 ls.length y3,O none 0 0,O none 0 0,O none 0 0,O m1 l.length m3] 4 39 2 (fun i cs W=>∀ b,ms[i]? = some b->∃ x y,cs=[x,y]/\AC W x b.r/\AC W y b.w) jj v wi) (fun i _=>ms.length - (intOf i).toNat)
    case atStart=>exact ⟨0,O none 0 0,Nat.zero_le _,rfl,CpG.start HR2.o rfl HF2.o⟩
    case round=>
     obtain ⟨wi,rfl⟩:=nm wr
     obtain ⟨jj,v,hjj,rfl,hI⟩:=hrel
     have hVi:Ov V wi:=Bi HB2.o hI.grown HGQ.o (Nat.le_refl _)
     have q3:CE wi w.heap.size 4 (O oa ms.length oc):=(hVi.cell (p:=⟨w.heap.size,4,none⟩) (by have:=HVS.o;show w.heap.size < _;omega)).trans (HRV.o 4 _ rfl)
     have HVk:Hx (V.heap.size<=Z2.heap.size):=HB2.o.size
     by_cases hlt:jj < ms.length
     ·obtain ⟨-,ao3,cap3,hA3,hel3⟩:=HP.o.outs
      injection hA3 with hA4 hA5 hA6
      obtain ⟨b2,off2,hb2,hel⟩:=hel3 (by intro hz;rw [hz] at hlt;simp at hlt)
      obtain ⟨pr,pw,k0,k1,hpr,hpw⟩:=hel jj hlt
      have hlb:=HSM.o.lab ms[jj] (Or.inr (Or.inl (List.getElem_mem hlt)))
      have HDJ2:Hx (ms[jj]? = some ms[jj]):=List.getElem?_eq_getElem hlt
      obtain ⟨bl,hbl⟩:=nm ms[jj]
      rw [<-hbl] at hpr hpw hlb HDJ2
      have hwi:Ov w wi:=HWV.o.trans (hVi.mono HWV.o.size)
      have HCALL:Hx (∀ W,Below V.heap.size wi W->_):=fun W (hW:Below V.heap.size wi W)=>Ms bl pr pw W (Ai hpr (hwi.trans (hW.mono HWV.o.size))) (Ai hpw (hwi.trans (hW.mono HWV.o.size))) hlb.1 hlb.2
      obtain ⟨a1,z1,rfl,-⟩:=id hpr
      obtain ⟨a2,z2,rfl,-⟩:=id hpw
      obtain ⟨r1,hr1⟩:=nm bl.r.length
      obtain ⟨r2,hr2⟩:=nm bl.w.length
      rw [<-hr1,<-hr2] at HCALL
      rw [<-hr1] at k0
      rw [<-hr2] at k1
      have haA:oa=some ⟨b2,off2,none⟩:=hA4.trans hb2
      have hbw:b2 < V.heap.size:=Nat.lt_of_lt_of_le (bL k0) HWV.o.size
      have q0:=Ab hwi _ _ k0
      have q1:=Ab hwi _ _ k1
      have hws:w.heap.size < V.heap.size:=by have:=HVS.o;omega
      rw [haA] at q3
      have HSS:Hx (∀ W,Below V.heap.size wi W->(fun Wz=>CE Wz w.heap.size 4 (O (some ⟨b2,off2,none⟩) ms.length oc)/\CE Wz b2 (off2+jj*2) (O a1 r1 z1)/\CE Wz b2 (off2+jj*2+1) (O a2 r2 z2)) W):=fun W hW=>⟨(hW.cell (p:=⟨w.heap.size,4,none⟩) hws).trans q3,(hW.cell (p:=⟨b2,off2+jj*2,none⟩) hbw).trans q0,(hW.cell (p:=⟨b2,off2+jj*2+1,none⟩) hbw).trans q1⟩
      obtain ⟨va2',vc2',rfl,-⟩:=hI.cop.cells (by decide)
      have HD:Hx (Ov wi wi.drew):=bD wi
      have HIc:=Aa (hI.over HBO2.o HD.o)
      have HBc:=Aa (HD.o.mono hVi.size)
      have hj100:ms.length<=100:=HSM.o.oB
      clear hr1 hr2 k0 k1 hpr hpw hel hel3 hbl q0 q1 hI hlb hwi hws hbw hVi hA4 hA5 hA6 hb2 haA HRV HP HSM HR2 HF2 HB2
      go_wp2_with fail
      refine gS (fun Wz=>CE Wz w.heap.size 4 (O (some ⟨b2,off2,none⟩) ms.length oc)/\CE Wz b2 (off2+jj*2) (O a1 r1 z1)/\CE Wz b2 (off2+jj*2+1) (O a2 r2 z2)) (HSS.o _ HBc.o) fun hHeld=>?_
      generalize wi.drew=W at hHeld HD HIc HBc ⊢
      refine kT 0 ?_
      refine kT 2 ?_
      refine kT 3 ?_
      refine kT 4 ?_
      refine kT 5 ?_
      refine kT 6 ?_
      refine rdB 1 7 rfl (fun K hK=>?_) rfl fun K hK=>?_
      ·have c2:=HIc.o.out 4 _ rfl
       go_simp
       clear c2
       refine xK hK (HSS.o _ HBc.o) fun hHeld=>?_
       clear hK K
       refine rdA 7 rfl fun K hK=>?_
       have HR7:=Aa HIc.o.rowlt
       have HZ7:=Aa HIc.o.sz
       go_simp
       refine (HCALL.o _ HBc.o).mono ?_
       rintro e0 W1 ⟨a3,c3,a4,c4,rfl,hoff,hb1⟩
       have HOFF:=Aa hoff
       replace HBc:=Aa (HBc.o.trans (hb1.mono (Nat.le_trans HVk.o HZ7.o)))
       replace HIc:=Aa (HIc.o.over HBO2.o hb1)
       clear hoff hb1
       refine xK hK (HSS.o _ HBc.o) fun hHeld=>?_
       clear hK K
       refine rdA 8 rfl fun K hK=>?_
       obtain ⟨W2,hW2⟩:=nm (W1.alloc (ze #[O a3 r1 c3,O a4 r2 c4] 39))
       have hb2:Ov W1 W2:=by rw [hW2];exact bA _ _
       have HN2:Hx (Ae [O a3 r1 c3,O a4 r2 c4] W2 W1.heap.size):=by rw [hW2];exact Ae.new [O a3 r1 c3,O a4 r2 c4] 39 W1
       replace HOFF:=Aa (HOFF.o.over hb2)
       replace HBc:=Aa (HBc.o.trans (hb2.mono (Nat.le_trans HVk.o HIc.o.sz)))
       replace HIc:=Aa (HIc.o.over HBO2.o hb2)
       go_simp
       rw [<-hW2]
       clear hW2 hb2
       refine xK hK (HSS.o _ HBc.o) fun hHeld=>?_
       clear hK K
       refine rdA 9 rfl fun K hK=>?_
       obtain ⟨xs,hown,hel⟩:=HIc.o.cop
       obtain ⟨v2,W3,hrun,hown3,hgr3,-,hat⟩:=run_append_own_at (P:=Tryz.prog) (w:=W2) Z2.heap.size 26 26 39 hla0 (zh #[O none 0 0,O none 0 0]) 2 48 Tryz.underlying26 hla1 hla2 hla3 hla4 rfl (by decide) _ _ _ hown ⟨W1.heap.size,0,none⟩ 1 1 [O a3 r1 c3,O a4 r2 c4] rfl (fun jj u hu=>by rw [Addr.add_lit,Nat.zero_add];exact HN2.o jj u hu) (by simp [Value.oneCell']) (by unfold maxLen;omega) (by omega) HIc.o.sz
       obtain ⟨va2,vn2,vc2,rfl⟩:=Ak hown3
       have HF:=Aa (HIc.o.add HBO2.o (by simp) (ds:=[O a3 r1 c3,O a4 r2 c4]) hown hel rfl (HOFF.o.imp fun W hW b hb=>by rw [HDJ2.o] at hb;injection hb with hb;rw [<-hb];exact ⟨_,_,rfl,hW.1,hW.2⟩) HZ7.o HR7.o hown3 hgr3 hat)
       replace HBc:=Aa (HBc.o.trans (BA hown hgr3 (m:=V.heap.size) HVk.o HIc.o.sz))
       have d2:CE W3 bo 4 (O va2' jj vc2'):=(World.cell?_of_block (a:=⟨bo,4,none⟩) (hgr3.block bo (Nat.lt_of_lt_of_le HBO2.o HIc.o.sz) (fun e=>by have:=(An hown e.symm).1;have:=HBO2.o;omega))).trans (HIc.o.out 4 _ rfl)
       have f2:W3.frozen? ⟨bo,4,none⟩=false:=(World.frozen?_of_block (a:=⟨bo,4,none⟩) (hgr3.block bo (Nat.lt_of_lt_of_le HBO2.o HIc.o.sz) (fun e=>by have:=(An hown e.symm).1;have:=HBO2.o;omega))).trans (HIc.o.fz _)
       refine Ao rfl _ _ _ rfl _ _ _ _ rfl rfl hrun ?_
       clear hrun hown hel hown3 hgr3 hat
       refine xK hK (HSS.o _ HBc.o) fun hHeld=>?_
       clear hK K
       refine kT 10 ?_
       refine rdA 11 rfl fun K hK=>?_
       replace HBc:Hx (Below V.heap.size wi (W3.setCell ⟨bo,4,none⟩ (O va2 vn2 vc2))):=HBc.o.setCell HGQ.o _
       go_simp
       refine xK hK (HSS.o _ HBc.o) fun hHeld=>?_
       clear hK K
       refine gE ?_
       clear HSS HCALL
       go_wp2_with fail
       exact ⟨⟨jj+1,_,by omega,by go_num,HF.o⟩,by simp [intOf];omega⟩
      ·have HR7:=Aa HIc.o.rowlt
       have HZ7:=Aa HIc.o.sz
       go_simp
       refine (HCALL.o _ HBc.o).mono ?_
       rintro e0 W1 ⟨a3,c3,a4,c4,rfl,hoff,hb1⟩
       have HOFF:=Aa hoff
       replace HBc:=Aa (HBc.o.trans (hb1.mono (Nat.le_trans HVk.o HZ7.o)))
       replace HIc:=Aa (HIc.o.over HBO2.o hb1)
       clear hoff hb1
       refine xK hK (HSS.o _ HBc.o) fun hHeld=>?_
       clear hK K
       refine rdB 1 8 rfl (fun K hK=>?_) rfl fun K hK=>?_
       ·have c2:=HIc.o.out 4 _ rfl
        go_simp
        clear c2
        refine xK hK (HSS.o _ HBc.o) fun hHeld=>?_
        clear hK K
        refine rdA 8 rfl fun K hK=>?_
        obtain ⟨W2,hW2⟩:=nm (W1.alloc (ze #[O a3 r1 c3,O a4 r2 c4] 39))
        have hb2:Ov W1 W2:=by rw [hW2];exact bA _ _
        have HN2:Hx (Ae [O a3 r1 c3,O a4 r2 c4] W2 W1.heap.size):=by rw [hW2];exact Ae.new [O a3 r1 c3,O a4 r2 c4] 39 W1
        replace HOFF:=Aa (HOFF.o.over hb2)
        replace HBc:=Aa (HBc.o.trans (hb2.mono (Nat.le_trans HVk.o HIc.o.sz)))
        replace HIc:=Aa (HIc.o.over HBO2.o hb2)
        go_simp
        rw [<-hW2]
        clear hW2 hb2
        refine xK hK (HSS.o _ HBc.o) fun hHeld=>?_
        clear hK K
        refine rdA 9 rfl fun K hK=>?_
        obtain ⟨xs,hown,hel⟩:=HIc.o.cop
        obtain ⟨v2,W3,hrun,hown3,hgr3,-,hat⟩:=run_append_own_at (P:=Tryz.prog) (w:=W2) Z2.heap.size 26 26 39 hla0 (zh #[O none 0 0,O none 0 0]) 2 48 Tryz.underlying26 hla1 hla2 hla3 hla4 rfl (by decide) _ _ _ hown ⟨W1.heap.size,0,none⟩ 1 1 [O a3 r1 c3,O a4 r2 c4] rfl (fun jj u hu=>by rw [Addr.add_lit,Nat.zero_add];exact HN2.o jj u hu) (by simp [Value.oneCell']) (by unfold maxLen;omega) (by omega) HIc.o.sz
        obtain ⟨va2,vn2,vc2,rfl⟩:=Ak hown3
        have HF:=Aa (HIc.o.add HBO2.o (by simp) (ds:=[O a3 r1 c3,O a4 r2 c4]) hown hel rfl (HOFF.o.imp fun W hW b hb=>by rw [HDJ2.o] at hb;injection hb with hb;rw [<-hb];exact ⟨_,_,rfl,hW.1,hW.2⟩) HZ7.o HR7.o hown3 hgr3 hat)
        replace HBc:=Aa (HBc.o.trans (BA hown hgr3 (m:=V.heap.size) HVk.o HIc.o.sz))
        have d2:CE W3 bo 4 (O va2' jj vc2'):=(World.cell?_of_block (a:=⟨bo,4,none⟩) (hgr3.block bo (Nat.lt_of_lt_of_le HBO2.o HIc.o.sz) (fun e=>by have:=(An hown e.symm).1;have:=HBO2.o;omega))).trans (HIc.o.out 4 _ rfl)
        have f2:W3.frozen? ⟨bo,4,none⟩=false:=(World.frozen?_of_block (a:=⟨bo,4,none⟩) (hgr3.block bo (Nat.lt_of_lt_of_le HBO2.o HIc.o.sz) (fun e=>by have:=(An hown e.symm).1;have:=HBO2.o;omega))).trans (HIc.o.fz _)
        refine Ao rfl _ _ _ rfl _ _ _ _ rfl rfl hrun ?_
        clear hrun hown hel hown3 hgr3 hat
        refine xK hK (HSS.o _ HBc.o) fun hHeld=>?_
        clear hK K
        refine kT 10 ?_
        refine rdA 11 rfl fun K hK=>?_
        replace HBc:Hx (Below V.heap.size wi (W3.setCell ⟨bo,4,none⟩ (O va2 vn2 vc2))):=HBc.o.setCell HGQ.o _
        go_simp
        refine xK hK (HSS.o _ HBc.o) fun hHeld=>?_
        clear hK K
        refine gE ?_
        clear HSS HCALL
        go_wp2_with fail
        exact ⟨⟨jj+1,_,by omega,by go_num,HF.o⟩,by simp [intOf];omega⟩
       ·obtain ⟨W2,hW2⟩:=nm (W1.alloc (ze #[O a3 r1 c3,O a4 r2 c4] 39))
        have hb2:Ov W1 W2:=by rw [hW2];exact bA _ _
        have HN2:Hx (Ae [O a3 r1 c3,O a4 r2 c4] W2 W1.heap.size):=by rw [hW2];exact Ae.new [O a3 r1 c3,O a4 r2 c4] 39 W1
        replace HOFF:=Aa (HOFF.o.over hb2)
        replace HBc:=Aa (HBc.o.trans (hb2.mono (Nat.le_trans HVk.o HIc.o.sz)))
        replace HIc:=Aa (HIc.o.over HBO2.o hb2)
        go_simp
        rw [<-hW2]
        clear hW2 hb2
        refine xK hK (HSS.o _ HBc.o) fun hHeld=>?_
        clear hK K
        refine rdA 1 rfl fun K hK=>?_
        have c2:=HIc.o.out 4 _ rfl
        go_simp
        clear c2
        refine xK hK (HSS.o _ HBc.o) fun hHeld=>?_
        clear hK K
        refine rdA 9 rfl fun K hK=>?_
        obtain ⟨xs,hown,hel⟩:=HIc.o.cop
        obtain ⟨v2,W3,hrun,hown3,hgr3,-,hat⟩:=run_append_own_at (P:=Tryz.prog) (w:=W2) Z2.heap.size 26 26 39 hla0 (zh #[O none 0 0,O none 0 0]) 2 48 Tryz.underlying26 hla1 hla2 hla3 hla4 rfl (by decide) _ _ _ hown ⟨W1.heap.size,0,none⟩ 1 1 [O a3 r1 c3,O a4 r2 c4] rfl (fun jj u hu=>by rw [Addr.add_lit,Nat.zero_add];exact HN2.o jj u hu) (by simp [Value.oneCell']) (by unfold maxLen;omega) (by omega) HIc.o.sz
        obtain ⟨va2,vn2,vc2,rfl⟩:=Ak hown3
        have HF:=Aa (HIc.o.add HBO2.o (by simp) (ds:=[O a3 r1 c3,O a4 r2 c4]) hown hel rfl (HOFF.o.imp fun W hW b hb=>by rw [HDJ2.o] at hb;injection hb with hb;rw [<-hb];exact ⟨_,_,rfl,hW.1,hW.2⟩) HZ7.o HR7.o hown3 hgr3 hat)
        replace HBc:=Aa (HBc.o.trans (BA hown hgr3 (m:=V.heap.size) HVk.o HIc.o.sz))
        have d2:CE W3 bo 4 (O va2' jj vc2'):=(World.cell?_of_block (a:=⟨bo,4,none⟩) (hgr3.block bo (Nat.lt_of_lt_of_le HBO2.o HIc.o.sz) (fun e=>by have:=(An hown e.symm).1;have:=HBO2.o;omega))).trans (HIc.o.out 4 _ rfl)
        have f2:W3.frozen? ⟨bo,4,none⟩=false:=(World.frozen?_of_block (a:=⟨bo,4,none⟩) (hgr3.block bo (Nat.lt_of_lt_of_le HBO2.o HIc.o.sz) (fun e=>by have:=(An hown e.symm).1;have:=HBO2.o;omega))).trans (HIc.o.fz _)
        refine Ao rfl _ _ _ rfl _ _ _ _ rfl rfl hrun ?_
        clear hrun hown hel hown3 hgr3 hat
        refine xK hK (HSS.o _ HBc.o) fun hHeld=>?_
        clear hK K
        refine kT 10 ?_
        refine rdA 11 rfl fun K hK=>?_
        replace HBc:Hx (Below V.heap.size wi (W3.setCell ⟨bo,4,none⟩ (O va2 vn2 vc2))):=HBc.o.setCell HGQ.o _
        go_simp
        refine xK hK (HSS.o _ HBc.o) fun hHeld=>?_
        clear hK K
        refine gE ?_
        clear HSS HCALL
        go_wp2_with fail
        exact ⟨⟨jj+1,_,by omega,by go_num,HF.o⟩,by simp [intOf];omega⟩
     ·obtain rfl:jj=ms.length:=by omega
      obtain ⟨o1,o3,rfl,hoff⟩:=hI.cop.cells (by decide)
      have HN2:Hx (o1=none->o3=0):=IM hI.cop
      have HE2:=Aa hoff
      have HGW2:=Aa hI.grown
      have HR3:Hx (Ae [U zd m,O g1 g2 g3,O s1 s2 s3,O y1 ls.length y3,O o1 ms.length o3,O none 0 0,O none 0 0,O m1 l.length m3] wi bo):=hI.out
      have HF3:=Aa hI.fz
      have HB3:=Aa hVi
      have HBO3:=Aa (Nat.lt_of_lt_of_le HBO2.o hI.sz)
      obtain ⟨Z3,rfl⟩:=nm wi
      have HVZ2:=HVk
      clear hoff hI hVi hlt HVk HR2 HF2 HB2 hjj
      go_wp2_with fail
      go_loopw [6] (fun i wi=>∃ (jj:Nat) (v:Value),jj<=vs.length/\i=U zd jj/\CpG Z3 bo [U zd m,O g1 g2 g3,O s1 s2 s3,O y1 ls.length y3,O o1 ms.length o3,O none 0 0,O none 0 0,O m1 l.length m3] 5 41 3 (fun _ _ _=>True) jj v wi) (fun i _=>vs.length - (intOf i).toNat)
      case atStart=>exact ⟨0,O none 0 0,Nat.zero_le _,rfl,CpG.start HR3.o rfl HF3.o⟩
      case round=>
       obtain ⟨wi,rfl⟩:=nm wr
       obtain ⟨jj,v,hjj,rfl,hI⟩:=hrel
       have hVi:Ov V wi:=Bi HB3.o hI.grown HGQ.o (Nat.le_refl _)
       have q3:CE wi w.heap.size 5 (O va vs.length vc):=(hVi.cell (p:=⟨w.heap.size,5,none⟩) (by have:=HVS.o;show w.heap.size < _;omega)).trans (HRV.o 5 _ rfl)
       have HVk:Hx (V.heap.size<=Z3.heap.size):=HB3.o.size
       by_cases hlt:jj < vs.length
       ·obtain ⟨-,ao3,cap3,hA3,hel3⟩:=HP.o.vars
        injection hA3 with hA4 hA5 hA6
        obtain ⟨b2,off2,hb2,hel⟩:=hel3 (by intro hz;rw [hz] at hlt;simp at hlt)
        obtain ⟨pr,pw,k9,k0,k1,hpr,hpw⟩:=hel jj hlt
        have hlb:=HSM.o.lab vs[jj].2 (Or.inr (Or.inr (List.mem_map.2 ⟨vs[jj],List.getElem_mem hlt,rfl⟩)))
        obtain ⟨bl,hbl⟩:=nm vs[jj].2
        obtain ⟨kn,hkn⟩:=nm vs[jj].1
        rw [<-hbl] at hpr hpw hlb
        rw [<-hkn] at k9
        have hwi:Ov w wi:=HWV.o.trans (hVi.mono HWV.o.size)
        have HCALL:Hx (∀ W,Below V.heap.size wi W->_):=fun W (hW:Below V.heap.size wi W)=>Ms bl pr pw W (Ai hpr (hwi.trans (hW.mono HWV.o.size))) (Ai hpw (hwi.trans (hW.mono HWV.o.size))) hlb.1 hlb.2
        obtain ⟨a1,z1,rfl,-⟩:=id hpr
        obtain ⟨a2,z2,rfl,-⟩:=id hpw
        obtain ⟨r1,hr1⟩:=nm bl.r.length
        obtain ⟨r2,hr2⟩:=nm bl.w.length
        rw [<-hr1,<-hr2] at HCALL
        rw [<-hr1] at k0
        rw [<-hr2] at k1
        have haA:va=some ⟨b2,off2,none⟩:=hA4.trans hb2
        have hbw:b2 < V.heap.size:=Nat.lt_of_lt_of_le (bL k0) HWV.o.size
        have q9:=Ab hwi _ _ k9
        have q0:=Ab hwi _ _ k0
        have q1:=Ab hwi _ _ k1
        have hws:w.heap.size < V.heap.size:=by have:=HVS.o;omega
        rw [haA] at q3
        have HSS:Hx (∀ W,Below V.heap.size wi W->(fun Wz=>CE Wz w.heap.size 5 (O (some ⟨b2,off2,none⟩) vs.length vc)/\CE Wz b2 (off2+jj*3) (zg kn)/\CE Wz b2 (off2+jj*3+1) (O a1 r1 z1)/\CE Wz b2 (off2+jj*3+2) (O a2 r2 z2)) W):=fun W hW=>⟨(hW.cell (p:=⟨w.heap.size,5,none⟩) hws).trans q3,(hW.cell (p:=⟨b2,off2+jj*3,none⟩) hbw).trans q9,(hW.cell (p:=⟨b2,off2+jj*3+1,none⟩) hbw).trans q0,(hW.cell (p:=⟨b2,off2+jj*3+2,none⟩) hbw).trans q1⟩
        obtain ⟨va2',vc2',rfl,-⟩:=hI.cop.cells (by decide)
        have HD:Hx (Ov wi wi.drew):=bD wi
        have HIc:=Aa (hI.over HBO3.o HD.o)
        have HBc:=Aa (HD.o.mono hVi.size)
        have hj100:vs.length<=100:=HSM.o.vB
        clear hr1 hr2 k9 k0 k1 hpr hpw hel hel3 hbl hkn q9 q0 q1 hI hlb hwi hws hbw hVi hA4 hA5 hA6 hb2 haA HRV HP HSM HR3 HF3 HB3
        go_wp2_with fail
        refine gS (fun Wz=>CE Wz w.heap.size 5 (O (some ⟨b2,off2,none⟩) vs.length vc)/\CE Wz b2 (off2+jj*3) (zg kn)/\CE Wz b2 (off2+jj*3+1) (O a1 r1 z1)/\CE Wz b2 (off2+jj*3+2) (O a2 r2 z2)) (HSS.o _ HBc.o) fun hHeld=>?_
        generalize wi.drew=W at hHeld HD HIc HBc ⊢
        refine kT 0 ?_
        refine kT 2 ?_
        refine kT 3 ?_
        refine kT 4 ?_
        refine kT 5 ?_
        refine kT 6 ?_
        refine kT 7 ?_
        refine kT 8 ?_
        refine kT 9 ?_
        refine kT 10 ?_
        refine kT 11 ?_
        refine kT 12 ?_
        refine kT 13 ?_
        refine rdB 1 14 rfl (fun K hK=>?_) rfl fun K hK=>?_
        ·have c2:=HIc.o.out 5 _ rfl
         go_simp
         clear c2
         refine xK hK (HSS.o _ HBc.o) fun hHeld=>?_
         clear hK K
         refine rdA 14 rfl fun K hK=>?_
         have HR7:=Aa HIc.o.rowlt
         have HZ7:=Aa HIc.o.sz
         go_simp
         refine (HCALL.o _ HBc.o).mono ?_
         rintro e0 W1 ⟨a3,c3,a4,c4,rfl,hoff,hb1⟩
         have HOFF:=Aa hoff
         replace HBc:=Aa (HBc.o.trans (hb1.mono (Nat.le_trans HVk.o HZ7.o)))
         replace HIc:=Aa (HIc.o.over HBO3.o hb1)
         clear hoff hb1
         refine xK hK (HSS.o _ HBc.o) fun hHeld=>?_
         clear hK K
         refine kT 15 ?_
         refine rdA 16 rfl fun K hK=>?_
         obtain ⟨W2,hW2⟩:=nm (W1.alloc (ze #[zg kn,O a3 r1 c3,O a4 r2 c4] 41))
         have hb2:Ov W1 W2:=by rw [hW2];exact bA _ _
         have HN2:Hx (Ae [zg kn,O a3 r1 c3,O a4 r2 c4] W2 W1.heap.size):=by rw [hW2];exact Ae.new [zg kn,O a3 r1 c3,O a4 r2 c4] 41 W1
         replace HOFF:=Aa (HOFF.o.over hb2)
         replace HBc:=Aa (HBc.o.trans (hb2.mono (Nat.le_trans HVk.o HIc.o.sz)))
         replace HIc:=Aa (HIc.o.over HBO3.o hb2)
         go_simp
         rw [<-hW2]
         clear hW2 hb2
         refine xK hK (HSS.o _ HBc.o) fun hHeld=>?_
         clear hK K
         refine rdA 17 rfl fun K hK=>?_
         obtain ⟨xs,hown,hel⟩:=HIc.o.cop
         obtain ⟨v2,W3,hrun,hown3,hgr3,-,hat⟩:=run_append_own_at (P:=Tryz.prog) (w:=W2) Z3.heap.size 27 27 41 hva0 (zh #[zg false,O none 0 0,O none 0 0]) 3 56 Tryz.underlying27 hva1 hva2 hva3 hva4 rfl (by decide) _ _ _ hown ⟨W1.heap.size,0,none⟩ 1 1 [zg kn,O a3 r1 c3,O a4 r2 c4] rfl (fun jj u hu=>by rw [Addr.add_lit,Nat.zero_add];exact HN2.o jj u hu) (by simp [Value.oneCell']) (by unfold maxLen;omega) (by omega) HIc.o.sz
         obtain ⟨va2,vn2,vc2,rfl⟩:=Ak hown3
         have HF:=Aa (HIc.o.add HBO3.o (by simp) (ds:=[zg kn,O a3 r1 c3,O a4 r2 c4]) hown hel rfl (fun _ _=>trivial) HZ7.o HR7.o hown3 hgr3 hat)
         replace HBc:=Aa (HBc.o.trans (BA hown hgr3 (m:=V.heap.size) HVk.o HIc.o.sz))
         have d2:CE W3 bo 5 (O va2' jj vc2'):=(World.cell?_of_block (a:=⟨bo,5,none⟩) (hgr3.block bo (Nat.lt_of_lt_of_le HBO3.o HIc.o.sz) (fun e=>by have:=(An hown e.symm).1;have:=HBO3.o;omega))).trans (HIc.o.out 5 _ rfl)
         have f2:W3.frozen? ⟨bo,5,none⟩=false:=(World.frozen?_of_block (a:=⟨bo,5,none⟩) (hgr3.block bo (Nat.lt_of_lt_of_le HBO3.o HIc.o.sz) (fun e=>by have:=(An hown e.symm).1;have:=HBO3.o;omega))).trans (HIc.o.fz _)
         refine Ao rfl _ _ _ rfl _ _ _ _ rfl rfl hrun ?_
         clear hrun hown hel hown3 hgr3 hat
         refine xK hK (HSS.o _ HBc.o) fun hHeld=>?_
         clear hK K
         refine kT 18 ?_
         refine rdA 19 rfl fun K hK=>?_
         replace HBc:Hx (Below V.heap.size wi (W3.setCell ⟨bo,5,none⟩ (O va2 vn2 vc2))):=HBc.o.setCell HGQ.o _
         go_simp
         refine xK hK (HSS.o _ HBc.o) fun hHeld=>?_
         clear hK K
         refine gE ?_
         clear HSS HCALL
         go_wp2_with fail
         exact ⟨⟨jj+1,_,by omega,by go_num,HF.o⟩,by simp [intOf];omega⟩
        ·have HR7:=Aa HIc.o.rowlt
         have HZ7:=Aa HIc.o.sz
         go_simp
         refine (HCALL.o _ HBc.o).mono ?_
         rintro e0 W1 ⟨a3,c3,a4,c4,rfl,hoff,hb1⟩
         have HOFF:=Aa hoff
         replace HBc:=Aa (HBc.o.trans (hb1.mono (Nat.le_trans HVk.o HZ7.o)))
         replace HIc:=Aa (HIc.o.over HBO3.o hb1)
         clear hoff hb1
         refine xK hK (HSS.o _ HBc.o) fun hHeld=>?_
         clear hK K
         refine kT 15 ?_
         refine rdB 1 16 rfl (fun K hK=>?_) rfl fun K hK=>?_
         ·have c2:=HIc.o.out 5 _ rfl
          go_simp
          clear c2
          refine xK hK (HSS.o _ HBc.o) fun hHeld=>?_
          clear hK K
          refine rdA 16 rfl fun K hK=>?_
          obtain ⟨W2,hW2⟩:=nm (W1.alloc (ze #[zg kn,O a3 r1 c3,O a4 r2 c4] 41))
          have hb2:Ov W1 W2:=by rw [hW2];exact bA _ _
          have HN2:Hx (Ae [zg kn,O a3 r1 c3,O a4 r2 c4] W2 W1.heap.size):=by rw [hW2];exact Ae.new [zg kn,O a3 r1 c3,O a4 r2 c4] 41 W1
          replace HOFF:=Aa (HOFF.o.over hb2)
          replace HBc:=Aa (HBc.o.trans (hb2.mono (Nat.le_trans HVk.o HIc.o.sz)))
          replace HIc:=Aa (HIc.o.over HBO3.o hb2)
          go_simp
          rw [<-hW2]
          clear hW2 hb2
          refine xK hK (HSS.o _ HBc.o) fun hHeld=>?_
          clear hK K
          refine rdA 17 rfl fun K hK=>?_
          obtain ⟨xs,hown,hel⟩:=HIc.o.cop
          obtain ⟨v2,W3,hrun,hown3,hgr3,-,hat⟩:=run_append_own_at (P:=Tryz.prog) (w:=W2) Z3.heap.size 27 27 41 hva0 (zh #[zg false,O none 0 0,O none 0 0]) 3 56 Tryz.underlying27 hva1 hva2 hva3 hva4 rfl (by decide) _ _ _ hown ⟨W1.heap.size,0,none⟩ 1 1 [zg kn,O a3 r1 c3,O a4 r2 c4] rfl (fun jj u hu=>by rw [Addr.add_lit,Nat.zero_add];exact HN2.o jj u hu) (by simp [Value.oneCell']) (by unfold maxLen;omega) (by omega) HIc.o.sz
          obtain ⟨va2,vn2,vc2,rfl⟩:=Ak hown3
          have HF:=Aa (HIc.o.add HBO3.o (by simp) (ds:=[zg kn,O a3 r1 c3,O a4 r2 c4]) hown hel rfl (fun _ _=>trivial) HZ7.o HR7.o hown3 hgr3 hat)
          replace HBc:=Aa (HBc.o.trans (BA hown hgr3 (m:=V.heap.size) HVk.o HIc.o.sz))
          have d2:CE W3 bo 5 (O va2' jj vc2'):=(World.cell?_of_block (a:=⟨bo,5,none⟩) (hgr3.block bo (Nat.lt_of_lt_of_le HBO3.o HIc.o.sz) (fun e=>by have:=(An hown e.symm).1;have:=HBO3.o;omega))).trans (HIc.o.out 5 _ rfl)
          have f2:W3.frozen? ⟨bo,5,none⟩=false:=(World.frozen?_of_block (a:=⟨bo,5,none⟩) (hgr3.block bo (Nat.lt_of_lt_of_le HBO3.o HIc.o.sz) (fun e=>by have:=(An hown e.symm).1;have:=HBO3.o;omega))).trans (HIc.o.fz _)
          refine Ao rfl _ _ _ rfl _ _ _ _ rfl rfl hrun ?_
          clear hrun hown hel hown3 hgr3 hat
          refine xK hK (HSS.o _ HBc.o) fun hHeld=>?_
          clear hK K
          refine kT 18 ?_
          refine rdA 19 rfl fun K hK=>?_
          replace HBc:Hx (Below V.heap.size wi (W3.setCell ⟨bo,5,none⟩ (O va2 vn2 vc2))):=HBc.o.setCell HGQ.o _
          go_simp
          refine xK hK (HSS.o _ HBc.o) fun hHeld=>?_
          clear hK K
          refine gE ?_
          clear HSS HCALL
          go_wp2_with fail
          exact ⟨⟨jj+1,_,by omega,by go_num,HF.o⟩,by simp [intOf];omega⟩
         ·obtain ⟨W2,hW2⟩:=nm (W1.alloc (ze #[zg kn,O a3 r1 c3,O a4 r2 c4] 41))
          have hb2:Ov W1 W2:=by rw [hW2];exact bA _ _
          have HN2:Hx (Ae [zg kn,O a3 r1 c3,O a4 r2 c4] W2 W1.heap.size):=by rw [hW2];exact Ae.new [zg kn,O a3 r1 c3,O a4 r2 c4] 41 W1
          replace HOFF:=Aa (HOFF.o.over hb2)
          replace HBc:=Aa (HBc.o.trans (hb2.mono (Nat.le_trans HVk.o HIc.o.sz)))
          replace HIc:=Aa (HIc.o.over HBO3.o hb2)
          go_simp
          rw [<-hW2]
          clear hW2 hb2
          refine xK hK (HSS.o _ HBc.o) fun hHeld=>?_
          clear hK K
          refine rdA 1 rfl fun K hK=>?_
          have c2:=HIc.o.out 5 _ rfl
          go_simp
          clear c2
          refine xK hK (HSS.o _ HBc.o) fun hHeld=>?_
          clear hK K
          refine rdA 17 rfl fun K hK=>?_
          obtain ⟨xs,hown,hel⟩:=HIc.o.cop
          obtain ⟨v2,W3,hrun,hown3,hgr3,-,hat⟩:=run_append_own_at (P:=Tryz.prog) (w:=W2) Z3.heap.size 27 27 41 hva0 (zh #[zg false,O none 0 0,O none 0 0]) 3 56 Tryz.underlying27 hva1 hva2 hva3 hva4 rfl (by decide) _ _ _ hown ⟨W1.heap.size,0,none⟩ 1 1 [zg kn,O a3 r1 c3,O a4 r2 c4] rfl (fun jj u hu=>by rw [Addr.add_lit,Nat.zero_add];exact HN2.o jj u hu) (by simp [Value.oneCell']) (by unfold maxLen;omega) (by omega) HIc.o.sz
          obtain ⟨va2,vn2,vc2,rfl⟩:=Ak hown3
          have HF:=Aa (HIc.o.add HBO3.o (by simp) (ds:=[zg kn,O a3 r1 c3,O a4 r2 c4]) hown hel rfl (fun _ _=>trivial) HZ7.o HR7.o hown3 hgr3 hat)
          replace HBc:=Aa (HBc.o.trans (BA hown hgr3 (m:=V.heap.size) HVk.o HIc.o.sz))
          have d2:CE W3 bo 5 (O va2' jj vc2'):=(World.cell?_of_block (a:=⟨bo,5,none⟩) (hgr3.block bo (Nat.lt_of_lt_of_le HBO3.o HIc.o.sz) (fun e=>by have:=(An hown e.symm).1;have:=HBO3.o;omega))).trans (HIc.o.out 5 _ rfl)
          have f2:W3.frozen? ⟨bo,5,none⟩=false:=(World.frozen?_of_block (a:=⟨bo,5,none⟩) (hgr3.block bo (Nat.lt_of_lt_of_le HBO3.o HIc.o.sz) (fun e=>by have:=(An hown e.symm).1;have:=HBO3.o;omega))).trans (HIc.o.fz _)
          refine Ao rfl _ _ _ rfl _ _ _ _ rfl rfl hrun ?_
          clear hrun hown hel hown3 hgr3 hat
          refine xK hK (HSS.o _ HBc.o) fun hHeld=>?_
          clear hK K
          refine kT 18 ?_
          refine rdA 19 rfl fun K hK=>?_
          replace HBc:Hx (Below V.heap.size wi (W3.setCell ⟨bo,5,none⟩ (O va2 vn2 vc2))):=HBc.o.setCell HGQ.o _
          go_simp
          refine xK hK (HSS.o _ HBc.o) fun hHeld=>?_
          clear hK K
          refine gE ?_
          clear HSS HCALL
          go_wp2_with fail
          exact ⟨⟨jj+1,_,by omega,by go_num,HF.o⟩,by simp [intOf];omega⟩
       ·obtain rfl:jj=vs.length:=by omega
        obtain ⟨xs,hown,-⟩:=id hI.cop
        obtain ⟨v1,v2,v3,rfl⟩:=Ak hown
        have HOV:=Aa hown
        have HGW3:=Aa hI.grown
        have HR4:Hx (Ae [U zd m,O g1 g2 g3,O s1 s2 s3,O y1 ls.length y3,O o1 ms.length o3,O v1 v2 v3,O none 0 0,O m1 l.length m3] wi bo):=hI.out
        have HF4:=Aa hI.fz
        have HB4:=Aa hVi
        have HBO4:=Aa (Nat.lt_of_lt_of_le HBO3.o hI.sz)
        obtain ⟨Z4,rfl⟩:=nm wi
        have HVZ3:=HVk
        clear hown hI hVi hlt HVk HR3 HF3 HB3 hjj
        go_wp2_with fail
        go_loopw [7] (fun i wi=>∃ (jj:Nat) (v:Value),jj<=fs.length/\i=U zd jj/\CpG Z4 bo [U zd m,O g1 g2 g3,O s1 s2 s3,O y1 ls.length y3,O o1 ms.length o3,O v1 v2 v3,O none 0 0,O m1 l.length m3] 6 105 5 (fun i cs W=>∀ f,fs[i]? = some f->∃ vP vB x0 x1 x2,cs=[vP,vB,x0,x1,x2]/\AM W vP f.ps/\Nr vP f.ps/\Bf W K kf vB f.body/\RX W K [x0,x1,x2] f.res) jj v wi) (fun i _=>fs.length - (intOf i).toNat)
        case atStart=>exact ⟨0,O none 0 0,Nat.zero_le _,rfl,CpG.start HR4.o rfl HF4.o⟩
        case round=>
         obtain ⟨wi,rfl⟩:=nm wr
         obtain ⟨jj,v,hjj,rfl,hI⟩:=hrel
         have hVi:Ov V wi:=Bi HB4.o hI.grown HGQ.o (Nat.le_refl _)
         have q3:CE wi w.heap.size 6 (O fa fs.length fc):=(hVi.cell (p:=⟨w.heap.size,6,none⟩) (by have:=HVS.o;show w.heap.size < _;omega)).trans (HRV.o 6 _ rfl)
         have HVk:Hx (V.heap.size<=Z4.heap.size):=HB4.o.size
         by_cases hlt:jj < fs.length
         ·obtain ⟨-,ao3,cap3,hA3,hel3⟩:=HP.o.funcs
          injection hA3 with hA4 hA5 hA6
          obtain ⟨b2,off2,hb2,hel⟩:=hel3 (by intro hz;rw [hz] at hlt;simp at hlt)
          obtain ⟨vP,vB,x0,x1,x2,k0,k1,k2,k3,k4,hPs,hPk,hBd,hRx⟩:=hel jj hlt
          have hfb:=HSM.o.body fs[jj] (List.getElem_mem hlt)
          have HDJ2:Hx (fs[jj]? = some fs[jj]):=List.getElem?_eq_getElem hlt
          obtain ⟨fj,hfj⟩:=nm fs[jj]
          rw [<-hfj] at hPs hPk hBd hRx hfb HDJ2
          have hwi:Ov w wi:=HWV.o.trans (hVi.mono HWV.o.size)
          obtain ⟨-,pa,pc,rfl,-⟩:=id hPk
          obtain ⟨-,ba2,bc2,rfl,-⟩:=id hBd
          obtain ⟨ae,ce,hxe⟩:=hRx.form
          injection hxe with e0 hxe
          injection hxe with e1 hxe
          injection hxe with e2 hxe
          subst e0 e1 e2
          have hbw:Ov w (wi.alloc (ze #[O pa fj.ps.length pc,O ba2 fj.body.length bc2,U zd (AI fj.res),U zd (Bc fj.res),O ae (AH fj.res).length ce] 105)):=hwi.alloc hwi.size _
          have hbf:=bA wi (ze #[O pa fj.ps.length pc,O ba2 fj.body.length bc2,U zd (AI fj.res),U zd (Bc fj.res),O ae (AH fj.res).length ce] 105)
          have hrf:=Ae.newA #[O pa fj.ps.length pc,O ba2 fj.body.length bc2,U zd (AI fj.res),U zd (Bc fj.res),O ae (AH fj.res).length ce] 105 wi
          obtain ⟨wf,hwf⟩:=nm (wi.alloc (ze #[O pa fj.ps.length pc,O ba2 fj.body.length bc2,U zd (AI fj.res),U zd (Bc fj.res),O ae (AH fj.res).length ce] 105))
          rw [<-hwf] at hbw hbf hrf
          have HPS:=Aa (hPs.over hbw)
          have HPL:=Aa hfb.1
          have KBd:Hx (∀ W,Ov wf W->_):=fun W (hW:Ov wf W)=>NP K kf _ fj.body W (Bf.over hBd (hbw.trans (hW.mono hbw.size))) hfb.2.1 hfb.2.2.1
          have KRx:Hx (∀ W,Ov wf W->_):=fun W (hW:Ov wf W)=>Mt K _ fj.res W (hRx.over (hbw.trans (hW.mono hbw.size))) hfb.2.2.2
          obtain ⟨pl,hpl⟩:=nm fj.ps.length
          obtain ⟨bl2,hbl2⟩:=nm fj.body.length
          obtain ⟨kj,hkj⟩:=nm (AI fj.res)
          obtain ⟨nj,hnj⟩:=nm (Bc fj.res)
          obtain ⟨lj,hlj⟩:=nm ((AH fj.res).length)
          rw [<-hpl,<-hbl2,<-hkj,<-hnj,<-hlj] at hrf hwf
          rw [<-hpl] at HPS k0
          rw [<-hbl2] at KBd k1
          rw [<-hkj,<-hnj,<-hlj] at KRx
          rw [<-hkj] at k2
          rw [<-hnj] at k3
          rw [<-hlj] at k4
          obtain ⟨bf,hbfe⟩:=nm wi.heap.size
          rw [<-hbfe] at hrf
          have HBFE:=Aa hbfe
          have HFB:Hx (bf < wf.heap.size):=bL (hrf 0 _ rfl)
          have HSS:Hx (∀ W,W.heap[bf]? = wf.heap[bf]?->(fun Wz=>CE Wz bf 0 (O pa pl pc)/\CE Wz bf 1 (O ba2 bl2 bc2)/\CE Wz bf 2 (U zd kj)/\CE Wz bf 3 (U zd nj)/\CE Wz bf 4 (O ae lj ce)) W):=fun W hW=>by
           have h5:∀ q u,[O pa pl pc,O ba2 bl2 bc2,U zd kj,U zd nj,O ae lj ce][q]? = some u->W.cell? ⟨bf,q,none⟩=some u:=fun q u hu=>(World.cell?_of_block (a:=⟨bf,q,none⟩) hW).trans (hrf q u hu)
           exact ⟨h5 0 _ rfl,h5 1 _ rfl,h5 2 _ rfl,h5 3 _ rfl,h5 4 _ rfl⟩
          have haA:fa=some ⟨b2,off2,none⟩:=hA4.trans hb2
          rw [haA] at q3
          obtain ⟨q0,q1,q2,q4,q5⟩:=co5 hwi k0 k1 k2 k3 k4
          obtain ⟨va2',vc2',rfl,-⟩:=hI.cop.cells (by decide)
          have HIf:=Aa (hI.over HBO4.o hbf)
          have HNB:Hx (∀ g,(Value.slice va2' jj vc2').ownBlock=some g->g≠bf):=fun g hg=>by
           have h1:=hI.rowlt g hg
           omega
          have HBB:Hx (bo≠bf):=by
           have h1:=Nat.lt_of_lt_of_le HBO4.o hI.sz
           show bo≠bf
           omega
          have HZF:Hx (Z4.heap.size<=wf.heap.size):=Nat.le_trans hI.sz hbf.size
          have HRF:Hx (∀ g,(Value.slice va2' jj vc2').ownBlock=some g->g < wf.heap.size):=fun g hg=>Nat.lt_of_lt_of_le (hI.rowlt g hg) hbf.size
          have hj100:fs.length<=100:=HSM.o.fB
          clear hpl hbl2 hkj hnj hlj k0 k1 k2 k3 k4 hPs hPk hBd hRx hel hel3 hfj hI hfb hwi hbw hbf hVi hA4 hA5 hA6 hb2 HRV HP HSM HR4 HF4 HB4 hrf hxe hbfe
          rw [haA]
          clear haA
          go_wp2_with fail
          rw [<-hwf,<-HBFE.o]
          have HD:Hx (Ov wf wf.drew):=bD wf
          have HBc:=HD
          refine gS (fun Wz=>CE Wz bf 0 (O pa pl pc)/\CE Wz bf 1 (O ba2 bl2 bc2)/\CE Wz bf 2 (U zd kj)/\CE Wz bf 3 (U zd nj)/\CE Wz bf 4 (O ae lj ce)) (HSS.o _ (HBc.o.block _ HFB.o)) fun hHeld=>?_
          generalize wf.drew=W at hHeld HD HBc ⊢
          clear hwf
          refine kT 0 ?_
          refine kT 3 ?_
          refine kT 4 ?_
          refine kT 6 ?_
          refine kT 7 ?_
          refine kT 9 ?_
          refine kT 10 ?_
          refine rdB 1 2 rfl (fun K hK=>?_) rfl fun K hK=>?_
          ·have c2:=(HIf.o.over HBO4.o HBc.o).out 6 _ rfl
           go_simp
           clear c2
           refine xK hK (HSS.o _ (HBc.o.block _ HFB.o)) fun hHeld=>?_
           clear hK K
           refine rdA 2 rfl fun K hK=>?_
           obtain ⟨Wd,rfl⟩:=nm W
           obtain ⟨W,hW2⟩:=nm (Wd.alloc (ze #[] 3))
           have hb:Ov Wd W:=by rw [hW2];exact bA _ _
           obtain ⟨bi,hq⟩:∃ b:Nat,b=Wd.heap.size:=⟨_,rfl⟩
           have HO2:Hx (W.ownsRow bi 3 1 (O (some ⟨bi,0,none⟩) 0 0) 0 []):=by rw [hW2,hq];exact World.ownsRow_made (base:=Wd.heap.size) (e:=3) (size:=1) Wd #[] 0 (Nat.le_refl _) (by unfold maxLen;omega) rfl
           have HG2:Hx (wf.heap.size<=bi):=by rw [hq];exact HBc.o.size
           replace HBc:=Aa (HBc.o.trans (hb.mono HBc.o.size))
           go_simp
           rw [<-hW2,<-hq]
           clear hW2 hq
           refine xK hK (HSS.o _ (HBc.o.block _ HFB.o)) fun hHeld=>?_
           clear hK K
           refine rdA 5 rfl fun K hK=>?_
           obtain ⟨Wd,rfl⟩:=nm W
           obtain ⟨v5,W,hrun,hown,hgr,hat⟩:=BG (AM.over HPS.o HBc.o) HO2.o HPL.o (Nat.le_of_lt (A9 HO2.o))
           replace HBc:=Aa (HBc.o.trans ((Au HO2.o hgr (Nat.le_of_lt (A9 HO2.o))).mono HG2.o))
           have HO5:=Aa hown
           obtain ⟨p1,p2,p3,rfl⟩:=Ak hown
           refine Ao rfl _ _ _ rfl _ _ _ _ rfl rfl hrun ?_
           clear hrun hown hgr hat HO2
           refine xK hK (HSS.o _ (HBc.o.block _ HFB.o)) fun hHeld=>?_
           clear hK K
           refine rdA 8 rfl fun K hK=>?_
           go_simp
           obtain ⟨Wc,rfl⟩:=nm W
           refine (KBd.o _ HBc.o).mono ?_
           rintro e0 W ⟨m5,n5,rfl,hoff,hb⟩
           have HOB:=Aa (hoff.base HBc.o.size)
           replace HBc:=Aa (HBc.o.trans (hb.mono HBc.o.size))
           replace HO5:=Aa (Ad HO5.o hb)
           clear hoff hb
           go_simp
           refine xK hK (HSS.o _ (HBc.o.block _ HFB.o)) fun hHeld=>?_
           clear hK K
           refine rdA 11 rfl fun K hK=>?_
           go_simp
           obtain ⟨Wc,rfl⟩:=nm W
           refine (KRx.o _ HBc.o).mono ?_
           rintro e0 W ⟨a6,c6,rfl,hoff,hb⟩
           have HOR:=Aa (hoff.base HBc.o.size)
           replace HBc:=Aa (HBc.o.trans (hb.mono HBc.o.size))
           replace HO5:=Aa (Ad HO5.o hb)
           replace HOB:=Aa (HOB.o.over hb)
           clear hoff hb
           go_simp
           refine xK hK (HSS.o _ (HBc.o.block _ HFB.o)) fun hHeld=>?_
           clear hK K
           refine kT 12 ?_
           refine rdA 13 rfl fun K hK=>?_
           obtain ⟨W1,rfl⟩:=nm W
           obtain ⟨W2,hW2⟩:=nm (W1.alloc (ze #[O p1 p2 p3,O m5 bl2 n5,U zd kj,U zd nj,O a6 lj c6] 105))
           have hb2:Ov W1 W2:=by rw [hW2];exact bA _ _
           have HN2:Hx (Ae [O p1 p2 p3,O m5 bl2 n5,U zd kj,U zd nj,O a6 lj c6] W2 W1.heap.size):=by rw [hW2];exact Ae.new [O p1 p2 p3,O m5 bl2 n5,U zd kj,U zd nj,O a6 lj c6] 105 W1
           replace HO5:=Aa (Ad HO5.o hb2)
           replace HOB:=Aa (HOB.o.over hb2)
           replace HOR:=Aa (HOR.o.over hb2)
           replace HBc:=Aa (HBc.o.trans (hb2.mono HBc.o.size))
           go_simp
           rw [<-hW2]
           clear hW2 hb2
           refine xK hK (HSS.o _ (HBc.o.block _ HFB.o)) fun hHeld=>?_
           clear hK K
           refine rdA 14 rfl fun K hK=>?_
           have HIc:=Aa (HIf.o.over HBO4.o HBc.o)
           obtain ⟨xs,hown,hel⟩:=HIc.o.cop
           obtain ⟨v2,W3,hrun,hown3,hgr3,-,hat⟩:=run_append_own_at (P:=Tryz.prog) (w:=W2) Z4.heap.size 28 28 105 hfu0 (zh #[O none 0 0,O none 0 0,U zd 0,U zd 0,O none 0 0]) 5 88 Tryz.underlying28 hfu1 hfu2 hfu3 hfu4 rfl (by decide) _ _ _ hown ⟨W1.heap.size,0,none⟩ 1 1 [O p1 p2 p3,O m5 bl2 n5,U zd kj,U zd nj,O a6 lj c6] rfl (fun jj u hu=>by rw [Addr.add_lit,Nat.zero_add];exact HN2.o jj u hu) (by simp [Value.oneCell']) (by unfold maxLen;omega) (by omega) HIc.o.sz
           obtain ⟨va2,vn2,vc2,rfl⟩:=Ak hown3
           have HF:=Aa (HIc.o.add HBO4.o (by simp) (ds:=[O p1 p2 p3,O m5 bl2 n5,U zd kj,U zd nj,O a6 lj c6]) hown hel rfl (fun W hW f hf=>by
            rw [HDJ2.o] at hf
            injection hf with hf
            rw [<-hf]
            refine ⟨_,_,_,_,_,rfl,Es HO5.o (fun g hg=>hW g (Nat.le_trans HG2.o (An HO5.o hg).1) (An HO5.o hg).2 (by simp)),E3 HO5.o,HOB.o W (fun g h1 h2 h3=>hW g h1 h2 h3),HOR.o W (fun g h1 h2 h3=>hW g h1 h2 h3)⟩) HZF.o HRF.o hown3 hgr3 hat)
           have HB3:Hx (W3.heap[bf]? = wf.heap[bf]?):=(hgr3.block bf (Nat.lt_of_lt_of_le HFB.o HBc.o.size) (fun e=>HNB.o bf e.symm rfl)).trans (HBc.o.block bf HFB.o)
           have d2:CE W3 bo 6 (O va2' jj vc2'):=(World.cell?_of_block (a:=⟨bo,6,none⟩) (hgr3.block bo (Nat.lt_of_lt_of_le HBO4.o HIc.o.sz) (fun e=>by have:=(An hown e.symm).1;have:=HBO4.o;omega))).trans (HIc.o.out 6 _ rfl)
           have f2:W3.frozen? ⟨bo,6,none⟩=false:=(World.frozen?_of_block (a:=⟨bo,6,none⟩) (hgr3.block bo (Nat.lt_of_lt_of_le HBO4.o HIc.o.sz) (fun e=>by have:=(An hown e.symm).1;have:=HBO4.o;omega))).trans (HIc.o.fz _)
           refine Ao rfl _ _ _ rfl _ _ _ _ rfl rfl hrun ?_
           clear hrun hown hel hown3 hgr3 hat
           refine xK hK (HSS.o _ HB3.o) fun hHeld=>?_
           clear hK K
           refine kT 15 ?_
           refine rdA 16 rfl fun K hK=>?_
           have HB4x:Hx ((W3.setCell ⟨bo,6,none⟩ (O va2 vn2 vc2)).heap[bf]? = wf.heap[bf]?):=((AR (w:=W3) (r:=bo) (j:=6) (u:=O va2 vn2 vc2)).block bf (by have:=(Array.getElem?_eq_some_iff.1 (HB3.o.trans (Array.getElem?_eq_getElem HFB.o))).1;exact this) (fun e=>HBB.o (by injection e with e;exact e.symm))).trans HB3.o
           go_simp
           refine xK hK (HSS.o _ HB4x.o) fun hHeld=>?_
           clear hK K
           refine gE ?_
           clear HSS KBd KRx
           go_wp2_with fail
           exact ⟨⟨jj+1,_,by omega,by go_num,HF.o⟩,by simp [intOf];omega⟩
          ·obtain ⟨Wd,rfl⟩:=nm W
           obtain ⟨W,hW2⟩:=nm (Wd.alloc (ze #[] 3))
           have hb:Ov Wd W:=by rw [hW2];exact bA _ _
           obtain ⟨bi,hq⟩:∃ b:Nat,b=Wd.heap.size:=⟨_,rfl⟩
           have HO2:Hx (W.ownsRow bi 3 1 (O (some ⟨bi,0,none⟩) 0 0) 0 []):=by rw [hW2,hq];exact World.ownsRow_made (base:=Wd.heap.size) (e:=3) (size:=1) Wd #[] 0 (Nat.le_refl _) (by unfold maxLen;omega) rfl
           have HG2:Hx (wf.heap.size<=bi):=by rw [hq];exact HBc.o.size
           replace HBc:=Aa (HBc.o.trans (hb.mono HBc.o.size))
           go_simp
           rw [<-hW2,<-hq]
           clear hW2 hq
           refine xK hK (HSS.o _ (HBc.o.block _ HFB.o)) fun hHeld=>?_
           clear hK K
           refine rdB 1 5 rfl (fun K hK=>?_) rfl fun K hK=>?_
           ·have c2:=(HIf.o.over HBO4.o HBc.o).out 6 _ rfl
            go_simp
            clear c2
            refine xK hK (HSS.o _ (HBc.o.block _ HFB.o)) fun hHeld=>?_
            clear hK K
            refine rdA 5 rfl fun K hK=>?_
            obtain ⟨Wd,rfl⟩:=nm W
            obtain ⟨v5,W,hrun,hown,hgr,hat⟩:=BG (AM.over HPS.o HBc.o) HO2.o HPL.o (Nat.le_of_lt (A9 HO2.o))
            replace HBc:=Aa (HBc.o.trans ((Au HO2.o hgr (Nat.le_of_lt (A9 HO2.o))).mono HG2.o))
            have HO5:=Aa hown
            obtain ⟨p1,p2,p3,rfl⟩:=Ak hown
            refine Ao rfl _ _ _ rfl _ _ _ _ rfl rfl hrun ?_
            clear hrun hown hgr hat HO2
            refine xK hK (HSS.o _ (HBc.o.block _ HFB.o)) fun hHeld=>?_
            clear hK K
            refine rdA 8 rfl fun K hK=>?_
            go_simp
            obtain ⟨Wc,rfl⟩:=nm W
            refine (KBd.o _ HBc.o).mono ?_
            rintro e0 W ⟨m5,n5,rfl,hoff,hb⟩
            have HOB:=Aa (hoff.base HBc.o.size)
            replace HBc:=Aa (HBc.o.trans (hb.mono HBc.o.size))
            replace HO5:=Aa (Ad HO5.o hb)
            clear hoff hb
            go_simp
            refine xK hK (HSS.o _ (HBc.o.block _ HFB.o)) fun hHeld=>?_
            clear hK K
            refine rdA 11 rfl fun K hK=>?_
            go_simp
            obtain ⟨Wc,rfl⟩:=nm W
            refine (KRx.o _ HBc.o).mono ?_
            rintro e0 W ⟨a6,c6,rfl,hoff,hb⟩
            have HOR:=Aa (hoff.base HBc.o.size)
            replace HBc:=Aa (HBc.o.trans (hb.mono HBc.o.size))
            replace HO5:=Aa (Ad HO5.o hb)
            replace HOB:=Aa (HOB.o.over hb)
            clear hoff hb
            go_simp
            refine xK hK (HSS.o _ (HBc.o.block _ HFB.o)) fun hHeld=>?_
            clear hK K
            refine kT 12 ?_
            refine rdA 13 rfl fun K hK=>?_
            obtain ⟨W1,rfl⟩:=nm W
            obtain ⟨W2,hW2⟩:=nm (W1.alloc (ze #[O p1 p2 p3,O m5 bl2 n5,U zd kj,U zd nj,O a6 lj c6] 105))
            have hb2:Ov W1 W2:=by rw [hW2];exact bA _ _
            have HN2:Hx (Ae [O p1 p2 p3,O m5 bl2 n5,U zd kj,U zd nj,O a6 lj c6] W2 W1.heap.size):=by rw [hW2];exact Ae.new [O p1 p2 p3,O m5 bl2 n5,U zd kj,U zd nj,O a6 lj c6] 105 W1
            replace HO5:=Aa (Ad HO5.o hb2)
            replace HOB:=Aa (HOB.o.over hb2)
            replace HOR:=Aa (HOR.o.over hb2)
            replace HBc:=Aa (HBc.o.trans (hb2.mono HBc.o.size))
            go_simp
            rw [<-hW2]
            clear hW2 hb2
            refine xK hK (HSS.o _ (HBc.o.block _ HFB.o)) fun hHeld=>?_
            clear hK K
            refine rdA 14 rfl fun K hK=>?_
            have HIc:=Aa (HIf.o.over HBO4.o HBc.o)
            obtain ⟨xs,hown,hel⟩:=HIc.o.cop
            obtain ⟨v2,W3,hrun,hown3,hgr3,-,hat⟩:=run_append_own_at (P:=Tryz.prog) (w:=W2) Z4.heap.size 28 28 105 hfu0 (zh #[O none 0 0,O none 0 0,U zd 0,U zd 0,O none 0 0]) 5 88 Tryz.underlying28 hfu1 hfu2 hfu3 hfu4 rfl (by decide) _ _ _ hown ⟨W1.heap.size,0,none⟩ 1 1 [O p1 p2 p3,O m5 bl2 n5,U zd kj,U zd nj,O a6 lj c6] rfl (fun jj u hu=>by rw [Addr.add_lit,Nat.zero_add];exact HN2.o jj u hu) (by simp [Value.oneCell']) (by unfold maxLen;omega) (by omega) HIc.o.sz
            obtain ⟨va2,vn2,vc2,rfl⟩:=Ak hown3
            have HF:=Aa (HIc.o.add HBO4.o (by simp) (ds:=[O p1 p2 p3,O m5 bl2 n5,U zd kj,U zd nj,O a6 lj c6]) hown hel rfl (fun W hW f hf=>by
             rw [HDJ2.o] at hf
             injection hf with hf
             rw [<-hf]
             refine ⟨_,_,_,_,_,rfl,Es HO5.o (fun g hg=>hW g (Nat.le_trans HG2.o (An HO5.o hg).1) (An HO5.o hg).2 (by simp)),E3 HO5.o,HOB.o W (fun g h1 h2 h3=>hW g h1 h2 h3),HOR.o W (fun g h1 h2 h3=>hW g h1 h2 h3)⟩) HZF.o HRF.o hown3 hgr3 hat)
            have HB3:Hx (W3.heap[bf]? = wf.heap[bf]?):=(hgr3.block bf (Nat.lt_of_lt_of_le HFB.o HBc.o.size) (fun e=>HNB.o bf e.symm rfl)).trans (HBc.o.block bf HFB.o)
            have d2:CE W3 bo 6 (O va2' jj vc2'):=(World.cell?_of_block (a:=⟨bo,6,none⟩) (hgr3.block bo (Nat.lt_of_lt_of_le HBO4.o HIc.o.sz) (fun e=>by have:=(An hown e.symm).1;have:=HBO4.o;omega))).trans (HIc.o.out 6 _ rfl)
            have f2:W3.frozen? ⟨bo,6,none⟩=false:=(World.frozen?_of_block (a:=⟨bo,6,none⟩) (hgr3.block bo (Nat.lt_of_lt_of_le HBO4.o HIc.o.sz) (fun e=>by have:=(An hown e.symm).1;have:=HBO4.o;omega))).trans (HIc.o.fz _)
            refine Ao rfl _ _ _ rfl _ _ _ _ rfl rfl hrun ?_
            clear hrun hown hel hown3 hgr3 hat
            refine xK hK (HSS.o _ HB3.o) fun hHeld=>?_
            clear hK K
            refine kT 15 ?_
            refine rdA 16 rfl fun K hK=>?_
            have HB4x:Hx ((W3.setCell ⟨bo,6,none⟩ (O va2 vn2 vc2)).heap[bf]? = wf.heap[bf]?):=((AR (w:=W3) (r:=bo) (j:=6) (u:=O va2 vn2 vc2)).block bf (by have:=(Array.getElem?_eq_some_iff.1 (HB3.o.trans (Array.getElem?_eq_getElem HFB.o))).1;exact this) (fun e=>HBB.o (by injection e with e;exact e.symm))).trans HB3.o
            go_simp
            refine xK hK (HSS.o _ HB4x.o) fun hHeld=>?_
            clear hK K
            refine gE ?_
            clear HSS KBd KRx
            go_wp2_with fail
            exact ⟨⟨jj+1,_,by omega,by go_num,HF.o⟩,by simp [intOf];omega⟩
           ·obtain ⟨Wd,rfl⟩:=nm W
            obtain ⟨v5,W,hrun,hown,hgr,hat⟩:=BG (AM.over HPS.o HBc.o) HO2.o HPL.o (Nat.le_of_lt (A9 HO2.o))
            replace HBc:=Aa (HBc.o.trans ((Au HO2.o hgr (Nat.le_of_lt (A9 HO2.o))).mono HG2.o))
            have HO5:=Aa hown
            obtain ⟨p1,p2,p3,rfl⟩:=Ak hown
            refine Ao rfl _ _ _ rfl _ _ _ _ rfl rfl hrun ?_
            clear hrun hown hgr hat HO2
            refine xK hK (HSS.o _ (HBc.o.block _ HFB.o)) fun hHeld=>?_
            clear hK K
            refine rdB 1 8 rfl (fun K hK=>?_) rfl fun K hK=>?_
            ·have c2:=(HIf.o.over HBO4.o HBc.o).out 6 _ rfl
             go_simp
             clear c2
             refine xK hK (HSS.o _ (HBc.o.block _ HFB.o)) fun hHeld=>?_
             clear hK K
             refine rdA 8 rfl fun K hK=>?_
             go_simp
             obtain ⟨Wc,rfl⟩:=nm W
             refine (KBd.o _ HBc.o).mono ?_
             rintro e0 W ⟨m5,n5,rfl,hoff,hb⟩
             have HOB:=Aa (hoff.base HBc.o.size)
             replace HBc:=Aa (HBc.o.trans (hb.mono HBc.o.size))
             replace HO5:=Aa (Ad HO5.o hb)
             clear hoff hb
             go_simp
             refine xK hK (HSS.o _ (HBc.o.block _ HFB.o)) fun hHeld=>?_
             clear hK K
             refine rdA 11 rfl fun K hK=>?_
             go_simp
             obtain ⟨Wc,rfl⟩:=nm W
             refine (KRx.o _ HBc.o).mono ?_
             rintro e0 W ⟨a6,c6,rfl,hoff,hb⟩
             have HOR:=Aa (hoff.base HBc.o.size)
             replace HBc:=Aa (HBc.o.trans (hb.mono HBc.o.size))
             replace HO5:=Aa (Ad HO5.o hb)
             replace HOB:=Aa (HOB.o.over hb)
             clear hoff hb
             go_simp
             refine xK hK (HSS.o _ (HBc.o.block _ HFB.o)) fun hHeld=>?_
             clear hK K
             refine kT 12 ?_
             refine rdA 13 rfl fun K hK=>?_
             obtain ⟨W1,rfl⟩:=nm W
             obtain ⟨W2,hW2⟩:=nm (W1.alloc (ze #[O p1 p2 p3,O m5 bl2 n5,U zd kj,U zd nj,O a6 lj c6] 105))
             have hb2:Ov W1 W2:=by rw [hW2];exact bA _ _
             have HN2:Hx (Ae [O p1 p2 p3,O m5 bl2 n5,U zd kj,U zd nj,O a6 lj c6] W2 W1.heap.size):=by rw [hW2];exact Ae.new [O p1 p2 p3,O m5 bl2 n5,U zd kj,U zd nj,O a6 lj c6] 105 W1
             replace HO5:=Aa (Ad HO5.o hb2)
             replace HOB:=Aa (HOB.o.over hb2)
             replace HOR:=Aa (HOR.o.over hb2)
             replace HBc:=Aa (HBc.o.trans (hb2.mono HBc.o.size))
             go_simp
             rw [<-hW2]
             clear hW2 hb2
             refine xK hK (HSS.o _ (HBc.o.block _ HFB.o)) fun hHeld=>?_
             clear hK K
             refine rdA 14 rfl fun K hK=>?_
             have HIc:=Aa (HIf.o.over HBO4.o HBc.o)
             obtain ⟨xs,hown,hel⟩:=HIc.o.cop
             obtain ⟨v2,W3,hrun,hown3,hgr3,-,hat⟩:=run_append_own_at (P:=Tryz.prog) (w:=W2) Z4.heap.size 28 28 105 hfu0 (zh #[O none 0 0,O none 0 0,U zd 0,U zd 0,O none 0 0]) 5 88 Tryz.underlying28 hfu1 hfu2 hfu3 hfu4 rfl (by decide) _ _ _ hown ⟨W1.heap.size,0,none⟩ 1 1 [O p1 p2 p3,O m5 bl2 n5,U zd kj,U zd nj,O a6 lj c6] rfl (fun jj u hu=>by rw [Addr.add_lit,Nat.zero_add];exact HN2.o jj u hu) (by simp [Value.oneCell']) (by unfold maxLen;omega) (by omega) HIc.o.sz
             obtain ⟨va2,vn2,vc2,rfl⟩:=Ak hown3
             have HF:=Aa (HIc.o.add HBO4.o (by simp) (ds:=[O p1 p2 p3,O m5 bl2 n5,U zd kj,U zd nj,O a6 lj c6]) hown hel rfl (fun W hW f hf=>by
              rw [HDJ2.o] at hf
              injection hf with hf
              rw [<-hf]
              refine ⟨_,_,_,_,_,rfl,Es HO5.o (fun g hg=>hW g (Nat.le_trans HG2.o (An HO5.o hg).1) (An HO5.o hg).2 (by simp)),E3 HO5.o,HOB.o W (fun g h1 h2 h3=>hW g h1 h2 h3),HOR.o W (fun g h1 h2 h3=>hW g h1 h2 h3)⟩) HZF.o HRF.o hown3 hgr3 hat)
             have HB3:Hx (W3.heap[bf]? = wf.heap[bf]?):=(hgr3.block bf (Nat.lt_of_lt_of_le HFB.o HBc.o.size) (fun e=>HNB.o bf e.symm rfl)).trans (HBc.o.block bf HFB.o)
             have d2:CE W3 bo 6 (O va2' jj vc2'):=(World.cell?_of_block (a:=⟨bo,6,none⟩) (hgr3.block bo (Nat.lt_of_lt_of_le HBO4.o HIc.o.sz) (fun e=>by have:=(An hown e.symm).1;have:=HBO4.o;omega))).trans (HIc.o.out 6 _ rfl)
             have f2:W3.frozen? ⟨bo,6,none⟩=false:=(World.frozen?_of_block (a:=⟨bo,6,none⟩) (hgr3.block bo (Nat.lt_of_lt_of_le HBO4.o HIc.o.sz) (fun e=>by have:=(An hown e.symm).1;have:=HBO4.o;omega))).trans (HIc.o.fz _)
             refine Ao rfl _ _ _ rfl _ _ _ _ rfl rfl hrun ?_
             clear hrun hown hel hown3 hgr3 hat
             refine xK hK (HSS.o _ HB3.o) fun hHeld=>?_
             clear hK K
             refine kT 15 ?_
             refine rdA 16 rfl fun K hK=>?_
             have HB4x:Hx ((W3.setCell ⟨bo,6,none⟩ (O va2 vn2 vc2)).heap[bf]? = wf.heap[bf]?):=((AR (w:=W3) (r:=bo) (j:=6) (u:=O va2 vn2 vc2)).block bf (by have:=(Array.getElem?_eq_some_iff.1 (HB3.o.trans (Array.getElem?_eq_getElem HFB.o))).1;exact this) (fun e=>HBB.o (by injection e with e;exact e.symm))).trans HB3.o
             go_simp
             refine xK hK (HSS.o _ HB4x.o) fun hHeld=>?_
             clear hK K
             refine gE ?_
             clear HSS KBd KRx
             go_wp2_with fail
             exact ⟨⟨jj+1,_,by omega,by go_num,HF.o⟩,by simp [intOf];omega⟩
            ·go_simp
             obtain ⟨Wc,rfl⟩:=nm W
             refine (KBd.o _ HBc.o).mono ?_
             rintro e0 W ⟨m5,n5,rfl,hoff,hb⟩
             have HOB:=Aa (hoff.base HBc.o.size)
             replace HBc:=Aa (HBc.o.trans (hb.mono HBc.o.size))
             replace HO5:=Aa (Ad HO5.o hb)
             clear hoff hb
             go_simp
             refine xK hK (HSS.o _ (HBc.o.block _ HFB.o)) fun hHeld=>?_
             clear hK K
             refine rdB 1 11 rfl (fun K hK=>?_) rfl fun K hK=>?_
             ·have c2:=(HIf.o.over HBO4.o HBc.o).out 6 _ rfl
              go_simp
              clear c2
              refine xK hK (HSS.o _ (HBc.o.block _ HFB.o)) fun hHeld=>?_
              clear hK K
              refine rdA 11 rfl fun K hK=>?_
              go_simp
              obtain ⟨Wc,rfl⟩:=nm W
              refine (KRx.o _ HBc.o).mono ?_
              rintro e0 W ⟨a6,c6,rfl,hoff,hb⟩
              have HOR:=Aa (hoff.base HBc.o.size)
              replace HBc:=Aa (HBc.o.trans (hb.mono HBc.o.size))
              replace HO5:=Aa (Ad HO5.o hb)
              replace HOB:=Aa (HOB.o.over hb)
              clear hoff hb
              go_simp
              refine xK hK (HSS.o _ (HBc.o.block _ HFB.o)) fun hHeld=>?_
              clear hK K
              refine kT 12 ?_
              refine rdA 13 rfl fun K hK=>?_
              obtain ⟨W1,rfl⟩:=nm W
              obtain ⟨W2,hW2⟩:=nm (W1.alloc (ze #[O p1 p2 p3,O m5 bl2 n5,U zd kj,U zd nj,O a6 lj c6] 105))
              have hb2:Ov W1 W2:=by rw [hW2];exact bA _ _
              have HN2:Hx (Ae [O p1 p2 p3,O m5 bl2 n5,U zd kj,U zd nj,O a6 lj c6] W2 W1.heap.size):=by rw [hW2];exact Ae.new [O p1 p2 p3,O m5 bl2 n5,U zd kj,U zd nj,O a6 lj c6] 105 W1
              replace HO5:=Aa (Ad HO5.o hb2)
              replace HOB:=Aa (HOB.o.over hb2)
              replace HOR:=Aa (HOR.o.over hb2)
              replace HBc:=Aa (HBc.o.trans (hb2.mono HBc.o.size))
              go_simp
              rw [<-hW2]
              clear hW2 hb2
              refine xK hK (HSS.o _ (HBc.o.block _ HFB.o)) fun hHeld=>?_
              clear hK K
              refine rdA 14 rfl fun K hK=>?_
              have HIc:=Aa (HIf.o.over HBO4.o HBc.o)
              obtain ⟨xs,hown,hel⟩:=HIc.o.cop
              obtain ⟨v2,W3,hrun,hown3,hgr3,-,hat⟩:=run_append_own_at (P:=Tryz.prog) (w:=W2) Z4.heap.size 28 28 105 hfu0 (zh #[O none 0 0,O none 0 0,U zd 0,U zd 0,O none 0 0]) 5 88 Tryz.underlying28 hfu1 hfu2 hfu3 hfu4 rfl (by decide) _ _ _ hown ⟨W1.heap.size,0,none⟩ 1 1 [O p1 p2 p3,O m5 bl2 n5,U zd kj,U zd nj,O a6 lj c6] rfl (fun jj u hu=>by rw [Addr.add_lit,Nat.zero_add];exact HN2.o jj u hu) (by simp [Value.oneCell']) (by unfold maxLen;omega) (by omega) HIc.o.sz
              obtain ⟨va2,vn2,vc2,rfl⟩:=Ak hown3
              have HF:=Aa (HIc.o.add HBO4.o (by simp) (ds:=[O p1 p2 p3,O m5 bl2 n5,U zd kj,U zd nj,O a6 lj c6]) hown hel rfl (fun W hW f hf=>by
               rw [HDJ2.o] at hf
               injection hf with hf
               rw [<-hf]
               refine ⟨_,_,_,_,_,rfl,Es HO5.o (fun g hg=>hW g (Nat.le_trans HG2.o (An HO5.o hg).1) (An HO5.o hg).2 (by simp)),E3 HO5.o,HOB.o W (fun g h1 h2 h3=>hW g h1 h2 h3),HOR.o W (fun g h1 h2 h3=>hW g h1 h2 h3)⟩) HZF.o HRF.o hown3 hgr3 hat)
              have HB3:Hx (W3.heap[bf]? = wf.heap[bf]?):=(hgr3.block bf (Nat.lt_of_lt_of_le HFB.o HBc.o.size) (fun e=>HNB.o bf e.symm rfl)).trans (HBc.o.block bf HFB.o)
              have d2:CE W3 bo 6 (O va2' jj vc2'):=(World.cell?_of_block (a:=⟨bo,6,none⟩) (hgr3.block bo (Nat.lt_of_lt_of_le HBO4.o HIc.o.sz) (fun e=>by have:=(An hown e.symm).1;have:=HBO4.o;omega))).trans (HIc.o.out 6 _ rfl)
              have f2:W3.frozen? ⟨bo,6,none⟩=false:=(World.frozen?_of_block (a:=⟨bo,6,none⟩) (hgr3.block bo (Nat.lt_of_lt_of_le HBO4.o HIc.o.sz) (fun e=>by have:=(An hown e.symm).1;have:=HBO4.o;omega))).trans (HIc.o.fz _)
              refine Ao rfl _ _ _ rfl _ _ _ _ rfl rfl hrun ?_
              clear hrun hown hel hown3 hgr3 hat
              refine xK hK (HSS.o _ HB3.o) fun hHeld=>?_
              clear hK K
              refine kT 15 ?_
              refine rdA 16 rfl fun K hK=>?_
              have HB4x:Hx ((W3.setCell ⟨bo,6,none⟩ (O va2 vn2 vc2)).heap[bf]? = wf.heap[bf]?):=((AR (w:=W3) (r:=bo) (j:=6) (u:=O va2 vn2 vc2)).block bf (by have:=(Array.getElem?_eq_some_iff.1 (HB3.o.trans (Array.getElem?_eq_getElem HFB.o))).1;exact this) (fun e=>HBB.o (by injection e with e;exact e.symm))).trans HB3.o
              go_simp
              refine xK hK (HSS.o _ HB4x.o) fun hHeld=>?_
              clear hK K
              refine gE ?_
              clear HSS KBd KRx
              go_wp2_with fail
              exact ⟨⟨jj+1,_,by omega,by go_num,HF.o⟩,by simp [intOf];omega⟩
             ·go_simp
              obtain ⟨Wc,rfl⟩:=nm W
              refine (KRx.o _ HBc.o).mono ?_
              rintro e0 W ⟨a6,c6,rfl,hoff,hb⟩
              have HOR:=Aa (hoff.base HBc.o.size)
              replace HBc:=Aa (HBc.o.trans (hb.mono HBc.o.size))
              replace HO5:=Aa (Ad HO5.o hb)
              replace HOB:=Aa (HOB.o.over hb)
              clear hoff hb
              go_simp
              refine xK hK (HSS.o _ (HBc.o.block _ HFB.o)) fun hHeld=>?_
              clear hK K
              refine kT 12 ?_
              refine rdB 1 13 rfl (fun K hK=>?_) rfl fun K hK=>?_
              ·have c2:=(HIf.o.over HBO4.o HBc.o).out 6 _ rfl
               go_simp
               clear c2
               refine xK hK (HSS.o _ (HBc.o.block _ HFB.o)) fun hHeld=>?_
               clear hK K
               refine rdA 13 rfl fun K hK=>?_
               obtain ⟨W1,rfl⟩:=nm W
               obtain ⟨W2,hW2⟩:=nm (W1.alloc (ze #[O p1 p2 p3,O m5 bl2 n5,U zd kj,U zd nj,O a6 lj c6] 105))
               have hb2:Ov W1 W2:=by rw [hW2];exact bA _ _
               have HN2:Hx (Ae [O p1 p2 p3,O m5 bl2 n5,U zd kj,U zd nj,O a6 lj c6] W2 W1.heap.size):=by rw [hW2];exact Ae.new [O p1 p2 p3,O m5 bl2 n5,U zd kj,U zd nj,O a6 lj c6] 105 W1
               replace HO5:=Aa (Ad HO5.o hb2)
               replace HOB:=Aa (HOB.o.over hb2)
               replace HOR:=Aa (HOR.o.over hb2)
               replace HBc:=Aa (HBc.o.trans (hb2.mono HBc.o.size))
               go_simp
               rw [<-hW2]
               clear hW2 hb2
               refine xK hK (HSS.o _ (HBc.o.block _ HFB.o)) fun hHeld=>?_
               clear hK K
               refine rdA 14 rfl fun K hK=>?_
               have HIc:=Aa (HIf.o.over HBO4.o HBc.o)
               obtain ⟨xs,hown,hel⟩:=HIc.o.cop
               obtain ⟨v2,W3,hrun,hown3,hgr3,-,hat⟩:=run_append_own_at (P:=Tryz.prog) (w:=W2) Z4.heap.size 28 28 105 hfu0 (zh #[O none 0 0,O none 0 0,U zd 0,U zd 0,O none 0 0]) 5 88 Tryz.underlying28 hfu1 hfu2 hfu3 hfu4 rfl (by decide) _ _ _ hown ⟨W1.heap.size,0,none⟩ 1 1 [O p1 p2 p3,O m5 bl2 n5,U zd kj,U zd nj,O a6 lj c6] rfl (fun jj u hu=>by rw [Addr.add_lit,Nat.zero_add];exact HN2.o jj u hu) (by simp [Value.oneCell']) (by unfold maxLen;omega) (by omega) HIc.o.sz
               obtain ⟨va2,vn2,vc2,rfl⟩:=Ak hown3
               have HF:=Aa (HIc.o.add HBO4.o (by simp) (ds:=[O p1 p2 p3,O m5 bl2 n5,U zd kj,U zd nj,O a6 lj c6]) hown hel rfl (fun W hW f hf=>by
                rw [HDJ2.o] at hf
                injection hf with hf
                rw [<-hf]
                refine ⟨_,_,_,_,_,rfl,Es HO5.o (fun g hg=>hW g (Nat.le_trans HG2.o (An HO5.o hg).1) (An HO5.o hg).2 (by simp)),E3 HO5.o,HOB.o W (fun g h1 h2 h3=>hW g h1 h2 h3),HOR.o W (fun g h1 h2 h3=>hW g h1 h2 h3)⟩) HZF.o HRF.o hown3 hgr3 hat)
               have HB3:Hx (W3.heap[bf]? = wf.heap[bf]?):=(hgr3.block bf (Nat.lt_of_lt_of_le HFB.o HBc.o.size) (fun e=>HNB.o bf e.symm rfl)).trans (HBc.o.block bf HFB.o)
               have d2:CE W3 bo 6 (O va2' jj vc2'):=(World.cell?_of_block (a:=⟨bo,6,none⟩) (hgr3.block bo (Nat.lt_of_lt_of_le HBO4.o HIc.o.sz) (fun e=>by have:=(An hown e.symm).1;have:=HBO4.o;omega))).trans (HIc.o.out 6 _ rfl)
               have f2:W3.frozen? ⟨bo,6,none⟩=false:=(World.frozen?_of_block (a:=⟨bo,6,none⟩) (hgr3.block bo (Nat.lt_of_lt_of_le HBO4.o HIc.o.sz) (fun e=>by have:=(An hown e.symm).1;have:=HBO4.o;omega))).trans (HIc.o.fz _)
               refine Ao rfl _ _ _ rfl _ _ _ _ rfl rfl hrun ?_
               clear hrun hown hel hown3 hgr3 hat
               refine xK hK (HSS.o _ HB3.o) fun hHeld=>?_
               clear hK K
               refine kT 15 ?_
               refine rdA 16 rfl fun K hK=>?_
               have HB4x:Hx ((W3.setCell ⟨bo,6,none⟩ (O va2 vn2 vc2)).heap[bf]? = wf.heap[bf]?):=((AR (w:=W3) (r:=bo) (j:=6) (u:=O va2 vn2 vc2)).block bf (by have:=(Array.getElem?_eq_some_iff.1 (HB3.o.trans (Array.getElem?_eq_getElem HFB.o))).1;exact this) (fun e=>HBB.o (by injection e with e;exact e.symm))).trans HB3.o
               go_simp
               refine xK hK (HSS.o _ HB4x.o) fun hHeld=>?_
               clear hK K
               refine gE ?_
               clear HSS KBd KRx
               go_wp2_with fail
               exact ⟨⟨jj+1,_,by omega,by go_num,HF.o⟩,by simp [intOf];omega⟩
              ·obtain ⟨W1,rfl⟩:=nm W
               obtain ⟨W2,hW2⟩:=nm (W1.alloc (ze #[O p1 p2 p3,O m5 bl2 n5,U zd kj,U zd nj,O a6 lj c6] 105))
               have hb2:Ov W1 W2:=by rw [hW2];exact bA _ _
               have HN2:Hx (Ae [O p1 p2 p3,O m5 bl2 n5,U zd kj,U zd nj,O a6 lj c6] W2 W1.heap.size):=by rw [hW2];exact Ae.new [O p1 p2 p3,O m5 bl2 n5,U zd kj,U zd nj,O a6 lj c6] 105 W1
               replace HO5:=Aa (Ad HO5.o hb2)
               replace HOB:=Aa (HOB.o.over hb2)
               replace HOR:=Aa (HOR.o.over hb2)
               replace HBc:=Aa (HBc.o.trans (hb2.mono HBc.o.size))
               go_simp
               rw [<-hW2]
               clear hW2 hb2
               refine xK hK (HSS.o _ (HBc.o.block _ HFB.o)) fun hHeld=>?_
               clear hK K
               refine rdA 1 rfl fun K hK=>?_
               have c2:=(HIf.o.over HBO4.o HBc.o).out 6 _ rfl
               go_simp
               clear c2
               refine xK hK (HSS.o _ (HBc.o.block _ HFB.o)) fun hHeld=>?_
               clear hK K
               refine rdA 14 rfl fun K hK=>?_
               have HIc:=Aa (HIf.o.over HBO4.o HBc.o)
               obtain ⟨xs,hown,hel⟩:=HIc.o.cop
               obtain ⟨v2,W3,hrun,hown3,hgr3,-,hat⟩:=run_append_own_at (P:=Tryz.prog) (w:=W2) Z4.heap.size 28 28 105 hfu0 (zh #[O none 0 0,O none 0 0,U zd 0,U zd 0,O none 0 0]) 5 88 Tryz.underlying28 hfu1 hfu2 hfu3 hfu4 rfl (by decide) _ _ _ hown ⟨W1.heap.size,0,none⟩ 1 1 [O p1 p2 p3,O m5 bl2 n5,U zd kj,U zd nj,O a6 lj c6] rfl (fun jj u hu=>by rw [Addr.add_lit,Nat.zero_add];exact HN2.o jj u hu) (by simp [Value.oneCell']) (by unfold maxLen;omega) (by omega) HIc.o.sz
               obtain ⟨va2,vn2,vc2,rfl⟩:=Ak hown3
               have HF:=Aa (HIc.o.add HBO4.o (by simp) (ds:=[O p1 p2 p3,O m5 bl2 n5,U zd kj,U zd nj,O a6 lj c6]) hown hel rfl (fun W hW f hf=>by
                rw [HDJ2.o] at hf
                injection hf with hf
                rw [<-hf]
                refine ⟨_,_,_,_,_,rfl,Es HO5.o (fun g hg=>hW g (Nat.le_trans HG2.o (An HO5.o hg).1) (An HO5.o hg).2 (by simp)),E3 HO5.o,HOB.o W (fun g h1 h2 h3=>hW g h1 h2 h3),HOR.o W (fun g h1 h2 h3=>hW g h1 h2 h3)⟩) HZF.o HRF.o hown3 hgr3 hat)
               have HB3:Hx (W3.heap[bf]? = wf.heap[bf]?):=(hgr3.block bf (Nat.lt_of_lt_of_le HFB.o HBc.o.size) (fun e=>HNB.o bf e.symm rfl)).trans (HBc.o.block bf HFB.o)
               have d2:CE W3 bo 6 (O va2' jj vc2'):=(World.cell?_of_block (a:=⟨bo,6,none⟩) (hgr3.block bo (Nat.lt_of_lt_of_le HBO4.o HIc.o.sz) (fun e=>by have:=(An hown e.symm).1;have:=HBO4.o;omega))).trans (HIc.o.out 6 _ rfl)
               have f2:W3.frozen? ⟨bo,6,none⟩=false:=(World.frozen?_of_block (a:=⟨bo,6,none⟩) (hgr3.block bo (Nat.lt_of_lt_of_le HBO4.o HIc.o.sz) (fun e=>by have:=(An hown e.symm).1;have:=HBO4.o;omega))).trans (HIc.o.fz _)
               refine Ao rfl _ _ _ rfl _ _ _ _ rfl rfl hrun ?_
               clear hrun hown hel hown3 hgr3 hat
               refine xK hK (HSS.o _ HB3.o) fun hHeld=>?_
               clear hK K
               refine kT 15 ?_
               refine rdA 16 rfl fun K hK=>?_
               have HB4x:Hx ((W3.setCell ⟨bo,6,none⟩ (O va2 vn2 vc2)).heap[bf]? = wf.heap[bf]?):=((AR (w:=W3) (r:=bo) (j:=6) (u:=O va2 vn2 vc2)).block bf (by have:=(Array.getElem?_eq_some_iff.1 (HB3.o.trans (Array.getElem?_eq_getElem HFB.o))).1;exact this) (fun e=>HBB.o (by injection e with e;exact e.symm))).trans HB3.o
               go_simp
               refine xK hK (HSS.o _ HB4x.o) fun hHeld=>?_
               clear hK K
               refine gE ?_
               clear HSS KBd KRx
               go_wp2_with fail
               exact ⟨⟨jj+1,_,by omega,by go_num,HF.o⟩,by simp [intOf];omega⟩
         ·obtain rfl:jj=fs.length:=by omega
          obtain ⟨f1,f3,rfl,hoff⟩:=hI.cop.cells (by decide)
          have HE4:=Aa hoff
          have HGW4:=Aa hI.grown
          have hcs:Ae [U zd m,O g1 g2 g3,O s1 s2 s3,O y1 ls.length y3,O o1 ms.length o3,O v1 v2 v3,O f1 fs.length f3,O m1 l.length m3] wi bo:=hI.out
          obtain ⟨o0,o1c,o2,o3c,o4,o5,o6,o7⟩:=rc8 hcs
          have hzr:Z8 (w.heap.size+1) wi:=by
           have h1:wi.heap[w.heap.size+1]? = V.heap[w.heap.size+1]?:=hVi.block _ (by have:=HVS.o;omega)
           exact ⟨fun q u hu=>(World.cell?_of_block (a:=⟨w.heap.size+1,q,none⟩) h1).trans (HZR.o.row q u hu),fun q=>(World.frozen?_of_block (a:=⟨w.heap.size+1,q,none⟩) h1).trans (HZR.o.fz q)⟩
          have HZ:=Aa hzr
          obtain ⟨d0,d1,d2,d3,d4,d5,d6,d7⟩:=rc8 hzr.row
          have p0:=hzr.fz 0
          have p1:=hzr.fz 1
          have p2:=hzr.fz 2
          have p3:=hzr.fz 3
          have p4:=hzr.fz 4
          have p5:=hzr.fz 5
          have p6:=hzr.fz 6
          have p7:=hzr.fz 7
          have HVI:=Aa hVi
          have HIS:=Aa hI.sz
          have HVZ4:=HVk
          clear hoff hI hVi hlt HVk hjj hzr hcs HR4 HF4 HB4
          go_wp2_with fail
          obtain ⟨WF,hWF⟩:=nm (Bk wi (w.heap.size+1) (U zd m) (O g1 g2 g3) (O s1 s2 s3) (O y1 ls.length y3) (O o1 ms.length o3) (O v1 v2 v3) (O f1 fs.length f3) (O m1 l.length m3))
          have hgF:wi.grownBy WF (some (w.heap.size+1)):=by rw [hWF];exact A6 _ _
          have hrF:Ae [U zd m,O g1 g2 g3,O s1 s2 s3,O y1 ls.length y3,O o1 ms.length o3,O v1 v2 v3,O f1 fs.length f3,O m1 l.length m3] WF (w.heap.size+1):=by rw [hWF];exact HZ.o.fill _ _ _ _ _ _ _ _
          obtain ⟨t0,t1,t2,t3,t4,t5,t6,t7⟩:=rc8 hrF
          unfold Bk at hWF
          rw [<-hWF]
          have hoV:=HWV.o
          have hsz:=HVS.o
          have hgV:∀ q,V.heap.size<=q->q < wi.heap.size->WF.heap[q]? = wi.heap[q]?:=fun q h1 h2=>hgF.block q h2 (fun e=>by injection e with e;omega)
          refine bodyPost_ret (v:=zh #[U zd m,O g1 g2 g3,O s1 s2 s3,O y1 ls.length y3,O o1 ms.length o3,O v1 v2 v3,O f1 fs.length f3,O m1 l.length m3]) (by simp [results,Tryz.results14,go_sem,t0,t1,t2,t3,t4,t5,t6,t7]) rfl ?_
          refine ⟨g1,g2,g3,s1,s2,s3,y1,y3,o1,o3,O v1 v2 v3,f1,f3,m1,m3,xs,rfl,⟨HN1.o,HN2.o⟩,?_,?_,?_⟩
          ·have hne:(Value.slice v1 v2 v3).ownBlock≠some bo:=fun e=>by have:=(An HOV.o e).1;have:=HBO3.o;omega
           have hne2:(Value.slice v1 v2 v3).ownBlock≠some (w.heap.size+1):=fun e=>by have:=(An HOV.o e).1;have:=HVZ3.o;omega
           have h1:=(HOV.o.kept HGW4.o (Or.inr hne)).kept hgF (Or.inr hne2)
           exact ⟨h1.1,h1.2.imp id (fun ⟨g,cap,cur,hv,hb,r⟩=>⟨g,cap,cur,hv,Nat.le_trans (by have:=HVZ3.o;omega) hb,r⟩)⟩
          ·intro W hW
           have z1:=HVZ1.o
           have z2:=HVZ2.o
           have z3:=HVZ3.o
           have z4:=HVZ4.o
           have y12:=HGW1.o.size
           have y23:=HGW2.o.size
           have y34:=HGW3.o.size
           have y45:=HGW4.o.size
           have yb:=HBO1.o
           have hag:∀ q,V.heap.size<=q->q < wi.heap.size->some q≠(Value.slice v1 v2 v3).ownBlock->W.heap[q]? = wi.heap[q]?:=fun q h1 h2 h3=>(hW q (by omega) (Nat.lt_of_lt_of_le h2 hgF.size) h3).trans (hgV q h1 h2)
           have hgv:∀ q,q < Z3.heap.size->some q≠(Value.slice v1 v2 v3).ownBlock:=fun q hq e=>by have:=(An HOV.o e.symm).1;omega
           have hgv4:∀ q,Z4.heap.size<=q->some q≠(Value.slice v1 v2 v3).ownBlock:=fun q hq e=>by have:=(An HOV.o e.symm).2;omega
           have g4:=HGW4.o
           have g3:=A0 HGW3.o g4
           have g2:=A0 HGW2.o g3
           have g1':=A0 HGW1.o g2
           refine ⟨Ou HO7.o.1 (fun q hq=>?_),Es HO12.o.1 (fun q hq=>?_),?_,?_,?_,HOL.o W (fun q h1 h2 h3=>(hag q h1 (by omega) (hgv q (by omega))).trans (g1'.block q h2 h3))⟩
           ·have h1:=An HO7.o.1 hq
            have h2:=HG39.o
            exact (hag q (by omega) (by omega) (hgv q (by omega))).trans (g1'.block q h1.2 (fun e=>HO7.o.2 (hq.trans e)))
           ·have h1:=An HO12.o.1 hq
            have h2:=HG39.o
            exact (hag q (by omega) (by omega) (hgv q (by omega))).trans (g1'.block q h1.2 (fun e=>HO12.o.2 (hq.trans e)))
           ·have hc:=HE1.o W (fun q h1 h2 _=>(hag q (by omega) (by omega) (hgv q (by omega))).trans (g2.block q h2 (fun e=>by injection e with e;omega)))
            refine ⟨Nat.le_trans HSM.o.yB (by decide +kernel),y1,y3,rfl,fun hne=>?_⟩
            obtain ⟨b,hb,hel⟩:=hc (by intro h0;exact hne (List.length_eq_zero_iff.1 h0))
            refine ⟨b,0,hb,fun i hi=>?_⟩
            obtain ⟨cs,h1,h2,h3⟩:=hel i hi
            obtain ⟨x,y,rfl,hx,hy⟩:=h3 _ (List.getElem?_eq_getElem hi)
            exact ⟨x,y,by rw [Nat.zero_add];exact h2 0 _ rfl,by rw [Nat.zero_add];exact h2 1 _ rfl,hx,hy⟩
           ·have hc:=HE2.o W (fun q h1 h2 _=>(hag q (by omega) (by omega) (hgv q (by omega))).trans (g3.block q h2 (fun e=>by injection e with e;omega)))
            refine ⟨Nat.le_trans HSM.o.oB (by decide +kernel),o1,o3,rfl,fun hne=>?_⟩
            obtain ⟨b,hb,hel⟩:=hc (by intro h0;exact hne (List.length_eq_zero_iff.1 h0))
            refine ⟨b,0,hb,fun i hi=>?_⟩
            obtain ⟨cs,h1,h2,h3⟩:=hel i hi
            obtain ⟨x,y,rfl,hx,hy⟩:=h3 _ (List.getElem?_eq_getElem hi)
            exact ⟨x,y,by rw [Nat.zero_add];exact h2 0 _ rfl,by rw [Nat.zero_add];exact h2 1 _ rfl,hx,hy⟩
           ·have hc:=HE4.o W (fun q h1 h2 _=>hag q (by omega) h2 (hgv4 q h1))
            refine ⟨Nat.le_trans HSM.o.fB (by decide +kernel),f1,f3,rfl,fun hne=>?_⟩
            obtain ⟨b,hb,hel⟩:=hc (by intro h0;exact hne (List.length_eq_zero_iff.1 h0))
            refine ⟨b,0,hb,fun i hi=>?_⟩
            obtain ⟨cs,h1,h2,h3⟩:=hel i hi
            obtain ⟨vP,vB,x0,x1,x2,rfl,q1,q2,q3',q4⟩:=h3 _ (List.getElem?_eq_getElem hi)
            exact ⟨vP,vB,x0,x1,x2,by rw [Nat.zero_add];exact h2 0 _ rfl,by rw [Nat.zero_add];exact h2 1 _ rfl,by rw [Nat.zero_add];exact h2 2 _ rfl,by rw [Nat.zero_add];exact h2 3 _ rfl,by rw [Nat.zero_add];exact h2 4 _ rfl,q1,q2,q3',q4⟩
          ·exact Bi (hoV.trans (HVI.o.mono hoV.size)) hgF (by omega) (Nat.le_refl _)
end Go.Proofs.YtfffpjkcfnekaaaGreat.Ex
