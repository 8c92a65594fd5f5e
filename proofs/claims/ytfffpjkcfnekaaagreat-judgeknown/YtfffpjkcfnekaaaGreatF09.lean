/- One who judges: a command that gets. -/
import Derived.Test.YtfffpjkcfnekaaaGreatF08
set_option linter.unusedVariables false
set_option maxHeartbeats 8000000
set_option maxRecDepth 100000
namespace Go.Proofs.YtfffpjkcfnekaaaGreat.Ex
open Go.RowKit
open Go.Value renaming slice -> O, int -> U, bool -> zg, agg -> zh, pointer -> zj, tuple -> zm
open Go.IntKind renaming i64 -> zd
open Go.Obj renaming cells -> ze
open Go.Ending renaming returned -> zk
theorem EQ {m n:Nat} {v:Value} (h:Kp m v) (hn:n<=m):Kp n v:=by
 obtain ⟨x,y,hv,hx,hy⟩:=h
 exact ⟨x,y,hv,fun a k c e=>Nat.le_trans hn (hx a k c e),fun a k c e=>Nat.le_trans hn (hy a k c e)⟩
theorem J9 {n bj bc:Nat} {A Z W4:World} {x y v:Value} {l:Lev} (hf:Bh Z W4 v l) (hl:l.len n) (hb:Ov A ((W4.setCell ⟨bc,0,none⟩ x).setCell ⟨bc,1,none⟩ y)) (hlt:∀ k,XJ bj A k->k < A.heap.size) (h1:bc < Z.heap.size) (h2:A.heap.size<=Z.heap.size):AW n (XJ bj) ((W4.setCell ⟨bc,0,none⟩ x).setCell ⟨bc,1,none⟩ y) v l:=by
 have hn:=BN hf
 obtain ⟨u,w,rfl,bu,bw⟩:=Ao hf
 obtain ⟨u',w',he,hu,hw⟩:=hn
 simp at he
 obtain ⟨rfl,rfl⟩:=he
 have hF:FrW (fun _ k=>k=bc) W4 ((W4.setCell ⟨bc,0,none⟩ x).setCell ⟨bc,1,none⟩ y):=⟨rfl,rfl,rfl,by simp [World.setCell],fun k hk hx=>by rw [Bk (Ne.symm hx),Bk (Ne.symm hx)],fun k _ h=>h⟩
 refine ⟨⟨u,w,rfl,Dt bu hF (fun a m c e=>by have:=hu a m c e;omega),Dt bw hF (fun a m c e=>by have:=hw a m c e;omega)⟩,hl,?_⟩
 exact Cs (Ai bj) hb hlt (EQ (BN hf) h2)
abbrev Jw (W:World) (bj:Nat) (c:WC) (bo oo jo:Nat) (pa1:Option Addr) (pn1 pc1:Nat) (pa2:Option Addr) (pn2 pc2:Nat) (Wz:World):Prop:=Wz.cell? ⟨W.heap.size,0,none⟩=some (zj (some ⟨bj,0,none⟩))/\CE Wz bj 0 (U zd (c.n:Int))/\CE Wz bj 1 (O c.ga c.gn c.gc)/\CE Wz bj 2 (O c.sa c.sn c.sc)/\CE Wz bj 3 (O (some ⟨bo,oo,none⟩) c.yn c.yc)/\CE Wz bj 4 (O c.oa c.on c.oc)/\CE Wz bj 5 (O c.va c.vn c.vc)/\CE Wz bj 6 (O c.fa c.fn c.fc)/\CE Wz bj 7 (O c.ba c.bn c.bc)/\CE Wz bj 8 (O c.la c.ln c.lc)/\CE Wz bj 9 (O c.ka c.kn c.kc)/\CE Wz (W.heap.size+1+1) 2 (U zd (jo:Int))/\CE Wz bo (oo+jo*2) (O pa1 pn1 pc1)/\CE Wz bo (oo+jo*2+1) (O pa2 pn2 pc2)
abbrev KD (W:World) (bj:Nat) (c:WC) (bo oo jv:Nat) (p1:Option Addr) (q1 r1:Nat) (p2:Option Addr) (q2 r2:Nat) (W4:World) (a1:Option Addr) (a2 a3:Nat) (a4:Option Addr) (a5 a6:Nat) (Wz:World):Prop:=Wz.cell? ⟨W.heap.size,0,none⟩=some (zj (some ⟨bj,0,none⟩))/\CE Wz bj 0 (U zd (c.n:Int))/\CE Wz bj 1 (O c.ga c.gn c.gc)/\CE Wz bj 2 (O c.sa c.sn c.sc)/\CE Wz bj 3 (O (some ⟨bo,oo,none⟩) c.yn c.yc)/\CE Wz bj 4 (O c.oa c.on c.oc)/\CE Wz bj 5 (O c.va c.vn c.vc)/\CE Wz bj 6 (O c.fa c.fn c.fc)/\CE Wz bj 7 (O c.ba c.bn c.bc)/\CE Wz bj 8 (O c.la c.ln c.lc)/\CE Wz bj 9 (O c.ka c.kn c.kc)/\CE Wz (W.heap.size+1+1) 1 (U zd (jv:Int))/\CE Wz (W.heap.size+1+1+1) 0 (O p1 q1 r1)/\CE Wz (W.heap.size+1+1+1) 1 (O p2 q2 r2)/\CE Wz W4.heap.size 0 (O a1 a2 a3)/\CE Wz W4.heap.size 1 (O a4 a5 a6)
abbrev Kz (W:World) (bj:Nat) (c:WC) (bo oo jv:Nat) (p1:Option Addr) (q1 r1:Nat) (p2:Option Addr) (q2 r2:Nat) (a1:Option Addr) (a2 a3:Nat) (a4:Option Addr) (a5 a6:Nat) (Wz:World):Prop:=Wz.cell? ⟨W.heap.size,0,none⟩=some (zj (some ⟨bj,0,none⟩))/\CE Wz bj 0 (U zd (c.n:Int))/\CE Wz bj 1 (O c.ga c.gn c.gc)/\CE Wz bj 2 (O c.sa c.sn c.sc)/\CE Wz bj 3 (O (some ⟨bo,oo,none⟩) c.yn c.yc)/\CE Wz bj 4 (O c.oa c.on c.oc)/\CE Wz bj 5 (O c.va c.vn c.vc)/\CE Wz bj 6 (O c.fa c.fn c.fc)/\CE Wz bj 7 (O c.ba c.bn c.bc)/\CE Wz bj 8 (O c.la c.ln c.lc)/\CE Wz bj 9 (O c.ka c.kn c.kc)/\CE Wz (W.heap.size+1+1) 1 (U zd (jv:Int))/\CE Wz (W.heap.size+1+1+1) 0 (O p1 q1 r1)/\CE Wz (W.heap.size+1+1+1) 1 (O p2 q2 r2)/\CE Wz (W.heap.size+1+1+1+1) 0 (O a1 a2 a3)/\CE Wz (W.heap.size+1+1+1+1) 1 (O a4 a5 a6)
theorem Nx (c) (w0:World) (bj:Nat) (av:Value) (gs Ls Fs) (J:JSt c w0 gs Ls Fs) (sp) (A:JAc c w0 av (AB gs) sp) (K ni no:Nat) (fs vs) (hvs:Bo w0 (O c.va c.vn c.vc) vs) (hvn:vs.length=Ls.length) (hvc:∀ v∈vs,Bq c.n gs v.2=0) (ls) (hls:A9 w0 (O c.ya c.yn c.yc) ls) (hlc:∀ b∈ls,Bq c.n gs b=0) (hni:ls.length=ni) (hni5:ni<=5) (os) (hos:A9 w0 (O c.oa c.on c.oc) os) (hoc:∀ b∈os,Bq c.n gs b=0) (hno:os.length=no) (hno5:no<=5)
  (fl:List (Int × Int)) (hfl:fl.length<=900) (fv:Value) (W:World) (a:Int) (k:Nat) (cs:List Value) (d:D) (v:Value) (p:Lev) (funcs:Int) (h:AU c.cs w0 bj av fl fv W) (hrs:RS w0 K (k+1) cs d) (hok:CA K Ls.length ni no funcs fs d) (hl:AW c.n (XJ bj) W v p) (hk:Ak d=3) :
  Calls Tryz.prog 88 #[zj (some ⟨bj,0,none⟩),U zd a,.agg cs.toArray,v] W fun e W'=>e=zk (zm #[])/\(∃ fv',AU c.cs w0 bj av (addF a 3 fl (!Ay (Bp (Az (AB gs) c.n (ls.getD (Ag d).toNat ⟨[],[]⟩)) p c.n) (Ls.getD (AJ d).toNat AE) c.n || !Ay p (Az (AB gs) c.n (ls.getD (Ag d).toNat ⟨[],[]⟩)) c.n)) fv' W')/\FrW (XJ bj) W W':=by
 have hv2:=hok.2.1 (by omega)
 have ho2:0<=Ag d/\Ag d < ni:=hok.2.2.2.1 hk
 obtain ⟨jv,hjv⟩:∃ j:Nat,AJ d=(j:Int):=⟨(AJ d).toNat,by omega⟩
 have hjl:jv < Ls.length:=by omega
 obtain ⟨p1,q1,r1,p2,q2,r2,rfl⟩:=hl.form
 obtain ⟨ek,en,xa,xl,xc,aa,ac,ta,tc,ea,ec,rfl,i0,i1,i2,hX,hA,hT,hE,-,-,-⟩:=hrs.form
 have hkd:sC (Ak d) (AJ d) (Ag d) ek en xa xl xc aa (An d).length ac ta (Ar d).length tc ea (Av d).length ec=sC 3 (AJ d) (Ag d) ek en xa xl xc aa (An d).length ac ta (Ar d).length tc ea (Av d).length ec:=by rw [hk]
 rw [hkd]
 clear hkd
 obtain ⟨hym,ya',yc',hye,hyc⟩:=hls
 injection hye with y1 y2 y3
 obtain ⟨jo,hjo⟩:∃ j:Nat,Ag d=(j:Int):=⟨(Ag d).toNat,by omega⟩
 have hjL:jo < ls.length:=by omega
 obtain ⟨bo,oo,hyo,hyel⟩:=hyc (by intro h;rw [h] at hjL;simp at hjL)
 obtain ⟨pr,pw,l0,l1,hpr,hpw⟩:=hyel jo hjL
 obtain ⟨pa1,pn1,pc1,rfl⟩:=AM hpr
 obtain ⟨pa2,pn2,pc2,rfl⟩:=AM hpw
 have hya:c.ya=some ⟨bo,oo,none⟩:=y1.trans hyo
 have hyn:c.yn=ls.length:=y2
 have hgd:ls.getD (Ag d).toNat ⟨[],[]⟩=ls[jo]:=by rw [hjo];simp [List.getD_eq_getElem?_getD,hjL]
 have hgv:Ls.getD (AJ d).toNat AE=Ls[jv]:=by rw [hjv];simp [List.getD_eq_getElem?_getD,hjl]
 rw [hgd,hgv]
 have hlk:=hlc ls[jo] (List.getElem_mem hjL)
 generalize ls[jo]=lb at hlk hpr hpw ⊢
 obtain ⟨r,hr⟩:=nm (Ay (Bp (Az (AB gs) c.n lb) p c.n) Ls[jv] c.n)
 obtain ⟨r',hr'⟩:=nm (Ay p (Az (AB gs) c.n lb) c.n)
 rw [<-hr,<-hr']
 obtain ⟨vr,hvr⟩:=nm (AJ d)
 obtain ⟨ot,hot⟩:=nm (Ag d)
 obtain ⟨al,hal⟩:=nm ((An d).length)
 obtain ⟨tl,htl⟩:=nm ((Ar d).length)
 obtain ⟨el,hel⟩:=nm ((Av d).length)
 rw [<-hvr,<-hot,<-hal,<-htl,<-hel]
 obtain ⟨hbox,hb⟩:=CZ bj a [U zd 3,U zd vr,U zd ot,U zd ek,U zd en,O xa xl xc,O aa al ac,O ta tl tc,O ea el ec] [O p1 q1 r1,O p2 q2 r2] W (fun k hk=>(h.xlt k hk).2)
 have hF1:=FrW.of_below (Ai bj) hb
 have hFD:=hF1.trans (FrW.of_below (Ai bj) (bD _))
 have HF1:=Aa hF1
 have HJ1:=Aa (h.over hb)
 have HBX1:=Aa hbox
 have HL1:=Aa (hl.keep J.n1 hF1)
 have HJD:=Aa (HJ1.o.over (bD _))
 have HBXD:=Aa (hbox.keep (FrW.of_below (Ai bj) (bD _)))
 have HLD:=Aa (hl.keep J.n1 hFD)
 have HFD:=Aa hFD
 obtain rfl:vr=(jv:Int):=by rw [hvr,hjv]
 obtain rfl:ot=(jo:Int):=by rw [hot,hjo]
 have HYA:=Aa hya
 have HN1:=Aa J.n1
 have hcv:c.v=(zh #[U zd (c.n:Int),O c.ga c.gn c.gc,O c.sa c.sn c.sc,O (some ⟨bo,oo,none⟩) c.yn c.yc,O c.oa c.on c.oc,O c.va c.vn c.vc,O c.fa c.fn c.fc,O c.ba c.bn c.bc,O c.la c.ln c.lc,O c.ka c.kn c.kc]):=by show Value.agg #[U zd (c.n:Int),O c.ga c.gn c.gc,O c.sa c.sn c.sc,O c.ya c.yn c.yc,O c.oa c.on c.oc,O c.va c.vn c.vc,O c.fa c.fn c.fc,O c.ba c.bn c.bc,O c.la c.ln c.lc,O c.ka c.kn c.kc]=_;rw [hya]
 have KL:Hx (∀ (W2:World),AU c.cs w0 bj av fl fv W2->Calls Tryz.prog 114 #[(zh #[U zd (c.n:Int),O c.ga c.gn c.gc,O c.sa c.sn c.sc,O (some ⟨bo,oo,none⟩) c.yn c.yc,O c.oa c.on c.oc,O c.va c.vn c.vc,O c.fa c.fn c.fc,O c.ba c.bn c.bc,O c.la c.ln c.lc,O c.ka c.kn c.kc]),zh #[O pa1 pn1 pc1,O pa2 pn2 pc2]] W2 fun e w'=>∃ vj,e=zk vj/\Bh W2 w' vj (Az (AB gs) c.n lb)/\Ov W2 w'):=fun W2 h2=>by
  have:=LC c gs (O pa1 pn1 pc1) (O pa2 pn2 pc2) lb W2 (Af J.gr h2.below) (Ah hpr h2.below) (Ah hpw h2.below) hlk
  rw [hcv] at this
  exact this
 have KJ:Hx (∀ (W2:World) {x:Value},AU c.cs w0 bj av fl fv W2->AW c.n (XJ bj) W2 x (Az (AB gs) c.n lb)->AW c.n (XJ bj) W2 (zh #[O p1 q1 r1,O p2 q2 r2]) p->Calls Tryz.prog 58 #[(zh #[U zd (c.n:Int),O c.ga c.gn c.gc,O c.sa c.sn c.sc,O (some ⟨bo,oo,none⟩) c.yn c.yc,O c.oa c.on c.oc,O c.va c.vn c.vc,O c.fa c.fn c.fc,O c.ba c.bn c.bc,O c.la c.ln c.lc,O c.ka c.kn c.kc]),x,(zh #[O p1 q1 r1,O p2 q2 r2])] W2 fun e w'=>∃ vj,e=zk vj/\Bh W2 w' vj (Bp (Az (AB gs) c.n lb) p c.n)/\Ov W2 w'):=fun W2 x h2 hx hy=>by
  have:=O1 c gs x _ _ _ W2 (Af J.gr h2.below) J.chk hx.at_ hx.len hy.at_ hy.len
  rw [hcv] at this
  exact this
 have KR:Hx (∀ (W2:World),AU c.cs w0 bj av fl fv W2->∀ (x:Value),A7 W2 x (Bp (Az (AB gs) c.n lb) p c.n)->Calls Tryz.prog 150 #[zj (some ⟨bj,0,none⟩),x,U zd (jv:Int)] W2 fun e W'=>e=zk (zg r)/\Ov W2 W'):=fun W2 h2 x hx=>by
  rw [hr]
  exact Ep c w0 bj av fl fv gs Ls Fs J x _ jv W2 h2 hx ⟨A2 _ _,A2 _ _⟩ hjl
 have KF:Hx (∀ (W2:World) {y:Value},AU c.cs w0 bj av fl fv W2->AW c.n (XJ bj) W2 (zh #[O p1 q1 r1,O p2 q2 r2]) p->AW c.n (XJ bj) W2 y (Az (AB gs) c.n lb)->Calls Tryz.prog 57 #[(zh #[U zd (c.n:Int),O c.ga c.gn c.gc,O c.sa c.sn c.sc,O (some ⟨bo,oo,none⟩) c.yn c.yc,O c.oa c.on c.oc,O c.va c.vn c.vc,O c.fa c.fn c.fc,O c.ba c.bn c.bc,O c.la c.ln c.lc,O c.ka c.kn c.kc]),(zh #[O p1 q1 r1,O p2 q2 r2]),y] W2 fun e W'=>e=zk (zg r')/\Ov W2 W'):=fun W2 y h2 hx hy=>by
  have:=FR c gs _ y _ _ W2 (Af J.gr h2.below) J.chk hx.at_ hx.len hy.at_ hy.len
  rw [hcv,<-hr'] at this
  exact this
 have KB:=Aa (fun (W2:World) (h2:AU c.cs w0 bj av fl fv W2) (hb2:DT bj W.heap.size a [U zd 3,U zd (jv:Int),U zd (jo:Int),U zd ek,U zd en,O xa xl xc,O aa al ac,O ta tl tc,O ea el ec] [O p1 q1 r1,O p2 q2 r2] W2) (is:Bool)=>E2 c.cs w0 bj av fl fv a 3 is W.heap.size (W.heap.size+1) W2 h2 hb2.j hb2.a (hb2.x _ (Nat.le_refl _) (by omega)) (hb2.x _ (by omega) (by omega)) (by omega))
 have HS:Hx (∀ (W2:World) (fl2:List (Int × Int)) (fv2:Value),AU c.cs w0 bj av fl2 fv2 W2->DT bj W.heap.size a [U zd 3,U zd (jv:Int),U zd (jo:Int),U zd ek,U zd en,O xa xl xc,O aa al ac,O ta tl tc,O ea el ec] [O p1 q1 r1,O p2 q2 r2] W2->Jw W bj c bo oo jo pa1 pn1 pc1 pa2 pn2 pc2 W2):=fun W2 fl2 fv2 h2 hb2=>⟨hb2.j,h2.cw 0 _ rfl,h2.cw 1 _ rfl,h2.cw 2 _ rfl,by rw [<-HYA.o];exact h2.cw 3 _ rfl,h2.cw 4 _ rfl,h2.cw 5 _ rfl,h2.cw 6 _ rfl,h2.cw 7 _ rfl,h2.cw 8 _ rfl,h2.cw 9 _ rfl,hb2.st 2 _ rfl,Ab h2.below _ _ l0,Ab h2.below _ _ l1⟩
 have HSD:=Aa (HS.o _ _ _ HJD.o HBXD.o)
 obtain ⟨t0,t1,t2,t3,t4,t5,t6,t7,t8,t9,t10,t11,t12,t13⟩:=HS.o _ _ _ HJ1.o HBX1.o
 have g0:=hbox.st 0 _ rfl
 have gj1:(jo:Int) < (c.yn:Int):=by omega
 have gj2:c.yn<=5:=by omega
 clear hr hr' hgd hgv hjo hjv hv2 ho2 hlk hcv hya hyn hyc hyel hyo hym y1 y2 y3 l0 l1 hpr hpw hvr hot hal htl hel hbox hb hF1 hFD h hl hrs hX hA hT hE hok J A hvs hvc hlc hos hoc hfl hk i0 i1 i2 hjL hno hni hjl
 go_enter Tryz.func88,Tryz.ntmps88
 go_wp2_with fail
 refine gS (Jw W bj c bo oo jo pa1 pn1 pc1 pa2 pn2 pc2) (HSD.o) fun hHeld=>?_
 refine kT 0 ?_
 refine kT 1 ?_
 refine kT 2 ?_
 refine kT 3 ?_
 refine kT 4 ?_
 refine kT 5 ?_
 refine kT 6 ?_
 refine kT 7 ?_
 refine kT 8 ?_
 refine kT 9 ?_
 refine kT 10 ?_
 refine kT 11 ?_
 refine kT 12 ?_
 refine kT 13 ?_
 refine rdB 14 15 rfl (fun K hK=>?_) rfl fun K hK=>?_
 ·go_simp
  refine (KL.o _ HJD.o).mono ?_
  rintro e W4 ⟨vj,rfl,hL4,hb4⟩
  obtain ⟨a1,a2,a3,a4,a5,a6,hvj⟩:∃ a1 a2 a3 a4 a5 a6,vj=zh #[O a1 a2 a3,O a4 a5 a6]:=by
   obtain ⟨x,y,e,-⟩:=Ao hL4
   subst e
   obtain ⟨z1,z2,z3,z4,z5,z6,rfl,rfl⟩:=AN (Ao hL4)
   exact ⟨_,_,_,_,_,_,rfl⟩
  subst hvj
  have hb4':=Ac (bD _) hb4
  have hHS:∀ W2,Ov ((((W.alloc (ze #[zj (some ⟨bj,0,none⟩)] 161)).alloc (ze #[U zd a] 3)).alloc (ze #[U zd 3,U zd (jv:Int),U zd (jo:Int),U zd ek,U zd en,O xa xl xc,O aa al ac,O ta tl tc,O ea el ec] 130)).alloc (ze #[O p1 q1 r1,O p2 q2 r2] 50)) W2->Jw W bj c bo oo jo pa1 pn1 pc1 pa2 pn2 pc2 W2:=fun W2 hb2=>HS.o W2 _ _ (HJ1.o.over hb2) (HBX1.o.keep (FrW.of_below (Ai bj) hb2))
  have HHS:=Aa hHS
  have HB4:=Aa hb4'
  have HL4:=Aa hL4
  clear hb4 hb4' hL4 hHS
  go_simp
  refine xK hK (HHS.o _ HB4.o) fun hHeld=>?_
  clear hK K
  refine rdA 15 rfl fun K hK=>?_
  go_simp
  refine xK hK (HHS.o _ (Ac HB4.o (bA _ _))) fun hHeld=>?_
  clear hK K
  refine rdA 16 rfl fun K hK=>?_
  go_simp
  refine xK hK (HHS.o _ (Ac HB4.o (bA _ _))) fun hHeld=>?_
  clear hK K
  refine gE ?_
  have hbC:Ov ((((W.alloc (ze #[zj (some ⟨bj,0,none⟩)] 161)).alloc (ze #[U zd a] 3)).alloc (ze #[U zd 3,U zd (jv:Int),U zd (jo:Int),U zd ek,U zd en,O xa xl xc,O aa al ac,O ta tl tc,O ea el ec] 130)).alloc (ze #[O p1 q1 r1,O p2 q2 r2] 50)) (W4.alloc (ze #[O a1 a2 a3,O a4 a5 a6] 50)):=Ac HB4.o (bA _ _)
  have hRC:=Ae.new [O a1 a2 a3,O a4 a5 a6] 50 W4
  have hXC:¬ XJ bj (W4.alloc (ze #[O a1 a2 a3,O a4 a5 a6] 50)) W4.heap.size:=fun e=>by
   have h1:=(HJ1.o.xlt _ ((Ai bj).below _ _ hbC _ e)).2
   have h2:=HB4.o.size
   omega
  have hVC:AW c.n (XJ bj) (W4.alloc (ze #[O a1 a2 a3,O a4 a5 a6] 50)) (zh #[O a1 a2 a3,O a4 a5 a6]) (Az (AB gs) c.n lb):=⟨Aw (Ao HL4.o) (bA _ _),DM _ _ _,Cs (Ai bj) hbC (fun k hk=>(HJ1.o.xlt k hk).2) (BN HL4.o)⟩
  have hbCd:=Ac hbC (bD _)
  have HJC:=Aa (HJ1.o.over hbCd)
  have HBC:=Aa (HBX1.o.keep (FrW.of_below (Ai bj) hbCd))
  have HLC:=Aa (HL1.o.over (Ai bj) hbCd)
  have HVC:=Aa (hVC.over (Ai bj) (bD _))
  have HFC:=Aa (HF1.o.trans (FrW.of_below (Ai bj) hbC))
  have hRCd:=hRC.over (bD _)
  have hXCd:¬ XJ bj (W4.alloc (ze #[O a1 a2 a3,O a4 a5 a6] 50)).drew (W4.heap.size):=fun e=>hXC ((Ai bj).below _ _ (bD _) _ e)
  have HSC:Hx (∀ W2,FrW (XJ bj) (W4.alloc (ze #[O a1 a2 a3,O a4 a5 a6] 50)).drew W2->∀ (fl2:List (Int × Int)) (fv2:Value),AU c.cs w0 bj av fl2 fv2 W2->KD W bj c bo oo jv p1 q1 r1 p2 q2 r2 W4 a1 a2 a3 a4 a5 a6 W2):=fun W2 hF2 fl2 fv2 h2=>by
   have hb2:=HBC.o.keep hF2
   have hr2:=hF2.row hRCd hXCd
   exact ⟨hb2.j,h2.cw 0 _ rfl,h2.cw 1 _ rfl,h2.cw 2 _ rfl,by rw [<-HYA.o];exact h2.cw 3 _ rfl,h2.cw 4 _ rfl,h2.cw 5 _ rfl,h2.cw 6 _ rfl,h2.cw 7 _ rfl,h2.cw 8 _ rfl,h2.cw 9 _ rfl,hb2.st 1 _ rfl,hb2.lv 0 _ rfl,hb2.lv 1 _ rfl,hr2 0 _ rfl,hr2 1 _ rfl⟩
  clear hbC hbCd hVC hRC hXC hRCd hXCd
  go_wp2_with fail
  cases r with
  | true=>
   refine gS (KD W bj c bo oo jv p1 q1 r1 p2 q2 r2 W4 a1 a2 a3 a4 a5 a6) (HSC.o _ (FrW.refl _) _ _ HJC.o) fun hHeld=>?_
   refine kT 0 ?_
   refine kT 1 ?_
   refine kT 2 ?_
   refine kT 3 ?_
   refine kT 4 ?_
   refine kT 5 ?_
   refine kT 6 ?_
   refine kT 7 ?_
   refine kT 9 ?_
   refine kT 10 ?_
   refine rdA 8 rfl fun K hK=>?_
   go_simp
   refine (KJ.o _ HJC.o HVC.o HLC.o).mono ?_
   rintro e W6 ⟨vq,rfl,hL6,hb6⟩
   have HL6:=Aa hL6
   have HJ6:=Aa (HJC.o.over hb6)
   have HS6:=Aa (HSC.o W6 (FrW.of_below (Ai bj) hb6) _ _ HJ6.o)
   have HB6:=Aa (FrW.of_below (Ai bj) hb6)
   clear hL6 hb6
   go_simp
   refine xK hK (HS6.o) fun hHeld=>?_
   clear hK K
   refine rdA 11 rfl fun K hK=>?_
   go_simp
   refine (KR.o _ HJ6.o _ (Ao HL6.o)).mono ?_
   rintro e W7 ⟨rfl,hb7⟩
   have HJ7:=Aa (HJ6.o.over hb7)
   have HB7:=Aa (HB6.o.trans (FrW.of_below (Ai bj) hb7))
   have HS7:=Aa (HSC.o W7 HB7.o _ _ HJ7.o)
   clear hb7
   go_simp
   refine xK hK (HS7.o) fun hHeld=>?_
   clear hK K
   refine kT 12 ?_
   refine kT 13 ?_
   refine kT 14 ?_
   refine kT 15 ?_
   refine kT 16 ?_
   refine kT 17 ?_
   refine kT 18 ?_
   refine kT 19 ?_
   refine rdA 20 rfl fun K hK=>?_
   go_simp
   refine (KF.o _ HJ7.o (HLC.o.keep HN1.o HB7.o) (HVC.o.keep HN1.o HB7.o)).mono ?_
   rintro e W8 ⟨rfl,hb8⟩
   have HJ8:=Aa (HJ7.o.over hb8)
   have HB8:=Aa (HB7.o.trans (FrW.of_below (Ai bj) hb8))
   have HS8:=Aa (HSC.o W8 HB8.o _ _ HJ8.o)
   clear hb8
   go_simp
   refine xK hK (HS8.o) fun hHeld=>?_
   clear hK K
   refine kT 21 ?_
   refine kT 22 ?_
   refine rdA 23 rfl fun K hK=>?_
   go_simp
   refine (KB.o _ HJ8.o (HBC.o.keep HB8.o) _).mono ?_
   rintro e W9 ⟨rfl,⟨fv9,hJ9⟩,hF9⟩
   have HJ9:=Aa hJ9
   have HB9:=Aa (HB8.o.trans hF9)
   have HS9:=Aa (HSC.o W9 HB9.o _ _ hJ9)
   clear hJ9 hF9
   go_simp
   refine xK hK (HS9.o) fun hHeld=>?_
   clear hK K
   refine gE ?_
   go_end0
   exact ⟨rfl,⟨fv9,HJ9.o⟩,HFC.o.trans ((FrW.of_below (Ai bj) (bD _)).trans HB9.o)⟩
  | false=>
   refine gS (KD W bj c bo oo jv p1 q1 r1 p2 q2 r2 W4 a1 a2 a3 a4 a5 a6) (HSC.o _ (FrW.refl _) _ _ HJC.o) fun hHeld=>?_
   refine kT 0 ?_
   refine kT 1 ?_
   refine kT 2 ?_
   refine kT 3 ?_
   refine kT 4 ?_
   refine kT 5 ?_
   refine kT 6 ?_
   refine kT 7 ?_
   refine kT 9 ?_
   refine kT 10 ?_
   refine rdA 8 rfl fun K hK=>?_
   go_simp
   refine (KJ.o _ HJC.o HVC.o HLC.o).mono ?_
   rintro e W6 ⟨vq,rfl,hL6,hb6⟩
   have HL6:=Aa hL6
   have HJ6:=Aa (HJC.o.over hb6)
   have HS6:=Aa (HSC.o W6 (FrW.of_below (Ai bj) hb6) _ _ HJ6.o)
   have HB6:=Aa (FrW.of_below (Ai bj) hb6)
   clear hL6 hb6
   go_simp
   refine xK hK (HS6.o) fun hHeld=>?_
   clear hK K
   refine rdA 11 rfl fun K hK=>?_
   go_simp
   refine (KR.o _ HJ6.o _ (Ao HL6.o)).mono ?_
   rintro e W7 ⟨rfl,hb7⟩
   have HJ7:=Aa (HJ6.o.over hb7)
   have HB7:=Aa (HB6.o.trans (FrW.of_below (Ai bj) hb7))
   have HS7:=Aa (HSC.o W7 HB7.o _ _ HJ7.o)
   clear hb7
   go_simp
   refine xK hK (HS7.o) fun hHeld=>?_
   clear hK K
   refine kT 12 ?_
   refine kT 13 ?_
   refine kU 14 ?_
   refine kU 15 ?_
   refine kU 16 ?_
   refine kU 17 ?_
   refine kU 18 ?_
   refine kU 19 ?_
   refine kU 20 ?_
   refine kU 21 ?_
   refine kT 22 ?_
   refine rdA 23 rfl fun K hK=>?_
   go_simp
   refine (KB.o _ HJ7.o (HBC.o.keep HB7.o) _).mono ?_
   rintro e W9 ⟨rfl,⟨fv9,hJ9⟩,hF9⟩
   have HJ9:=Aa hJ9
   have HB9:=Aa (HB7.o.trans hF9)
   have HS9:=Aa (HSC.o W9 HB9.o _ _ hJ9)
   clear hJ9 hF9
   go_simp
   refine xK hK (HS9.o) fun hHeld=>?_
   clear hK K
   refine gE ?_
   go_end0
   exact ⟨rfl,⟨fv9,HJ9.o⟩,HFC.o.trans ((FrW.of_below (Ai bj) (bD _)).trans HB9.o)⟩
 ·have hbz:Ov ((((W.alloc (ze #[zj (some ⟨bj,0,none⟩)] 161)).alloc (ze #[U zd a] 3)).alloc (ze #[U zd 3,U zd (jv:Int),U zd (jo:Int),U zd ek,U zd en,O xa xl xc,O aa al ac,O ta tl tc,O ea el ec] 130)).alloc (ze #[O p1 q1 r1,O p2 q2 r2] 50)) (((((W.alloc (ze #[zj (some ⟨bj,0,none⟩)] 161)).alloc (ze #[U zd a] 3)).alloc (ze #[U zd 3,U zd (jv:Int),U zd (jo:Int),U zd ek,U zd en,O xa xl xc,O aa al ac,O ta tl tc,O ea el ec] 130)).alloc (ze #[O p1 q1 r1,O p2 q2 r2] 50)).alloc (ze #[O none 0 0,O none 0 0] 50)).drew:=(bA _ _).drew
  have hHS:∀ W2,Ov ((((W.alloc (ze #[zj (some ⟨bj,0,none⟩)] 161)).alloc (ze #[U zd a] 3)).alloc (ze #[U zd 3,U zd (jv:Int),U zd (jo:Int),U zd ek,U zd en,O xa xl xc,O aa al ac,O ta tl tc,O ea el ec] 130)).alloc (ze #[O p1 q1 r1,O p2 q2 r2] 50)) W2->Jw W bj c bo oo jo pa1 pn1 pc1 pa2 pn2 pc2 W2:=fun W2 hb2=>HS.o W2 _ _ (HJ1.o.over hb2) (HBX1.o.keep (FrW.of_below (Ai bj) hb2))
  have HHS:=Aa hHS
  have HBZ:=Aa hbz
  clear hHS hbz
  go_simp
  refine xK hK (HHS.o _ HBZ.o) fun hHeld=>?_
  clear hK K
  refine rdA 14 rfl fun K hK=>?_
  go_simp
  refine (KL.o _ (HJ1.o.over HBZ.o)).mono ?_
  rintro e W4 ⟨vj,rfl,hL4,hb4⟩
  obtain ⟨a1,a2,a3,a4,a5,a6,hvj⟩:∃ a1 a2 a3 a4 a5 a6,vj=zh #[O a1 a2 a3,O a4 a5 a6]:=by
   obtain ⟨x,y,e,-⟩:=Ao hL4
   subst e
   obtain ⟨z1,z2,z3,z4,z5,z6,rfl,rfl⟩:=AN (Ao hL4)
   exact ⟨_,_,_,_,_,_,rfl⟩
  subst hvj
  have HB4:=Aa (Ac HBZ.o hb4)
  have HL4:=Aa hL4
  have hzr:Ae [O none 0 0,O none 0 0] (((((W.alloc (ze #[zj (some ⟨bj,0,none⟩)] 161)).alloc (ze #[U zd a] 3)).alloc (ze #[U zd 3,U zd (jv:Int),U zd (jo:Int),U zd ek,U zd en,O xa xl xc,O aa al ac,O ta tl tc,O ea el ec] 130)).alloc (ze #[O p1 q1 r1,O p2 q2 r2] 50)).alloc (ze #[O none 0 0,O none 0 0] 50)).drew (W.heap.size+1+1+1+1):=by
   have r:=(Ae.new [O none 0 0,O none 0 0] 50 ((((W.alloc (ze #[zj (some ⟨bj,0,none⟩)] 161)).alloc (ze #[U zd a] 3)).alloc (ze #[U zd 3,U zd (jv:Int),U zd (jo:Int),U zd ek,U zd en,O xa xl xc,O aa al ac,O ta tl tc,O ea el ec] 130)).alloc (ze #[O p1 q1 r1,O p2 q2 r2] 50))).over (bD _)
   simpa using r
  have hzs:W.heap.size+1+1+1+1 < ((((((W.alloc (ze #[zj (some ⟨bj,0,none⟩)] 161)).alloc (ze #[U zd a] 3)).alloc (ze #[U zd 3,U zd (jv:Int),U zd (jo:Int),U zd ek,U zd en,O xa xl xc,O aa al ac,O ta tl tc,O ea el ec] 130)).alloc (ze #[O p1 q1 r1,O p2 q2 r2] 50)).alloc (ze #[O none 0 0,O none 0 0] 50)).drew).heap.size:=by simp
  have d0:=Ab hb4 _ _ (hzr 0 _ rfl)
  have d1:=Ab hb4 _ _ (hzr 1 _ rfl)
  have hzf:∀ q,((((((W.alloc (ze #[zj (some ⟨bj,0,none⟩)] 161)).alloc (ze #[U zd a] 3)).alloc (ze #[U zd 3,U zd (jv:Int),U zd (jo:Int),U zd ek,U zd en,O xa xl xc,O aa al ac,O ta tl tc,O ea el ec] 130)).alloc (ze #[O p1 q1 r1,O p2 q2 r2] 50)).alloc (ze #[O none 0 0,O none 0 0] 50)).drew).frozen? ⟨W.heap.size+1+1+1+1,q,none⟩=false:=fun q=>by simp [go_sem]
  have z0:=((Ap hb4).2 (W.heap.size+1+1+1+1) 0 hzs).trans (hzf 0)
  have z1:=((Ap hb4).2 (W.heap.size+1+1+1+1) 1 hzs).trans (hzf 1)
  have HR4:=Aa (hzr.over hb4)
  clear hb4 hL4 hzr hzs hzf
  go_simp
  refine xK hK (HHS.o _ HB4.o) fun hHeld=>?_
  clear hK K
  have hbC:Ov ((((W.alloc (ze #[zj (some ⟨bj,0,none⟩)] 161)).alloc (ze #[U zd a] 3)).alloc (ze #[U zd 3,U zd (jv:Int),U zd (jo:Int),U zd ek,U zd en,O xa xl xc,O aa al ac,O ta tl tc,O ea el ec] 130)).alloc (ze #[O p1 q1 r1,O p2 q2 r2] 50)) ((W4.setCell ⟨W.heap.size+1+1+1+1,0,none⟩ (O a1 a2 a3)).setCell ⟨W.heap.size+1+1+1+1,1,none⟩ (O a4 a5 a6)):=(HB4.o.setCell (by simp <;> omega) _).setCell (by simp <;> omega) _
  have HBC0:=Aa hbC
  clear hbC
  refine rdA 16 rfl fun K hK=>?_
  go_simp
  refine xK hK (HHS.o _ HBC0.o) fun hHeld=>?_
  clear hK K
  refine gE ?_
  have hbC:=HBC0.o
  have hRC:Ae [O a1 a2 a3,O a4 a5 a6] ((W4.setCell ⟨W.heap.size+1+1+1+1,0,none⟩ (O a1 a2 a3)).setCell ⟨W.heap.size+1+1+1+1,1,none⟩ (O a4 a5 a6)) (W.heap.size+1+1+1+1):=by
   have r:=CT (j:=1) (v:=O a4 a5 a6) (CT (j:=0) (v:=O a1 a2 a3) HR4.o (by simp)) (by simp)
   simpa using r
  have hXC:¬ XJ bj ((W4.setCell ⟨W.heap.size+1+1+1+1,0,none⟩ (O a1 a2 a3)).setCell ⟨W.heap.size+1+1+1+1,1,none⟩ (O a4 a5 a6)) (W.heap.size+1+1+1+1):=fun e=>by
   have h1:=(HJ1.o.xlt _ ((Ai bj).below _ _ hbC _ e)).2
   simp at h1
  have hVC:AW c.n (XJ bj) ((W4.setCell ⟨W.heap.size+1+1+1+1,0,none⟩ (O a1 a2 a3)).setCell ⟨W.heap.size+1+1+1+1,1,none⟩ (O a4 a5 a6)) (zh #[O a1 a2 a3,O a4 a5 a6]) (Az (AB gs) c.n lb):=J9 HL4.o (DM _ _ _) hbC (fun k hk=>(HJ1.o.xlt k hk).2) (by simp) (by simp)
  have hbCd:=Ac hbC (bD _)
  have HJC:=Aa (HJ1.o.over hbCd)
  have HBC:=Aa (HBX1.o.keep (FrW.of_below (Ai bj) hbCd))
  have HLC:=Aa (HL1.o.over (Ai bj) hbCd)
  have HVC:=Aa (hVC.over (Ai bj) (bD _))
  have HFC:=Aa (HF1.o.trans (FrW.of_below (Ai bj) hbC))
  have hRCd:=hRC.over (bD _)
  have hXCd:¬ XJ bj ((W4.setCell ⟨W.heap.size+1+1+1+1,0,none⟩ (O a1 a2 a3)).setCell ⟨W.heap.size+1+1+1+1,1,none⟩ (O a4 a5 a6)).drew (W.heap.size+1+1+1+1):=fun e=>hXC ((Ai bj).below _ _ (bD _) _ e)
  have HSC:Hx (∀ W2,FrW (XJ bj) ((W4.setCell ⟨W.heap.size+1+1+1+1,0,none⟩ (O a1 a2 a3)).setCell ⟨W.heap.size+1+1+1+1,1,none⟩ (O a4 a5 a6)).drew W2->∀ (fl2:List (Int × Int)) (fv2:Value),AU c.cs w0 bj av fl2 fv2 W2->Kz W bj c bo oo jv p1 q1 r1 p2 q2 r2 a1 a2 a3 a4 a5 a6 W2):=fun W2 hF2 fl2 fv2 h2=>by
   have hb2:=HBC.o.keep hF2
   have hr2:=hF2.row hRCd hXCd
   exact ⟨hb2.j,h2.cw 0 _ rfl,h2.cw 1 _ rfl,h2.cw 2 _ rfl,by rw [<-HYA.o];exact h2.cw 3 _ rfl,h2.cw 4 _ rfl,h2.cw 5 _ rfl,h2.cw 6 _ rfl,h2.cw 7 _ rfl,h2.cw 8 _ rfl,h2.cw 9 _ rfl,hb2.st 1 _ rfl,hb2.lv 0 _ rfl,hb2.lv 1 _ rfl,hr2 0 _ rfl,hr2 1 _ rfl⟩
  clear hbC hbCd hVC hRC hXC hRCd hXCd
  go_wp2_with fail
  cases r with
  | true=>
   refine gS (Kz W bj c bo oo jv p1 q1 r1 p2 q2 r2 a1 a2 a3 a4 a5 a6) (HSC.o _ (FrW.refl _) _ _ HJC.o) fun hHeld=>?_
   refine kT 0 ?_
   refine kT 1 ?_
   refine kT 2 ?_
   refine kT 3 ?_
   refine kT 4 ?_
   refine kT 5 ?_
   refine kT 6 ?_
   refine kT 7 ?_
   refine kT 9 ?_
   refine kT 10 ?_
   refine rdA 8 rfl fun K hK=>?_
   go_simp
   refine (KJ.o _ HJC.o HVC.o HLC.o).mono ?_
   rintro e W6 ⟨vq,rfl,hL6,hb6⟩
   have HL6:=Aa hL6
   have HJ6:=Aa (HJC.o.over hb6)
   have HS6:=Aa (HSC.o W6 (FrW.of_below (Ai bj) hb6) _ _ HJ6.o)
   have HB6:=Aa (FrW.of_below (Ai bj) hb6)
   clear hL6 hb6
   go_simp
   refine xK hK (HS6.o) fun hHeld=>?_
   clear hK K
   refine rdA 11 rfl fun K hK=>?_
   go_simp
   refine (KR.o _ HJ6.o _ (Ao HL6.o)).mono ?_
   rintro e W7 ⟨rfl,hb7⟩
   have HJ7:=Aa (HJ6.o.over hb7)
   have HB7:=Aa (HB6.o.trans (FrW.of_below (Ai bj) hb7))
   have HS7:=Aa (HSC.o W7 HB7.o _ _ HJ7.o)
   clear hb7
   go_simp
   refine xK hK (HS7.o) fun hHeld=>?_
   clear hK K
   refine kT 12 ?_
   refine kT 13 ?_
   refine kT 14 ?_
   refine kT 15 ?_
   refine kT 16 ?_
   refine kT 17 ?_
   refine kT 18 ?_
   refine kT 19 ?_
   refine rdA 20 rfl fun K hK=>?_
   go_simp
   refine (KF.o _ HJ7.o (HLC.o.keep HN1.o HB7.o) (HVC.o.keep HN1.o HB7.o)).mono ?_
   rintro e W8 ⟨rfl,hb8⟩
   have HJ8:=Aa (HJ7.o.over hb8)
   have HB8:=Aa (HB7.o.trans (FrW.of_below (Ai bj) hb8))
   have HS8:=Aa (HSC.o W8 HB8.o _ _ HJ8.o)
   clear hb8
   go_simp
   refine xK hK (HS8.o) fun hHeld=>?_
   clear hK K
   refine kT 21 ?_
   refine kT 22 ?_
   refine rdA 23 rfl fun K hK=>?_
   go_simp
   refine (KB.o _ HJ8.o (HBC.o.keep HB8.o) _).mono ?_
   rintro e W9 ⟨rfl,⟨fv9,hJ9⟩,hF9⟩
   have HJ9:=Aa hJ9
   have HB9:=Aa (HB8.o.trans hF9)
   have HS9:=Aa (HSC.o W9 HB9.o _ _ hJ9)
   clear hJ9 hF9
   go_simp
   refine xK hK (HS9.o) fun hHeld=>?_
   clear hK K
   refine gE ?_
   go_end0
   exact ⟨rfl,⟨fv9,HJ9.o⟩,HFC.o.trans ((FrW.of_below (Ai bj) (bD _)).trans HB9.o)⟩
  | false=>
   refine gS (Kz W bj c bo oo jv p1 q1 r1 p2 q2 r2 a1 a2 a3 a4 a5 a6) (HSC.o _ (FrW.refl _) _ _ HJC.o) fun hHeld=>?_
   refine kT 0 ?_
   refine kT 1 ?_
   refine kT 2 ?_
   refine kT 3 ?_
   refine kT 4 ?_
   refine kT 5 ?_
   refine kT 6 ?_
   refine kT 7 ?_
   refine kT 9 ?_
   refine kT 10 ?_
   refine rdA 8 rfl fun K hK=>?_
   go_simp
   refine (KJ.o _ HJC.o HVC.o HLC.o).mono ?_
   rintro e W6 ⟨vq,rfl,hL6,hb6⟩
   have HL6:=Aa hL6
   have HJ6:=Aa (HJC.o.over hb6)
   have HS6:=Aa (HSC.o W6 (FrW.of_below (Ai bj) hb6) _ _ HJ6.o)
   have HB6:=Aa (FrW.of_below (Ai bj) hb6)
   clear hL6 hb6
   go_simp
   refine xK hK (HS6.o) fun hHeld=>?_
   clear hK K
   refine rdA 11 rfl fun K hK=>?_
   go_simp
   refine (KR.o _ HJ6.o _ (Ao HL6.o)).mono ?_
   rintro e W7 ⟨rfl,hb7⟩
   have HJ7:=Aa (HJ6.o.over hb7)
   have HB7:=Aa (HB6.o.trans (FrW.of_below (Ai bj) hb7))
   have HS7:=Aa (HSC.o W7 HB7.o _ _ HJ7.o)
   clear hb7
   go_simp
   refine xK hK (HS7.o) fun hHeld=>?_
   clear hK K
   refine kT 12 ?_
   refine kT 13 ?_
   refine kU 14 ?_
   refine kU 15 ?_
   refine kU 16 ?_
   refine kU 17 ?_
   refine kU 18 ?_
   refine kU 19 ?_
   refine kU 20 ?_
   refine kU 21 ?_
   refine kT 22 ?_
   refine rdA 23 rfl fun K hK=>?_
   go_simp
   refine (KB.o _ HJ7.o (HBC.o.keep HB7.o) _).mono ?_
   rintro e W9 ⟨rfl,⟨fv9,hJ9⟩,hF9⟩
   have HJ9:=Aa hJ9
   have HB9:=Aa (HB7.o.trans hF9)
   have HS9:=Aa (HSC.o W9 HB9.o _ _ hJ9)
   clear hJ9 hF9
   go_simp
   refine xK hK (HS9.o) fun hHeld=>?_
   clear hK K
   refine gE ?_
   go_end0
   exact ⟨rfl,⟨fv9,HJ9.o⟩,HFC.o.trans ((FrW.of_below (Ai bj) (bD _)).trans HB9.o)⟩
theorem Mc (n who b1 b2:Nat) (v1 v2:Value) (l1 l2:List Bool) (W:World) (h6:n<=6) (hw:who < n) (z1:W.cell? ⟨b1,0,none⟩=some v1) (z2:W.cell? ⟨b2,0,none⟩=some v2) (h1:AP W v1 l1) (n1:l1.length=n) (h2:AP W v2 l2) (n2:l2.length=n) :
  Calls Tryz.prog 207 #[U zd (who:Int),zj (some ⟨b1,0,none⟩),zj (some ⟨b2,0,none⟩)] W fun e W'=>e=zk (zg (l1[who]?.getD false && !(l2[who]?.getD false)))/\Ov W W':=by
 obtain ⟨u1,k1,rfl,e1⟩:=h1
 obtain ⟨c1,o1,rfl,w1⟩:=e1 (by rintro rfl;simp at n1;omega)
 obtain ⟨u2,k2,rfl,e2⟩:=h2
 obtain ⟨c2,o2,rfl,w2⟩:=e2 (by rintro rfl;simp at n2;omega)
 have x1:=w1 who (by omega)
 have x2:=w2 who (by omega)
 rw [n1] at z1
 rw [n2] at z2
 rw [List.getElem?_eq_getElem (by omega:who < l1.length),List.getElem?_eq_getElem (by omega:who < l2.length)]
 simp only [Option.getD_some]
 generalize l1[who]'(by omega)=x at x1 ⊢
 generalize l2[who]'(by omega)=y at x2 ⊢
 have g1:(who:Int) < (n:Int):=by omega
 clear e1 e2 w1 w2 n1 n2
 cases x with
 | true=>
  have hS0:CE W b1 0 (O (some ⟨c1,o1,none⟩) n k1)/\CE W b2 0 (O (some ⟨c2,o2,none⟩) n k2)/\CE W c1 (o1+who) (zg true)/\CE W c2 (o2+who) (zg y):=⟨z1,z2,x1,x2⟩
  clear hS0
  go_enter Tryz.func207,Tryz.ntmps207
  go_wp2_with fail
  go_ret
  exact ⟨by first | rfl | simp,Below.refl _ _⟩
 | false=>
  have hS0:CE W b1 0 (O (some ⟨c1,o1,none⟩) n k1)/\CE W b2 0 (O (some ⟨c2,o2,none⟩) n k2)/\CE W c1 (o1+who) (zg false)/\CE W c2 (o2+who) (zg y):=⟨z1,z2,x1,x2⟩
  clear hS0
  go_enter Tryz.func207,Tryz.ntmps207
  go_wp2_with fail
  go_ret
  exact ⟨by first | rfl | simp,Below.refl _ _⟩
theorem Hb (args:Array Value) (w:World):(callFunc 207 args).run Tryz.prog w=.ok (.enter 207 args) w:=by simp [go_sem]
theorem Lw (n who b1 b2:Nat) (v1 v2:Value) (l1 l2:List Bool) (W:World) (h6:n<=6) (hw:who < n) (z1:W.cell? ⟨b1,1,none⟩=some v1) (z2:W.cell? ⟨b2,1,none⟩=some v2) (h1:AP W v1 l1) (n1:l1.length=n) (h2:AP W v2 l2) (n2:l2.length=n) :
  Calls Tryz.prog 204 #[U zd (who:Int),zj (some ⟨b1,0,none⟩),zj (some ⟨b2,0,none⟩)] W fun e W'=>e=zk (zg (l1[who]?.getD false && !(l2[who]?.getD false)))/\Ov W W':=by
 obtain ⟨u1,k1,rfl,e1⟩:=h1
 obtain ⟨c1,o1,rfl,w1⟩:=e1 (by rintro rfl;simp at n1;omega)
 obtain ⟨u2,k2,rfl,e2⟩:=h2
 obtain ⟨c2,o2,rfl,w2⟩:=e2 (by rintro rfl;simp at n2;omega)
 have x1:=w1 who (by omega)
 have x2:=w2 who (by omega)
 rw [n1] at z1
 rw [n2] at z2
 rw [List.getElem?_eq_getElem (by omega:who < l1.length),List.getElem?_eq_getElem (by omega:who < l2.length)]
 simp only [Option.getD_some]
 generalize l1[who]'(by omega)=x at x1 ⊢
 generalize l2[who]'(by omega)=y at x2 ⊢
 have g1:(who:Int) < (n:Int):=by omega
 clear e1 e2 w1 w2 n1 n2
 cases x with
 | true=>
  have hS0:CE W b1 1 (O (some ⟨c1,o1,none⟩) n k1)/\CE W b2 1 (O (some ⟨c2,o2,none⟩) n k2)/\CE W c1 (o1+who) (zg true)/\CE W c2 (o2+who) (zg y):=⟨z1,z2,x1,x2⟩
  clear hS0
  go_enter Tryz.func204,Tryz.ntmps204
  go_wp2_with fail
  go_ret
  exact ⟨by first | rfl | simp,Below.refl _ _⟩
 | false=>
  have hS0:CE W b1 1 (O (some ⟨c1,o1,none⟩) n k1)/\CE W b2 1 (O (some ⟨c2,o2,none⟩) n k2)/\CE W c1 (o1+who) (zg false)/\CE W c2 (o2+who) (zg y):=⟨z1,z2,x1,x2⟩
  clear hS0
  go_enter Tryz.func204,Tryz.ntmps204
  go_wp2_with fail
  go_ret
  exact ⟨by first | rfl | simp,Below.refl _ _⟩
theorem Gg (args:Array Value) (w:World):(callFunc 204 args).run Tryz.prog w=.ok (.enter 204 args) w:=by simp [go_sem]
theorem Lv (n who b1 b2 b3 bj:Nat) (v1 v2:Value) (l1 l2:List Bool) (r:Bool) (W:World) (h6:n<=6) (hw:who < n) (z1:W.cell? ⟨b1,1,none⟩=some v1) (z2:W.cell? ⟨b2,1,none⟩=some v2) (z3:W.cell? ⟨b3,0,none⟩=some (zj (some ⟨bj,0,none⟩))) (h1:AP W v1 l1) (n1:l1.length=n) (h2:AP W v2 l2) (n2:l2.length=n)
  (KA:Hx (∀ W2,Ov W W2->Calls Tryz.prog 206 #[zj (some ⟨bj,0,none⟩),U zd (who:Int)] W2 fun e W'=>e=zk (zg r)/\Ov W2 W')) :
  Calls Tryz.prog 205 #[U zd (who:Int),zj (some ⟨b1,0,none⟩),zj (some ⟨b2,0,none⟩),zj (some ⟨b3,0,none⟩)] W fun e W'=>e=zk (zg ((l1[who]?.getD false || l2[who]?.getD false) && !r))/\Ov W W':=by
 obtain ⟨u1,k1,rfl,e1⟩:=h1
 obtain ⟨c1,o1,rfl,w1⟩:=e1 (by rintro rfl;simp at n1;omega)
 obtain ⟨u2,k2,rfl,e2⟩:=h2
 obtain ⟨c2,o2,rfl,w2⟩:=e2 (by rintro rfl;simp at n2;omega)
 have x1:=w1 who (by omega)
 have x2:=w2 who (by omega)
 rw [n1] at z1
 rw [n2] at z2
 rw [List.getElem?_eq_getElem (by omega:who < l1.length),List.getElem?_eq_getElem (by omega:who < l2.length)]
 simp only [Option.getD_some]
 generalize l1[who]'(by omega)=x at x1 ⊢
 generalize l2[who]'(by omega)=y at x2 ⊢
 have g1:(who:Int) < (n:Int):=by omega
 clear e1 e2 w1 w2 n1 n2
 cases x with
 | true=>
  go_enter Tryz.func205,Tryz.ntmps205
  go_wp2_with fail
  refine (KA.o _ (Below.refl _ _)).mono ?_
  rintro e W2 ⟨rfl,hb2⟩
  go_wp2_with fail
  go_ret
  exact ⟨by first | rfl | simp,hb2⟩
 | false=>
  cases y with
  | true=>
   go_enter Tryz.func205,Tryz.ntmps205
   go_wp2_with fail
   refine (KA.o _ (Below.refl _ _)).mono ?_
   rintro e W2 ⟨rfl,hb2⟩
   go_wp2_with fail
   go_ret
   exact ⟨by first | rfl | simp,hb2⟩
  | false=>
   go_enter Tryz.func205,Tryz.ntmps205
   go_wp2_with fail
   go_ret
   exact ⟨by first | rfl | simp,Below.refl _ _⟩
theorem Gf (args:Array Value) (w:World):(callFunc 205 args).run Tryz.prog w=.ok (.enter 205 args) w:=by simp [go_sem]
section
variable (n K:Nat) (gn:List (Nat × Nat)) (sp:List Int) (Ls:List Lev) (vs:List (Bool × Lab)) (ins outs:List Lab) (fs:List FnD)
def DF (v:Int):Bool × Lab:=vs.getD v.toNat (false,⟨[],[]⟩)
def Fu (d:D):Lev:=AX n Ls (Bu n) (AC K (AR d))
def toL (d:D):Lev:=Ls.getD (AJ d).toNat AE
def Ed (a:Int) (d:D) (p:Lev) (fl:List (Int × Int)):List (Int × Int):=
 addF a 8 (addF a 7 (addF a 6 (addF a 5 fl (!Ay p (toL Ls d) n)) ((DF vs (AJ d)).2.w.any fun q=>Es gn n sp q.owner.toNat)) (!(DF vs (AJ d)).1))
  ((List.range n).any fun i=>(toL Ls d).r[i]?.getD false && !((Fu n K Ls d).r[i]?.getD false))
def Dm (a:Int) (d:D) (p:Lev) (fl:List (Int × Int)):List (Int × Int):=
 addF a 9 (addF a 8 (addF a 7 (addF a 6 (addF a 5 fl (!Ay p (toL Ls d) n)) ((AC K (AR d)).any fun v=>(DF vs v).2.r.any fun q=>Es gn n sp q.owner.toNat)) ((AC K (AR d)).any fun v=>!(DF vs v).1))
  ((List.range n).any fun i=>(Fu n K Ls d).w[i]?.getD false && !((toL Ls d).w[i]?.getD false)))
  ((List.range n).any fun i=>((Fu n K Ls d).w[i]?.getD false || p.w[i]?.getD false) && !Ie gn n sp i)
def Cw (a:Int) (d:D) (p:Lev) (fl:List (Int × Int)):List (Int × Int):=
 if Ak d=1 then addF a 1 fl (!Ay (AX n Ls p (AC K (AR d))) (Ls.getD (AJ d).toNat AE) n)
 else if Ak d=2 then addF a 2 fl (!Dv n K Ls (EB fs (Ag d)) d p)
 else if Ak d=3 then addF a 3 fl (!Ay (Bp (Az gn n (ins.getD (Ag d).toNat ⟨[],[]⟩)) p n) (Ls.getD (AJ d).toNat AE) n || !Ay p (Az gn n (ins.getD (Ag d).toNat ⟨[],[]⟩)) n)
 else if Ak d=4 then addF a 4 fl (!Ay (AX n Ls p (AC K (AR d))) (Az gn n (outs.getD (Ag d).toNat ⟨[],[]⟩)) n)
 else if Ak d=5 then Dm n K gn sp Ls vs a d p fl
 else if Ak d=6 then Ed n K gn sp Ls vs a d p fl
 else fl
theorem A5 (a k:Int) (fl) (b:Bool):(addF a k fl b).length<=fl.length+1:=by
 cases b <;> simp [addF]
theorem I9 (a:Int) (d p fl):(Cw n K gn sp Ls vs ins outs fs a d p fl).length<=fl.length+5:=by
 unfold Cw
 split
 ·exact Nat.le_trans (A5 _ _ _ _) (by omega)
 split
 ·exact Nat.le_trans (A5 _ _ _ _) (by omega)
 split
 ·exact Nat.le_trans (A5 _ _ _ _) (by omega)
 split
 ·exact Nat.le_trans (A5 _ _ _ _) (by omega)
 split
 ·unfold Dm
  refine Nat.le_trans (A5 _ _ _ _) (Nat.succ_le_succ ?_)
  refine Nat.le_trans (A5 _ _ _ _) (Nat.succ_le_succ ?_)
  refine Nat.le_trans (A5 _ _ _ _) (Nat.succ_le_succ ?_)
  refine Nat.le_trans (A5 _ _ _ _) (Nat.succ_le_succ ?_)
  exact A5 _ _ _ _
 split
 ·unfold Ed
  refine Nat.le_trans (A5 _ _ _ _) (Nat.succ_le_succ ?_)
  refine Nat.le_trans (A5 _ _ _ _) (Nat.succ_le_succ ?_)
  refine Nat.le_trans (A5 _ _ _ _) (Nat.succ_le_succ ?_)
  exact Nat.le_trans (A5 _ _ _ _) (by omega)
 ·omega
def pmJ (a:Int) (fl:List (Int × Int)):Prop:=(fl.length:Int)<=5*a
theorem NR:Jr pmJ (Cw n K gn sp Ls vs ins outs fs):=
 ⟨fun a d p st h=>by
  have:=I9 n K gn sp Ls vs ins outs fs a d p st
  unfold pmJ at h ⊢
  omega,fun a b st hab h=>by unfold pmJ at h ⊢;omega⟩
end
def E5 (c:WC) (w0:World) (bj:Nat) (av:Value) (K nv ni no:Nat) (fs:List FnD) (kd:Int) (stp:Int->D->Lev->List (Int × Int)->List (Int × Int)) (F:FuncId):Prop:=
 ∀ (fl:List (Int × Int)) (fv:Value) (s:Nat) (a:Int) (k:Nat) (cs lv:List Value) (d:D) (p:Lev) (funcs:Int) (W:World),fl.length<=900->AU c.cs w0 bj av fl fv W->DT bj s a cs lv W->AW c.n (XJ bj) W (.agg lv.toArray) p->RS w0 K (k+1) cs d->CA K nv ni no funcs fs d->Ak d=kd ->
  Calls Tryz.prog F #[zj (some ⟨bj,0,none⟩),.agg cs.toArray,.agg lv.toArray,.func (.func 149) #[] #[zj (some ⟨s,0,none⟩),zj (some ⟨s+1,0,none⟩)]] W fun e W'=>e=zk (zm #[])/\(∃ fv',AU c.cs w0 bj av (stp a d p fl) fv' W')/\FrW (XJ bj) W W'
theorem Nv (c) (w0:World) (bj:Nat) (av:Value) (gs Ls Fs) (J:JSt c w0 gs Ls Fs) (sp) (A:JAc c w0 av (AB gs) sp) (K ni no:Nat) (fs vs) (hvs:Bo w0 (O c.va c.vn c.vc) vs) (hvn:vs.length=Ls.length) (hvc:∀ v∈vs,Bq c.n gs v.2=0) (ls) (hls:A9 w0 (O c.ya c.yn c.yc) ls) (hlc:∀ b∈ls,Bq c.n gs b=0) (hni:ls.length=ni) (hni5:ni<=5) (os) (hos:A9 w0 (O c.oa c.on c.oc) os) (hoc:∀ b∈os,Bq c.n gs b=0) (hno:os.length=no) (hno5:no<=5)
  (fl:List (Int × Int)) (hfl:fl.length<=900) (fv:Value) (W:World) (a:Int) (k:Nat) (cs:List Value) (d:D) (v:Value) (p:Lev) (funcs:Int) (h:AU c.cs w0 bj av fl fv W) (hrs:RS w0 K (k+1) cs d) (hok:CA K Ls.length ni no funcs fs d) (hl:AW c.n (XJ bj) W v p) (stp:Int->D->Lev->List (Int × Int)->List (Int × Int)) (hT:E5 c w0 bj av K Ls.length ni no fs 5 stp 152) (hk:Ak d=5) :
  Calls Tryz.prog 88 #[zj (some ⟨bj,0,none⟩),U zd a,.agg cs.toArray,v] W fun e W'=>e=zk (zm #[])/\(∃ fv',AU c.cs w0 bj av (stp a d p fl) fv' W')/\FrW (XJ bj) W W':=by
 have hrs':=hrs
 have hTell:=hT
 clear hT
 obtain ⟨p1,q1,r1,p2,q2,r2,rfl⟩:=hl.form
 obtain ⟨ek,en,xa,xl,xc,aa,ac,ta,tc,ea,ec,rfl,i0,i1,i2,hX,hA,hT,hE,-,-,-⟩:=hrs.form
 have hkd:sC (Ak d) (AJ d) (Ag d) ek en xa xl xc aa (An d).length ac ta (Ar d).length tc ea (Av d).length ec=sC 5 (AJ d) (Ag d) ek en xa xl xc aa (An d).length ac ta (Ar d).length tc ea (Av d).length ec:=by rw [hk]
 rw [hkd]
 clear hkd
 obtain ⟨vr,hvr⟩:=nm (AJ d)
 obtain ⟨ot,hot⟩:=nm (Ag d)
 obtain ⟨al,hal⟩:=nm ((An d).length)
 obtain ⟨tl,htl⟩:=nm ((Ar d).length)
 obtain ⟨el,hel⟩:=nm ((Av d).length)
 rw [<-hvr,<-hot,<-hal,<-htl,<-hel]
 obtain ⟨hbox,hb⟩:=CZ bj a [U zd 5,U zd vr,U zd ot,U zd ek,U zd en,O xa xl xc,O aa al ac,O ta tl tc,O ea el ec] [O p1 q1 r1,O p2 q2 r2] W (fun k hk=>(h.xlt k hk).2)
 have hF1:=FrW.of_below (Ai bj) hb
 have hFD:=hF1.trans (FrW.of_below (Ai bj) (bD _))
 have HF1:=Aa hF1
 have HJ1:=Aa (h.over hb)
 have HBX1:=Aa hbox
 have HL1:=Aa (hl.keep J.n1 hF1)
 have HJD:=Aa (HJ1.o.over (bD _))
 have HBXD:=Aa (hbox.keep (FrW.of_below (Ai bj) (bD _)))
 have HLD:=Aa (hl.keep J.n1 hFD)
 have HFD:=Aa hFD
 have hkd:sC (Ak d) (AJ d) (Ag d) ek en xa xl xc aa (An d).length ac ta (Ar d).length tc ea (Av d).length ec=sC 5 vr ot ek en xa xl xc aa al ac ta tl tc ea el ec:=by rw [hk,hvr,hot,hal,htl,hel]
 rw [hkd] at hrs'
 have KC:=Aa (fun (W2:World) (h2:AU c.cs w0 bj av fl fv W2) (hb2:DT bj W.heap.size a [U zd 5,U zd vr,U zd ot,U zd ek,U zd en,O xa xl xc,O aa al ac,O ta tl tc,O ea el ec] [O p1 q1 r1,O p2 q2 r2] W2) (hl2:AW c.n (XJ bj) W2 (zh #[O p1 q1 r1,O p2 q2 r2]) p)=>hTell fl fv W.heap.size a k _ [O p1 q1 r1,O p2 q2 r2] d p funcs W2 hfl h2 hb2 hl2 hrs' hok hk)
 have HS:Hx (∀ (W2:World),DT bj W.heap.size a [U zd 5,U zd vr,U zd ot,U zd ek,U zd en,O xa xl xc,O aa al ac,O ta tl tc,O ea el ec] [O p1 q1 r1,O p2 q2 r2] W2->CE W2 W.heap.size 0 (zj (some ⟨bj,0,none⟩))/\CE W2 (W.heap.size+1+1) 0 (U zd 5)/\CE W2 (W.heap.size+1+1) 1 (U zd vr)/\CE W2 (W.heap.size+1+1) 2 (U zd ot)/\CE W2 (W.heap.size+1+1) 3 (U zd ek)/\CE W2 (W.heap.size+1+1) 4 (U zd en)/\CE W2 (W.heap.size+1+1) 5 (O xa xl xc)/\CE W2 (W.heap.size+1+1) 6 (O aa al ac)/\CE W2 (W.heap.size+1+1) 7 (O ta tl tc)/\CE W2 (W.heap.size+1+1) 8 (O ea el ec)/\CE W2 (W.heap.size+1+1+1) 0 (O p1 q1 r1)/\CE W2 (W.heap.size+1+1+1) 1 (O p2 q2 r2)):=fun W2 hb2=>⟨hb2.j,hb2.st 0 _ rfl,hb2.st 1 _ rfl,hb2.st 2 _ rfl,hb2.st 3 _ rfl,hb2.st 4 _ rfl,hb2.st 5 _ rfl,hb2.st 6 _ rfl,hb2.st 7 _ rfl,hb2.st 8 _ rfl,hb2.lv 0 _ rfl,hb2.lv 1 _ rfl⟩
 obtain ⟨t0,t1,t2,t3,t4,t5,t6,t7,t8,t9,t10,t11⟩:=HS.o _ HBX1.o
 clear hkd hrs' hvr hot hal htl hel hbox hb hF1 hFD h hl hrs hX hA hT hE hok J A hvs hvc hls hlc hos hoc hfl hk i0 i1 i2 hTell
 go_enter Tryz.func88,Tryz.ntmps88
 go_wp2_with fail
 refine (KC.o _ HJ1.o HBX1.o HL1.o).mono ?_
 rintro e W3 ⟨rfl,hJ3,hF3⟩
 have HJ3:=Aa hJ3
 have HF3:=Aa (HF1.o.trans hF3)
 clear hJ3 hF3
 go_wp2_with fail
 go_end0
 exact ⟨rfl,HJ3.o,HF3.o⟩
theorem Nu (c) (w0:World) (bj:Nat) (av:Value) (gs Ls Fs) (J:JSt c w0 gs Ls Fs) (sp) (A:JAc c w0 av (AB gs) sp) (K ni no:Nat) (fs vs) (hvs:Bo w0 (O c.va c.vn c.vc) vs) (hvn:vs.length=Ls.length) (hvc:∀ v∈vs,Bq c.n gs v.2=0) (ls) (hls:A9 w0 (O c.ya c.yn c.yc) ls) (hlc:∀ b∈ls,Bq c.n gs b=0) (hni:ls.length=ni) (hni5:ni<=5) (os) (hos:A9 w0 (O c.oa c.on c.oc) os) (hoc:∀ b∈os,Bq c.n gs b=0) (hno:os.length=no) (hno5:no<=5)
  (fl:List (Int × Int)) (hfl:fl.length<=900) (fv:Value) (W:World) (a:Int) (k:Nat) (cs:List Value) (d:D) (v:Value) (p:Lev) (funcs:Int) (h:AU c.cs w0 bj av fl fv W) (hrs:RS w0 K (k+1) cs d) (hok:CA K Ls.length ni no funcs fs d) (hl:AW c.n (XJ bj) W v p) (stp:Int->D->Lev->List (Int × Int)->List (Int × Int)) (hT:E5 c w0 bj av K Ls.length ni no fs 6 stp 153) (hk:Ak d=6) :
  Calls Tryz.prog 88 #[zj (some ⟨bj,0,none⟩),U zd a,.agg cs.toArray,v] W fun e W'=>e=zk (zm #[])/\(∃ fv',AU c.cs w0 bj av (stp a d p fl) fv' W')/\FrW (XJ bj) W W':=by
 have hrs':=hrs
 have hTell:=hT
 clear hT
 obtain ⟨p1,q1,r1,p2,q2,r2,rfl⟩:=hl.form
 obtain ⟨ek,en,xa,xl,xc,aa,ac,ta,tc,ea,ec,rfl,i0,i1,i2,hX,hA,hT,hE,-,-,-⟩:=hrs.form
 have hkd:sC (Ak d) (AJ d) (Ag d) ek en xa xl xc aa (An d).length ac ta (Ar d).length tc ea (Av d).length ec=sC 6 (AJ d) (Ag d) ek en xa xl xc aa (An d).length ac ta (Ar d).length tc ea (Av d).length ec:=by rw [hk]
 rw [hkd]
 clear hkd
 obtain ⟨vr,hvr⟩:=nm (AJ d)
 obtain ⟨ot,hot⟩:=nm (Ag d)
 obtain ⟨al,hal⟩:=nm ((An d).length)
 obtain ⟨tl,htl⟩:=nm ((Ar d).length)
 obtain ⟨el,hel⟩:=nm ((Av d).length)
 rw [<-hvr,<-hot,<-hal,<-htl,<-hel]
 obtain ⟨hbox,hb⟩:=CZ bj a [U zd 6,U zd vr,U zd ot,U zd ek,U zd en,O xa xl xc,O aa al ac,O ta tl tc,O ea el ec] [O p1 q1 r1,O p2 q2 r2] W (fun k hk=>(h.xlt k hk).2)
 have hF1:=FrW.of_below (Ai bj) hb
 have hFD:=hF1.trans (FrW.of_below (Ai bj) (bD _))
 have HF1:=Aa hF1
 have HJ1:=Aa (h.over hb)
 have HBX1:=Aa hbox
 have HL1:=Aa (hl.keep J.n1 hF1)
 have HJD:=Aa (HJ1.o.over (bD _))
 have HBXD:=Aa (hbox.keep (FrW.of_below (Ai bj) (bD _)))
 have HLD:=Aa (hl.keep J.n1 hFD)
 have HFD:=Aa hFD
 have hkd:sC (Ak d) (AJ d) (Ag d) ek en xa xl xc aa (An d).length ac ta (Ar d).length tc ea (Av d).length ec=sC 6 vr ot ek en xa xl xc aa al ac ta tl tc ea el ec:=by rw [hk,hvr,hot,hal,htl,hel]
 rw [hkd] at hrs'
 have KC:=Aa (fun (W2:World) (h2:AU c.cs w0 bj av fl fv W2) (hb2:DT bj W.heap.size a [U zd 6,U zd vr,U zd ot,U zd ek,U zd en,O xa xl xc,O aa al ac,O ta tl tc,O ea el ec] [O p1 q1 r1,O p2 q2 r2] W2) (hl2:AW c.n (XJ bj) W2 (zh #[O p1 q1 r1,O p2 q2 r2]) p)=>hTell fl fv W.heap.size a k _ [O p1 q1 r1,O p2 q2 r2] d p funcs W2 hfl h2 hb2 hl2 hrs' hok hk)
 have HS:Hx (∀ (W2:World),DT bj W.heap.size a [U zd 6,U zd vr,U zd ot,U zd ek,U zd en,O xa xl xc,O aa al ac,O ta tl tc,O ea el ec] [O p1 q1 r1,O p2 q2 r2] W2->CE W2 W.heap.size 0 (zj (some ⟨bj,0,none⟩))/\CE W2 (W.heap.size+1+1) 0 (U zd 6)/\CE W2 (W.heap.size+1+1) 1 (U zd vr)/\CE W2 (W.heap.size+1+1) 2 (U zd ot)/\CE W2 (W.heap.size+1+1) 3 (U zd ek)/\CE W2 (W.heap.size+1+1) 4 (U zd en)/\CE W2 (W.heap.size+1+1) 5 (O xa xl xc)/\CE W2 (W.heap.size+1+1) 6 (O aa al ac)/\CE W2 (W.heap.size+1+1) 7 (O ta tl tc)/\CE W2 (W.heap.size+1+1) 8 (O ea el ec)/\CE W2 (W.heap.size+1+1+1) 0 (O p1 q1 r1)/\CE W2 (W.heap.size+1+1+1) 1 (O p2 q2 r2)):=fun W2 hb2=>⟨hb2.j,hb2.st 0 _ rfl,hb2.st 1 _ rfl,hb2.st 2 _ rfl,hb2.st 3 _ rfl,hb2.st 4 _ rfl,hb2.st 5 _ rfl,hb2.st 6 _ rfl,hb2.st 7 _ rfl,hb2.st 8 _ rfl,hb2.lv 0 _ rfl,hb2.lv 1 _ rfl⟩
 obtain ⟨t0,t1,t2,t3,t4,t5,t6,t7,t8,t9,t10,t11⟩:=HS.o _ HBX1.o
 clear hkd hrs' hvr hot hal htl hel hbox hb hF1 hFD h hl hrs hX hA hT hE hok J A hvs hvc hls hlc hos hoc hfl hk i0 i1 i2 hTell
 go_enter Tryz.func88,Tryz.ntmps88
 go_wp2_with fail
 refine (KC.o _ HJ1.o HBX1.o HL1.o).mono ?_
 rintro e W3 ⟨rfl,hJ3,hF3⟩
 have HJ3:=Aa hJ3
 have HF3:=Aa (HF1.o.trans hF3)
 clear hJ3 hF3
 go_wp2_with fail
 go_end0
 exact ⟨rfl,HJ3.o,HF3.o⟩
theorem jDo (c) (w0:World) (bj:Nat) (av:Value) (gs Ls Fs) (J:JSt c w0 gs Ls Fs) (sp) (A:JAc c w0 av (AB gs) sp) (K ni no:Nat) (fs vs) (hvs:Bo w0 (O c.va c.vn c.vc) vs) (hvn:vs.length=Ls.length) (hvc:∀ v∈vs,Bq c.n gs v.2=0) (ls) (hls:A9 w0 (O c.ya c.yn c.yc) ls) (hlc:∀ b∈ls,Bq c.n gs b=0) (hni:ls.length=ni) (hni5:ni<=5) (os) (hos:A9 w0 (O c.oa c.on c.oc) os) (hoc:∀ b∈os,Bq c.n gs b=0) (hno:os.length=no) (hno5:no<=5)
  (kf:Nat) (hfs:BA w0 K kf (O c.fa c.fn c.fc) fs) (hf5:fs.length<=5) (hof:∀ i (h:i < fs.length),okF K Ls.length ni no (i:Int) fs kf fs[i])
  (hR:E5 c w0 bj av K Ls.length ni no fs 5 (Dm c.n K (AB gs) sp Ls vs) 152) (hT:E5 c w0 bj av K Ls.length ni no fs 6 (Ed c.n K (AB gs) sp Ls vs) 153) :
  MY c w0 K Ls.length ni no fs (fun fl W=>∃ fv,AU c.cs w0 bj av fl fv W) (XJ bj) (Cw c.n K (AB gs) sp Ls vs ls os fs) 88 [zj (some ⟨bj,0,none⟩)] [] pmJ:=by
 rintro fl W a k cs d v p funcs ⟨fv,h⟩ hrs hfn hok hl h0 h100 hpm
 have hfl:fl.length<=900:=by unfold pmJ at hpm;omega
 have hk:=hok.1
 show Calls Tryz.prog 88 #[zj (some ⟨bj,0,none⟩),U zd a,.agg cs.toArray,v] W _
 unfold Cw
 rcases (by omega:Ak d=1\/Ak d=2\/Ak d=3\/Ak d=4\/Ak d=5\/Ak d=6\/(Ak d=7\/Ak d=8)) with hk | hk | hk | hk | hk | hk | hk
 ·rw [if_pos hk]
  exact Nz c w0 bj av gs Ls Fs J sp A K ni no fs vs hvs hvn hvc ls hls hlc hni hni5 os hos hoc hno hno5 fl hfl fv W a k cs d v p funcs h hrs hok hl hk
 ·rw [if_neg (by omega),if_pos hk]
  exact Ny c w0 bj av gs Ls Fs J sp A K ni no fs vs hvs hvn hvc ls hls hlc hni hni5 os hos hoc hno hno5 fl hfl fv W a k cs d v p funcs h hrs hok hl kf hfs hf5 hof hfn hk
 ·rw [if_neg (by omega),if_neg (by omega),if_pos hk]
  exact Nx c w0 bj av gs Ls Fs J sp A K ni no fs vs hvs hvn hvc ls hls hlc hni hni5 os hos hoc hno hno5 fl hfl fv W a k cs d v p funcs h hrs hok hl hk
 ·rw [if_neg (by omega),if_neg (by omega),if_neg (by omega),if_pos hk]
  exact Nw c w0 bj av gs Ls Fs J sp A K ni no fs vs hvs hvn hvc ls hls hlc hni hni5 os hos hoc hno hno5 fl hfl fv W a k cs d v p funcs h hrs hok hl hk
 ·rw [if_neg (by omega),if_neg (by omega),if_neg (by omega),if_neg (by omega),if_pos hk]
  exact Nv c w0 bj av gs Ls Fs J sp A K ni no fs vs hvs hvn hvc ls hls hlc hni hni5 os hos hoc hno hno5 fl hfl fv W a k cs d v p funcs h hrs hok hl _ hR hk
 ·rw [if_neg (by omega),if_neg (by omega),if_neg (by omega),if_neg (by omega),if_neg (by omega),if_pos hk]
  exact Nu c w0 bj av gs Ls Fs J sp A K ni no fs vs hvs hvn hvc ls hls hlc hni hni5 os hos hoc hno hno5 fl hfl fv W a k cs d v p funcs h hrs hok hl _ hT hk
 ·rw [if_neg (by omega),if_neg (by omega),if_neg (by omega),if_neg (by omega),if_neg (by omega),if_neg (by omega)]
  exact NA c w0 bj av gs Ls Fs J sp A K ni no fs vs hvs hvn hvc ls hls hlc hni hni5 os hos hoc hno hno5 fl hfl fv W a k cs d v p funcs h hrs hok hl hk
theorem CU {P:Program} {id:Nat} {ops:Array Oper} {dr:Bool} {Q:Exit->Act->World->Prop} {a:Act} {w:World} (R:Act->World->Prop) (h:(Code.region id ops dr).wp P (DL R) a w) (hq:∀ a w,R a w->Q .normal a w):(Code.region id ops dr).wp P Q a w:=
 wp_mono h fun e a w h=>by cases e <;> first | exact hq _ _ h | exact h.elim
theorem Hp {P:Program} {id:Nat} {ops:Array Oper} {dr:Bool} {Q:Exit->Act->World->Prop} {a:Act} {w:World} (h:(Code.region id ops dr).wp P (DL (Q .normal)) a w):(Code.region id ops dr).wp P Q a w:=
 CU (Q .normal) h fun _ _ h=>h
theorem AD {R:Act->World->Prop} {a:Act} {w:World} (h:R a w):DL R .normal a w:=h
structure ZB (b:Nat) (W:World):Prop where
 c0:W.cell? ⟨b,0,none⟩=some (O none 0 0)
 c1:W.cell? ⟨b,1,none⟩=some (O none 0 0)
 z0:W.frozen? ⟨b,0,none⟩=false
 z1:W.frozen? ⟨b,1,none⟩=false
theorem ZB.lt {b:Nat} {W:World} (h:ZB b W):b < W.heap.size:=bL h.c0
theorem GD (t:Nat) (W:World):ZB W.heap.size (W.alloc (ze #[O none 0 0,O none 0 0] t)):=⟨by simp [go_sem],by simp [go_sem],by simp [go_sem],by simp [go_sem]⟩
theorem ZB.over {b:Nat} {W W':World} (h:ZB b W) (hb:Ov W W'):ZB b W':=⟨Ab hb _ _ h.c0,Ab hb _ _ h.c1,((Ap hb).2 _ _ h.lt).trans h.z0,((Ap hb).2 _ _ h.lt).trans h.z1⟩
def Cv (W:World) (b:Nat) (x y:Value):World:=(W.setCell ⟨b,0,none⟩ x).setCell ⟨b,1,none⟩ y
theorem ZB.fill {b:Nat} {W:World} (h:ZB b W) (x y:Value):Ae [x,y] (Cv W b x y) b:=by
 have r0:Ae [O none 0 0,O none 0 0] W b:=fun j u hu=>by
  match j with
  | 0=>simp at hu;subst hu;exact h.c0
  | 1=>simp at hu;subst hu;exact h.c1
  | j+2=>simp at hu
 have r:=CT (j:=1) (v:=y) (CT (j:=0) (v:=x) r0 (by simp)) (by simp)
 simpa [Cv] using r
theorem Cp {W:World} {b:Nat} {x y:Value} {k:Nat} (h:k≠b):(Cv W b x y).heap[k]? = W.heap[k]?:=by
 unfold Cv
 rw [Bk (Ne.symm h),Bk (Ne.symm h)]
theorem I6 {W:World} {b:Nat} {x y:Value}:(Cv W b x y).heap.size=W.heap.size:=by simp [Cv,World.setCell]
theorem ZB.other {b b':Nat} {W:World} (h:ZB b W) (hne:b≠b') (x y:Value):ZB b (Cv W b' x y):=
 ⟨(World.cell?_of_block (a:=⟨b,0,none⟩) (Cp hne)).trans h.c0,(World.cell?_of_block (a:=⟨b,1,none⟩) (Cp hne)).trans h.c1,(World.frozen?_of_block (a:=⟨b,0,none⟩) (Cp hne)).trans h.z0,(World.frozen?_of_block (a:=⟨b,1,none⟩) (Cp hne)).trans h.z1⟩
theorem Ho {cs:List Value} {b b':Nat} {W:World} (h:Ae cs W b) (hne:b≠b') (x y:Value):Ae cs (Cv W b' x y) b:=fun j u hu=>(World.cell?_of_block (a:=⟨b,j,none⟩) (Cp hne)).trans (h j u hu)
theorem Dw {B:Nat} {A W:World} (h:Below B A W) {b:Nat} (hb:B<=b) (x y:Value):Below B A (Cv W b x y):=(h.setCell hb _).setCell hb _
theorem D1 {n bj b:Nat} {W:World} {v:Value} {l:Lev} (h:AW n (XJ bj) W v l) (hz:ZB b W) (hne:bj≠b) (x y:Value):AW n (XJ bj) (Cv W b x y) v l:=by
 obtain ⟨u,w,hv,hu,hw⟩:=h.off
 have hx:∀ k,XJ bj (Cv W b x y) k->XJ bj W k:=by
  rintro k (hk | hk | ⟨q,hq,ho⟩)
  ·rw [I6] at hk;exact Or.inl hk
  ·exact Or.inr (Or.inl hk)
  ·exact Or.inr (Or.inr ⟨q,(World.cell?_of_block (a:=⟨bj,11,none⟩) (Cp hne)).symm.trans hq,ho⟩)
 have c1':(W.setCell ⟨b,0,none⟩ x).cell? ⟨b,1,none⟩=some (O none 0 0):=by rw [World.cell?_setCell_other _ _ _ _ (by simp)];exact hz.c1
 exact ⟨Dr c1' (Dr hz.c0 h.at_ _) _,h.len,u,w,hv,fun a m c e q=>hu a m c e (hx _ q),fun a m c e q=>hw a m c e (hx _ q)⟩
def TB (bj:Nat) (L:List (Nat × List Value)) (W:World):Prop:=∀ q∈L,Ae q.2 W q.1/\¬ XJ bj W q.1/\q.1 < W.heap.size
theorem TB.keep {bj:Nat} {L:List (Nat × List Value)} {W W':World} (h:TB bj L W) (hf:FrW (XJ bj) W W'):TB bj L W':=fun q hq=>⟨hf.row (h q hq).1 (h q hq).2.1,fun e=>(h q hq).2.1 (hf.mov _ (h q hq).2.2 e),Nat.lt_of_lt_of_le (h q hq).2.2 hf.size⟩
theorem TB.row {bj:Nat} {L:List (Nat × List Value)} {W:World} (h:TB bj L W) (i:Nat) {q:Nat × List Value} (hi:L[i]? = some q):Ae q.2 W q.1:=(h q (List.mem_of_getElem? hi)).1
theorem TB.off {bj:Nat} {L:List (Nat × List Value)} {W:World} (h:TB bj L W) (i:Nat) {q:Nat × List Value} (hi:L[i]? = some q):¬ XJ bj W q.1:=(h q (List.mem_of_getElem? hi)).2.1
theorem TB.add {bj:Nat} {L:List (Nat × List Value)} {W:World} (h:TB bj L W) {b:Nat} {cs:List Value} (hr:Ae cs W b) (hx:¬ XJ bj W b) (hl:b < W.heap.size):TB bj ((b,cs)::L) W:=fun q hq=>by
 rcases List.mem_cons.1 hq with rfl | hq
 ·exact ⟨hr,hx,hl⟩
 ·exact h q hq
theorem TB.nil {bj:Nat} {W:World}:TB bj [] W:=fun q hq=>by cases hq
theorem Gz (n:Nat):(Bu n).len n:=by simp [Bu,Lev.len]
theorem H4 {n:Nat} {gs:List (Int × Int)} {b:Lab} (h:Bq n gs b=0):(b.r.length<=4/\∀ q∈b.r,Er n q)/\(b.w.length<=4/\∀ q∈b.w,Er n q):=by
 unfold Bq at h
 split at h
 ·exact Gq h
 ·rename_i hc;exact absurd h hc
abbrev M6 (bj:Nat) (c:WC) (bv ov bl ol:Nat) (W:World) (jv:Nat) (ek en:Int) (xa:Option Addr) (xl xc:Nat) (a1:Option Addr) (a2 a3:Nat) (a4:Option Addr) (a5 a6:Nat) (Wz:World):Prop:=Wz.cell? ⟨bj,0,none⟩=some (U zd (c.n:Int))/\Wz.cell? ⟨bj,1,none⟩=some (O c.ga c.gn c.gc)/\Wz.cell? ⟨bj,2,none⟩=some (O c.sa c.sn c.sc)/\Wz.cell? ⟨bj,3,none⟩=some (O c.ya c.yn c.yc)/\Wz.cell? ⟨bj,4,none⟩=some (O c.oa c.on c.oc)/\Wz.cell? ⟨bj,5,none⟩=some (O (some ⟨bv,ov,none⟩) c.vn c.vc)/\Wz.cell? ⟨bj,6,none⟩=some (O c.fa c.fn c.fc)/\Wz.cell? ⟨bj,7,none⟩=some (O c.ba c.bn c.bc)/\Wz.cell? ⟨bj,8,none⟩=some (O (some ⟨bl,ol,none⟩) c.ln c.lc)/\Wz.cell? ⟨bj,9,none⟩=some (O c.ka c.kn c.kc)/\Wz.cell? ⟨W.heap.size,1,none⟩=some (U zd (jv:Int))/\Wz.cell? ⟨W.heap.size,3,none⟩=some (U zd ek)/\Wz.cell? ⟨W.heap.size,4,none⟩=some (U zd en)/\Wz.cell? ⟨W.heap.size,5,none⟩=some (O xa xl xc)/\Wz.cell? ⟨bl,ol+jv*2,none⟩=some (O a1 a2 a3)/\Wz.cell? ⟨bl,ol+jv*2+1,none⟩=some (O a4 a5 a6)
abbrev M5 (bj:Nat) (c:WC) (bv ov bl ol:Nat) (W:World) (p1:Option Addr) (q1 r1:Nat) (p2:Option Addr) (q2 r2 bo:Nat) (a1:Option Addr) (a2 a3:Nat) (a4:Option Addr) (a5 a6:Nat) (Wz:World):Prop:=Wz.cell? ⟨bj,0,none⟩=some (U zd (c.n:Int))/\Wz.cell? ⟨bj,1,none⟩=some (O c.ga c.gn c.gc)/\Wz.cell? ⟨bj,2,none⟩=some (O c.sa c.sn c.sc)/\Wz.cell? ⟨bj,3,none⟩=some (O c.ya c.yn c.yc)/\Wz.cell? ⟨bj,4,none⟩=some (O c.oa c.on c.oc)/\Wz.cell? ⟨bj,5,none⟩=some (O (some ⟨bv,ov,none⟩) c.vn c.vc)/\Wz.cell? ⟨bj,6,none⟩=some (O c.fa c.fn c.fc)/\Wz.cell? ⟨bj,7,none⟩=some (O c.ba c.bn c.bc)/\Wz.cell? ⟨bj,8,none⟩=some (O (some ⟨bl,ol,none⟩) c.ln c.lc)/\Wz.cell? ⟨bj,9,none⟩=some (O c.ka c.kn c.kc)/\Wz.cell? ⟨W.heap.size+1,0,none⟩=some (O p1 q1 r1)/\Wz.cell? ⟨W.heap.size+1,1,none⟩=some (O p2 q2 r2)/\Wz.cell? ⟨bo,0,none⟩=some (O a1 a2 a3)/\Wz.cell? ⟨bo,1,none⟩=some (O a4 a5 a6)
abbrev Ky (bj bv ov:Nat) (c:WC) (W:World) (jv:Nat) (kn:Bool) (pa1:Option Addr) (pn1 pc1:Nat) (pa2:Option Addr) (pn2 pc2:Nat) (Wz:World):Prop:=Wz.cell? ⟨bj,5,none⟩=some (O (some ⟨bv,ov,none⟩) c.vn c.vc)/\Wz.cell? ⟨W.heap.size,1,none⟩=some (U zd (jv:Int))/\Wz.cell? ⟨bv,ov+jv*3,none⟩=some (zg kn)/\Wz.cell? ⟨bv,ov+jv*3+1,none⟩=some (O pa1 pn1 pc1)/\Wz.cell? ⟨bv,ov+jv*3+2,none⟩=some (O pa2 pn2 pc2)
theorem Ns (c) (w0:World) (bj:Nat) (av:Value) (gs Ls Fs) (J:JSt c w0 gs Ls Fs) (sp) (A:JAc c w0 av (AB gs) sp) (K ni no:Nat) (fs vs) (hvs:Bo w0 (O c.va c.vn c.vc) vs) (hvn:vs.length=Ls.length) (hvc:∀ v∈vs,Bq c.n gs v.2=0) :
  E5 c w0 bj av K Ls.length ni no fs 6 (Ed c.n K (AB gs) sp Ls vs) 153:=by
 intro fl fv s a k cs lv d p funcs W hfl h hbox hl hrs hok hk
 obtain ⟨p1,q1,r1,p2,q2,r2,hlv⟩:=hl.form
 have hlv':lv=[O p1 q1 r1,O p2 q2 r2]:=by simpa using hlv
 subst hlv'
 clear hlv
 obtain ⟨ek,en,xa,xl,xc,aa,ac,ta,tc,ea,ec,rfl,i0,i1,i2,hX,hA,hT,hE,-,-,-⟩:=hrs.form
 have hv2:=hok.2.1 (by omega)
 obtain ⟨jv,hjv⟩:∃ j:Nat,AJ d=(j:Int):=⟨(AJ d).toNat,by omega⟩
 have hjl:jv < Ls.length:=by omega
 have hjw:jv < vs.length:=by omega
 obtain ⟨bl,ol,a1,a2,a3,a4,a5,a6,hla,hln,k0,k1,hlev⟩:=CW J.levs hjl
 have hVS:=hvs
 obtain ⟨hym,va',vc',hve,hvel⟩:=hvs
 injection hve with v1 v2 v3
 obtain ⟨bv,ov,hvo,hvel⟩:=hvel (by rintro rfl;simp at hjw)
 have hva:c.va=some ⟨bv,ov,none⟩:=v1.trans hvo
 have hvn2:c.vn=vs.length:=v2
 have hkd:sC (Ak d) (AJ d) (Ag d) ek en xa xl xc aa (An d).length ac ta (Ar d).length tc ea (Av d).length ec=sC 6 (jv:Int) (Ag d) ek en xa xl xc aa (An d).length ac ta (Ar d).length tc ea (Av d).length ec:=by rw [hk,hjv]
 rw [hkd]
 clear hkd
 obtain ⟨ot,hot⟩:=nm (Ag d)
 obtain ⟨al,hal⟩:=nm ((An d).length)
 obtain ⟨tn,htn⟩:=nm ((Ar d).length)
 obtain ⟨el,hel⟩:=nm ((Av d).length)
 rw [<-hot,<-hal,<-htn,<-hel]
 have hgd:Ls.getD (AJ d).toNat AE=Ls[jv]:=by rw [hjv];simp [List.getD_eq_getElem?_getD,hjl]
 obtain ⟨lz,hlz⟩:=nm (Ls[jv])
 have hlzl:lz.len c.n:=by rw [hlz];exact J.lens _ (List.getElem_mem hjl)
 rw [<-hlz] at hlev hgd
 have hgv:vs.getD (AJ d).toNat (false,⟨[],[]⟩)=vs[jv]:=by rw [hjv];simp [List.getD_eq_getElem?_getD,hjw]
 have hcv:c.v=(zh #[U zd (c.n:Int),O c.ga c.gn c.gc,O c.sa c.sn c.sc,O c.ya c.yn c.yc,O c.oa c.on c.oc,O (some ⟨bv,ov,none⟩) c.vn c.vc,O c.fa c.fn c.fc,O c.ba c.bn c.bc,O (some ⟨bl,ol,none⟩) c.ln c.lc,O c.ka c.kn c.kc]):=by show Value.agg #[U zd (c.n:Int),O c.ga c.gn c.gc,O c.sa c.sn c.sc,O c.ya c.yn c.yc,O c.oa c.on c.oc,O c.va c.vn c.vc,O c.fa c.fn c.fc,O c.ba c.bn c.bc,O c.la c.ln c.lc,O c.ka c.kn c.kc]=_;rw [hva,hla]
 obtain ⟨pr,pw,g0,g1,g2,hpr,hpw⟩:=hvel jv hjw
 obtain ⟨pa1,pn1,pc1,rfl⟩:=AM hpr
 obtain ⟨pa2,pn2,pc2,rfl⟩:=AM hpw
 obtain ⟨V1,hV1⟩:=nm (((W.alloc (ze #[U zd 6,U zd (jv:Int),U zd ot,U zd ek,U zd en,O xa xl xc,O aa al ac,O ta tn tc,O ea el ec] 130)).alloc (ze #[O p1 q1 r1,O p2 q2 r2] 50)))
 have hb1:Ov W V1:=by rw [hV1];exact (bA W _).alloc (by simp) _
 obtain ⟨tl,htl⟩:=nm ((AX c.n Ls (Bu c.n) (AC K (AR d))))
 have HJ1:=Aa (h.over hb1)
 have HN1:=Aa J.n1
 have HLO:=Aa (fun (W2:World) {fl2:List (Int × Int)} {fv2:Value} (h2:AU c.cs w0 bj av fl2 fv2 W2)=>FE J.n1 h2 hlev hlzl)
 have KBot:Hx (∀ (W2:World),Calls Tryz.prog 104 #[(zh #[U zd (c.n:Int),O c.ga c.gn c.gc,O c.sa c.sn c.sc,O c.ya c.yn c.yc,O c.oa c.on c.oc,O (some ⟨bv,ov,none⟩) c.vn c.vc,O c.fa c.fn c.fc,O c.ba c.bn c.bc,O (some ⟨bl,ol,none⟩) c.ln c.lc,O c.ka c.kn c.kc])] W2 fun e w'=>∃ vj,e=zk vj/\Bh W2 w' vj (Bu c.n)/\Ov W2 w'):=fun W2=>by
  have:=EE c.n J.n1 J.n6 c.ga c.gn c.gc c.sa c.sn c.sc c.ya c.yn c.yc c.oa c.on c.oc c.va c.vn c.vc c.fa c.fn c.fc c.ba c.bn c.bc c.la c.ln c.lc c.ka c.kn c.kc W2
  rw [hva,hla] at this
  exact this
 have KW:Hx (∀ (W2:World) {x:Value},AU c.cs w0 bj av fl fv W2->AW c.n (XJ bj) W2 x (Bu c.n)->Calls Tryz.prog 103 #[(zh #[U zd (c.n:Int),O c.ga c.gn c.gc,O c.sa c.sn c.sc,O c.ya c.yn c.yc,O c.oa c.on c.oc,O (some ⟨bv,ov,none⟩) c.vn c.vc,O c.fa c.fn c.fc,O c.ba c.bn c.bc,O (some ⟨bl,ol,none⟩) c.ln c.lc,O c.ka c.kn c.kc]),x,zh #[U zd ek,U zd en,O xa xl xc]] W2 fun e w'=>(∃ p1 q1 r1 p2 q2 r2,e=zk (zh #[O p1 q1 r1,O p2 q2 r2])/\AW c.n (XJ bj) w' (zh #[O p1 q1 r1,O p2 q2 r2]) tl)/\Ov W2 w'):=fun W2 x h2 hx=>by
  have:=Hj J h2 x (Bu c.n) K [U zd ek,U zd en,O xa xl xc] (AR d) hx hX (BB hok)
  rw [hcv,<-htl] at this
  exact this
 obtain ⟨f5,hf5⟩:=nm (Ay p lz c.n)
 have KF:Hx (∀ (W2:World) {fl2:List (Int × Int)} {fv2 x y:Value},AU c.cs w0 bj av fl2 fv2 W2->AW c.n (XJ bj) W2 x p->AW c.n (XJ bj) W2 y lz->Calls Tryz.prog 57 #[(zh #[U zd (c.n:Int),O c.ga c.gn c.gc,O c.sa c.sn c.sc,O c.ya c.yn c.yc,O c.oa c.on c.oc,O (some ⟨bv,ov,none⟩) c.vn c.vc,O c.fa c.fn c.fc,O c.ba c.bn c.bc,O (some ⟨bl,ol,none⟩) c.ln c.lc,O c.ka c.kn c.kc]),x,y] W2 fun e W'=>e=zk (zg f5)/\Ov W2 W'):=fun W2 fl2 fv2 x y h2 hx hy=>by
  have:=FR c gs x y _ _ W2 (Af J.gr h2.below) J.chk hx.at_ hx.len hy.at_ hy.len
  rw [hcv,<-hf5] at this
  exact this
 have KB:=Aa (fun (W2:World) {fl2:List (Int × Int)} {fv2:Value} (h2:AU c.cs w0 bj av fl2 fv2 W2) (hj:W2.cell? ⟨s,0,none⟩=some (zj (some ⟨bj,0,none⟩))) (ha:W2.cell? ⟨s+1,0,none⟩=some (U zd a)) (nj:¬ XJ bj W2 s) (na:¬ XJ bj W2 (s+1)) (hl2:fl2.length<=1000) (k:Int) (is:Bool)=>E2 c.cs w0 bj av fl2 fv2 a k is s (s+1) W2 h2 hj ha nj na hl2)
 have hlb:=hvc vs[jv] (List.getElem_mem hjw)
 have hlab:=H4 hlb
 unfold Ed toL Fu DF
 rw [hgd,hgv,<-hf5,<-htl]
 obtain ⟨f6,hf6⟩:=nm ((vs[jv].2.w.any fun q=>Es (AB gs) c.n sp q.owner.toNat))
 obtain ⟨kn,hkn⟩:=nm (vs[jv].1)
 obtain ⟨f8,hf8⟩:=nm (((List.range c.n).any fun i=>lz.r[i]?.getD false && !(tl.r[i]?.getD false)))
 rw [<-hf6,<-hkn,<-hf8]
 rw [<-hkn] at g0
 have KM:Hx (∀ (W2:World) {fl2:List (Int × Int)} {fv2:Value},AU c.cs w0 bj av fl2 fv2 W2->Calls Tryz.prog 202 #[zj (some ⟨bj,0,none⟩),O pa2 pn2 pc2] W2 fun e W'=>e=zk (zg f6)/\Ov W2 W'):=fun W2 fl2 fv2 h2=>by
  rw [hf6]
  exact Nf c w0 bj av fl2 fv2 (AB gs) sp A _ _ W2 h2 J.n6 (Ah hpw h2.below) (by have:=hlab.2.1;omega) (fun q hq=>(hlab.2.2 q hq).1)
 have KS:Hx (∀ (W2:World) {fl2:List (Int × Int)} {fv2:Value} {bt bo:Nat} {u1 u2:Value},AU c.cs w0 bj av fl2 fv2 W2->W2.cell? ⟨bo,0,none⟩=some (O a1 a2 a3)->W2.cell? ⟨bt,0,none⟩=some u1->AW c.n (XJ bj) W2 (zh #[u1,u2]) tl->Calls Tryz.prog 203 #[zj (some ⟨bj,0,none⟩),.func (.func 207) #[] #[zj (some ⟨bo,0,none⟩),zj (some ⟨bt,0,none⟩)]] W2 fun e W'=>e=zk (zg f8)/\Ov W2 W'):=fun W2 fl2 fv2 bt bo u1 u2 h2 ho ht hlt=>by
  rw [hf8]
  have hlo:=HLO.o W2 h2
  obtain ⟨x,y,e1,b1,-⟩:=id hlo.at_
  obtain ⟨x',y',e2,b2,-⟩:=id hlt.at_
  simp at e1 e2
  obtain ⟨rfl,rfl⟩:=e1
  obtain ⟨rfl,rfl⟩:=e2
  refine EL c w0 bj av fl2 fv2 207 [zj (some ⟨bo,0,none⟩),zj (some ⟨bt,0,none⟩)] _ W2 h2 J.n6 (fun i hi w1 hb=>?_) Hb
  exact Mc c.n i bo bt _ _ _ _ w1 J.n6 hi (Ab hb _ _ ho) (Ab hb _ _ ht) (Ax b1 hb) hlo.len.1 (Ax b2 hb) hlt.len.1
 have HTB1:Hx (TB bj [(W.heap.size,[U zd 6,U zd (jv:Int),U zd ot,U zd ek,U zd en,O xa xl xc,O aa al ac,O ta tn tc,O ea el ec]),(W.heap.size+1,[O p1 q1 r1,O p2 q2 r2]),(s,[zj (some ⟨bj,0,none⟩)]),(s+1,[U zd a])] V1):=by
  have hF:=FrW.of_below (Ai bj) hb1
  have hVS:V1.heap.size=W.heap.size+1+1:=by rw [hV1];simp
  have hnx:∀ q,W.heap.size<=q->¬ XJ bj V1 q:=fun q hq e=>by have:=(h.xlt q ((Ai bj).below _ _ hb1 q e)).2;omega
  refine TB.add (TB.add (TB.add (TB.add TB.nil ?_ ?_ ?_) ?_ ?_ ?_) ?_ (hnx _ (by omega)) (by omega)) ?_ (hnx _ (Nat.le_refl _)) (by omega)
  ·exact hF.row (fun j u hu=>by match j with | 0=>simp at hu;subst hu;exact hbox.a | j+1=>simp at hu) (hbox.x _ (by omega) (by omega))
  ·exact fun e=>hbox.x _ (by omega) (by omega) (hF.mov _ (by have:=hbox.lt;omega) e)
  ·have:=hbox.lt;have:=hF.size;omega
  ·exact hF.row (fun j u hu=>by match j with | 0=>simp at hu;subst hu;exact hbox.j | j+1=>simp at hu) (hbox.x _ (by omega) (by omega))
  ·exact fun e=>hbox.x _ (by omega) (by omega) (hF.mov _ (by have:=hbox.lt;omega) e)
  ·have:=hbox.lt;have:=hF.size;omega
  ·rw [hV1]
   have r:=Ae.new [O p1 q1 r1,O p2 q2 r2] 50 (W.alloc (ze #[U zd 6,U zd (jv:Int),U zd ot,U zd ek,U zd en,O xa xl xc,O aa al ac,O ta tn tc,O ea el ec] 130))
   simpa using r
  ·rw [hV1]
   exact (Ae.new [U zd 6,U zd (jv:Int),U zd ot,U zd ek,U zd en,O xa xl xc,O aa al ac,O ta tn tc,O ea el ec] 130 W).over (bA _ _)
 have HS:Hx (∀ (W2:World),Ov V1 W2->M6 bj c bv ov bl ol W jv ek en xa xl xc a1 a2 a3 a4 a5 a6 W2):=fun W2 hb2=>by
  have h2:=HJ1.o.over hb2
  have r2:Ae [U zd 6,U zd (jv:Int),U zd ot,U zd ek,U zd en,O xa xl xc,O aa al ac,O ta tn tc,O ea el ec] W2 W.heap.size:=(HTB1.o.row 0 rfl).over hb2
  exact ⟨h2.cw 0 _ rfl,h2.cw 1 _ rfl,h2.cw 2 _ rfl,h2.cw 3 _ rfl,h2.cw 4 _ rfl,by rw [<-hva];exact h2.cw 5 _ rfl,h2.cw 6 _ rfl,h2.cw 7 _ rfl,by rw [<-hla];exact h2.cw 8 _ rfl,h2.cw 9 _ rfl,r2 1 _ rfl,r2 3 _ rfl,r2 4 _ rfl,r2 5 _ rfl,Ab h2.below _ _ k0,Ab h2.below _ _ k1⟩
 have HS3:Hx (∀ (W2:World) {fl2:List (Int × Int)} {fv2:Value} {bt bo bw:Nat} {t1:Option Addr} {t2 t3:Nat} {t4:Option Addr} {t5 t6:Nat},AU c.cs w0 bj av fl2 fv2 W2->TB bj ((bw,[zg kn,O pa1 pn1 pc1,O pa2 pn2 pc2])::[(bt,[O t1 t2 t3,O t4 t5 t6]),(bo,[O a1 a2 a3,O a4 a5 a6]),(W.heap.size,[U zd 6,U zd (jv:Int),U zd ot,U zd ek,U zd en,O xa xl xc,O aa al ac,O ta tn tc,O ea el ec]),(W.heap.size+1,[O p1 q1 r1,O p2 q2 r2]),(s,[zj (some ⟨bj,0,none⟩)]),(s+1,[U zd a])]) W2->M5 bj c bv ov bl ol W p1 q1 r1 p2 q2 r2 bo a1 a2 a3 a4 a5 a6 W2):=fun W2 fl2 fv2 bt bo bw t1 t2 t3 t4 t5 t6 h2 r2=>⟨h2.cw 0 _ rfl,h2.cw 1 _ rfl,h2.cw 2 _ rfl,h2.cw 3 _ rfl,h2.cw 4 _ rfl,by rw [<-hva];exact h2.cw 5 _ rfl,h2.cw 6 _ rfl,h2.cw 7 _ rfl,by rw [<-hla];exact h2.cw 8 _ rfl,h2.cw 9 _ rfl,(r2.row 4 rfl) 0 _ rfl,(r2.row 4 rfl) 1 _ rfl,(r2.row 2 rfl) 0 _ rfl,(r2.row 2 rfl) 1 _ rfl⟩
 have HS2':Hx (∀ (W2:World),AU c.cs w0 bj av fl fv W2->W2.cell? ⟨W.heap.size,1,none⟩=some (U zd (jv:Int))->Ky bj bv ov c W jv kn pa1 pn1 pc1 pa2 pn2 pc2 W2):=fun W2 h2 r2=>⟨by rw [<-hva];exact h2.cw 5 _ rfl,r2,Ab h2.below _ _ g0,Ab h2.below _ _ g1,Ab h2.below _ _ g2⟩
 have HB0:Hx (Ov V1 V1.drew):=(bD _)
 have HP1:=Aa (hl.over (Ai bj) hb1)
 have HF1:=Aa (FrW.of_below (Ai bj) hb1)
 have HFL0:Hx (fl.length<=1000):=by unfold Hx;omega
 have HFL1:Hx ((addF a 5 fl (!f5)).length<=1000):=Nat.le_trans (A5 _ _ _ _) (by omega)
 have HFL2:Hx ((addF a 6 (addF a 5 fl (!f5)) f6).length<=1000):=Nat.le_trans (A5 _ _ _ _) (by have:=A5 a 5 fl (!f5);omega)
 have HFL3:Hx ((addF a 7 (addF a 6 (addF a 5 fl (!f5)) f6) (!kn)).length<=1000):=Nat.le_trans (A5 _ _ _ _) (by have:=A5 a 5 fl (!f5);have:=A5 a 6 (addF a 5 fl (!f5)) f6;omega)
 have gj1:(jv:Int) < (c.ln:Int):=by omega
 have gj2:c.ln<=16:=by rw [hln];exact J.l16
 have gj3:(jv:Int) < (c.vn:Int):=by omega
 have gj4:c.vn<=16:=by have:=J.l16;omega
 obtain ⟨u0,u1,u2,u3,u4,u5,u6,u7,u8,u9,u10,u11,u12,u13,u14,u15⟩:=HS.o _ (Below.refl _ _)
 clear hlz hlzl htl hf5 hf6 hkn hf8 g0 g1 g2 hpr hpw hlb hlab hgd hgv hcv hvo hva hvn2 hvel v1 v2 v3 hym hla hln k0 k1 hlev hjv hv2 hot hal htn hel hl hrs hX hA hT hE hok J A hVS hvc hfl hk i0 i1 i2 hjl hjw hb1 hbox h
 go_enter Tryz.func153,Tryz.ntmps153
 go_wp2_with fail
 rw [<-hV1]
 clear hV1
 refine CU (fun act2 W2=>∃ (bt bo:Nat) (x11 x12 x13 x14 x15 x16 x17 x18 x19 x20 x21 x22 x23 x24 x25 x26 x27 x28 x29 x30 x31 x32:Value) (t1:Option Addr) (t2 t3:Nat) (t4:Option Addr) (t5 t6:Nat),act2={ tmps:=#[zj (some ⟨bj,0,none⟩),zh #[U zd 6,U zd (jv:Int),U zd ot,U zd ek,U zd en,O xa xl xc,O aa al ac,O ta tn tc,O ea el ec],zh #[O p1 q1 r1,O p2 q2 r2],.func (.func 149) #[] #[zj (some ⟨s,0,none⟩),zj (some ⟨s+1,0,none⟩)],undef,zj (some ⟨W.heap.size,0,none⟩),zj (some ⟨W.heap.size+1,0,none⟩),undef,zj (some ⟨bt,0,none⟩),zj (some ⟨bo,0,none⟩),undef,x11,x12,x13,x14,x15,x16,x17,x18,x19,x20,x21,x22,x23,x24,x25,x26,x27,x28,x29,x30,x31,x32,undef,undef,undef,undef,undef,undef,undef,undef,undef,undef,undef,undef,undef,undef,undef,undef,undef,undef,undef,undef,undef,undef,undef,undef,undef,undef,undef,undef,undef,undef,undef,undef,undef,undef,undef,undef,undef],defers:=[] }/\Ov V1 W2/\Ae [O t1 t2 t3,O t4 t5 t6] W2 bt/\Ae [O a1 a2 a3,O a4 a5 a6] W2 bo/\AW c.n (XJ bj) W2 (zh #[O t1 t2 t3,O t4 t5 t6]) tl/\(V1.heap.size<=bt/\bt < W2.heap.size)/\(V1.heap.size<=bo/\bo < W2.heap.size)/\bt≠bo) ?_ ?_
 ·refine gS (M6 bj c bv ov bl ol W jv ek en xa xl xc a1 a2 a3 a4 a5 a6) (HS.o _ HB0.o) fun hHeld=>?_
  refine kT 0 ?_
  refine kT 1 ?_
  refine kT 2 ?_
  refine kT 3 ?_
  refine kT 4 ?_
  refine kT 5 ?_
  refine kT 6 ?_
  refine kT 7 ?_
  refine kT 9 ?_
  refine kT 10 ?_
  refine kT 12 ?_
  refine kT 13 ?_
  refine kT 14 ?_
  refine kT 15 ?_
  refine kT 16 ?_
  refine kT 17 ?_
  refine kT 18 ?_
  refine kT 19 ?_
  refine kT 20 ?_
  refine kT 21 ?_
  have HB:=HB0
  generalize V1.drew=Wc at HB hHeld ⊢
  clear HB0
  refine rdC 8 22 23 rfl (fun K h8=>?_) rfl (fun K h22=>?_) rfl (fun K h23=>?_) (by decide +kernel)
  all_goals repeat' first
   | (
    have hi:=h8
    clear hi
    go_simp
    refine (KBot.o _).mono ?_
    rintro e Wc ⟨vj,rfl,hL,hb⟩
    have hN:=BN hL
    have hA:=Ao hL
    obtain ⟨v1,v2,rfl,ho1,ho2,-⟩:=hL
    obtain ⟨y1,y2,y3,rfl⟩:=Aj ho1
    obtain ⟨y4,y5,y6,rfl⟩:=Aj ho2
    have hN:=EQ hN HB.o.size
    replace HB:=Aa (Ac HB.o hb)
    have HLB:=Aa (⟨hA,Gz _,Cs (Ai bj) HB.o (fun k hk=>(HJ1.o.xlt k hk).2) hN⟩:AW c.n (XJ bj) Wc _ (Bu c.n))
    (try replace HT:=Aa (HT.o.over hb))
    (try replace HO:=Aa (HO.o.over hb))
    clear hN hA ho1 ho2 hb
    go_simp
    refine xK h8 (HS.o _ HB.o) fun hHeld=>?_
    clear h8 K
    first | (refine rdC 11 22 23 rfl (fun K h11=>?_) rfl (fun K h22=>?_) rfl (fun K h23=>?_) (by decide +kernel)) | (refine rdA 11 rfl (fun K h11=>?_) (by decide +kernel)) | (refine rdB 11 22 rfl (fun K h11=>?_) rfl (fun K h22=>?_) (by decide +kernel)) | (refine rdB 11 23 rfl (fun K h11=>?_) rfl (fun K h23=>?_) (by decide +kernel)))
   | (
    have hi:=h11
    clear hi
    go_simp
    refine (KW.o _ (HJ1.o.over HB.o) HLB.o).mono ?_
    rintro e Wc ⟨⟨o1,o2,o3,o4,o5,o6,rfl,hL⟩,hb⟩
    replace HB:=Aa (Ac HB.o hb)
    (try replace HT:=Aa (HT.o.over hb))
    (try replace HO:=Aa (HO.o.over hb))
    have HLW:=Aa hL
    clear HLB hL hb
    go_simp
    refine xK h11 (HS.o _ HB.o) fun hHeld=>?_
    clear h11 K
    first | (refine rdB 22 23 rfl (fun K h22=>?_) rfl (fun K h23=>?_) (by decide +kernel)) | (refine rdA 24 rfl (fun K h24=>?_) (by decide +kernel)) | (refine rdA 22 rfl (fun K h22=>?_) (by decide +kernel)) | (refine rdA 23 rfl (fun K h23=>?_) (by decide +kernel)))
   | (
    have hi:=h22
    clear hi
    have hb:=bA Wc (ze #[O none 0 0,O none 0 0] 50)
    have hz:=GD 50 Wc
    have hgt:=HB.o.size
    obtain ⟨bt,hq⟩:∃ b:Nat,b=Wc.heap.size:=⟨_,rfl⟩
    rw [<-hq] at hz hgt
    (try have hbb:bt≠bo:=by have:=HO.o.lt;omega)
    go_simp
    rw [<-hq]
    obtain ⟨Wc,hWn⟩:=nm (Wc.alloc (ze #[O none 0 0,O none 0 0] 50))
    rw [<-hWn] at hb hz ⊢
    replace HB:=Aa (Ac HB.o hb)
    (try replace HO:=Aa (HO.o.over hb))
    (try replace HLB:=Aa (HLB.o.over (Ai bj) hb))
    (try replace HLW:=Aa (HLW.o.over (Ai bj) hb))
    have HT:=Aa hz
    clear hb hz hWn hq
    refine xK h22 (HS.o _ HB.o) fun hHeld=>?_
    clear h22 K
    first | (refine rdA 24 rfl (fun K h24=>?_) (by decide +kernel)) | (refine rdB 8 23 rfl (fun K h8=>?_) rfl (fun K h23=>?_) (by decide +kernel)) | (refine rdB 11 23 rfl (fun K h11=>?_) rfl (fun K h23=>?_) (by decide +kernel)) | (refine rdA 23 rfl (fun K h23=>?_) (by decide +kernel)) | (refine rdA 8 rfl (fun K h8=>?_) (by decide +kernel)) | (refine rdA 11 rfl (fun K h11=>?_) (by decide +kernel)))
   | (
    have hi:=h23
    clear hi
    have hb:=bA Wc (ze #[O none 0 0,O none 0 0] 50)
    have hz:=GD 50 Wc
    have hgo:=HB.o.size
    obtain ⟨bo,hq⟩:∃ b:Nat,b=Wc.heap.size:=⟨_,rfl⟩
    rw [<-hq] at hz hgo
    (try have hbb:bt≠bo:=by have:=HT.o.lt;omega)
    go_simp
    rw [<-hq]
    obtain ⟨Wc,hWn⟩:=nm (Wc.alloc (ze #[O none 0 0,O none 0 0] 50))
    rw [<-hWn] at hb hz ⊢
    replace HB:=Aa (Ac HB.o hb)
    (try replace HT:=Aa (HT.o.over hb))
    (try replace HLB:=Aa (HLB.o.over (Ai bj) hb))
    (try replace HLW:=Aa (HLW.o.over (Ai bj) hb))
    have HO:=Aa hz
    clear hb hz hWn hq
    refine xK h23 (HS.o _ HB.o) fun hHeld=>?_
    clear h23 K
    first | (refine rdA 24 rfl (fun K h24=>?_) (by decide +kernel)) | (refine rdB 8 22 rfl (fun K h8=>?_) rfl (fun K h22=>?_) (by decide +kernel)) | (refine rdB 11 22 rfl (fun K h11=>?_) rfl (fun K h22=>?_) (by decide +kernel)) | (refine rdA 22 rfl (fun K h22=>?_) (by decide +kernel)) | (refine rdA 8 rfl (fun K h8=>?_) (by decide +kernel)) | (refine rdA 11 rfl (fun K h11=>?_) (by decide +kernel)))
   | (
    have hi:=h24
    clear hi
    have d0:=HT.o.c0
    have d1:=HT.o.c1
    have z0:=HT.o.z0
    have z1:=HT.o.z1
    have hjb:bj < V1.heap.size:=HJ1.o.lo.2
    obtain ⟨Wn,hWn⟩:=nm (Cv Wc bt (O o1 o2 o3) (O o4 o5 o6))
    replace HB:Hx (Ov V1 Wn):=by rw [hWn];exact Dw HB.o hgt _ _
    replace HO:Hx (ZB bo Wn):=by rw [hWn];exact HO.o.other (Ne.symm hbb) _ _
    have HR:Hx (Ae [O o1 o2 o3,O o4 o5 o6] Wn bt):=by rw [hWn];exact HT.o.fill _ _
    have HL:Hx (AW c.n (XJ bj) Wn (zh #[O o1 o2 o3,O o4 o5 o6]) tl):=by rw [hWn];exact D1 HLW.o HT.o (by omega) _ _
    unfold Cv at hWn
    go_simp
    rw [<-hWn]
    clear hWn d0 d1 z0 z1 HLW HT
    refine xK h24 (HS.o _ HB.o) fun hHeld=>?_
    clear h24 K
    refine rdA 25 rfl (fun K h25=>?_) (by decide +kernel))
   | (
    have hi:=h25
    clear hi
    have e0:=HO.o.c0
    have e1:=HO.o.c1
    have y0:=HO.o.z0
    have y1:=HO.o.z1
    obtain ⟨Wm,hWm⟩:=nm (Cv Wn bo (O a1 a2 a3) (O a4 a5 a6))
    replace HB:Hx (Ov V1 Wm):=by rw [hWm];exact Dw HB.o hgo _ _
    replace HR:Hx (Ae [O o1 o2 o3,O o4 o5 o6] Wm bt):=by rw [hWm];exact Ho HR.o hbb _ _
    have HQ:Hx (Ae [O a1 a2 a3,O a4 a5 a6] Wm bo):=by rw [hWm];exact HO.o.fill _ _
    replace HL:Hx (AW c.n (XJ bj) Wm (zh #[O o1 o2 o3,O o4 o5 o6]) tl):=by rw [hWm];exact D1 HL.o HO.o (by omega) _ _
    unfold Cv at hWm
    go_simp
    rw [<-hWm]
    clear hWm
    refine xK h25 (HS.o _ HB.o) fun hHeld=>?_
    clear h25 K
    refine gE ?_
    exact AD ⟨bt,bo,_,_,_,_,_,_,_,_,_,_,_,_,_,_,_,_,_,_,_,_,_,_,o1,o2,o3,o4,o5,o6,rfl,HB.o,HR.o,HQ.o,HL.o,⟨hgt,bL (HR.o 0 _ rfl)⟩,⟨hgo,bL (HQ.o 0 _ rfl)⟩,hbb⟩)
 rintro act2 W2 ⟨bt,bo,x11,x12,x13,x14,x15,x16,x17,x18,x19,x20,x21,x22,x23,x24,x25,x26,x27,x28,x29,x30,x31,x32,t1,t2,t3,t4,t5,t6,rfl,hB2,hrt,hro,hlt,⟨gt0,gt1⟩,⟨go0,go1⟩,hbb⟩
 clear u0 u1 u2 u3 u4 u5 u6 u7 u8 u9 u10 u11 u12 u13 u14 u15 HS HB0
 have hnx:∀ q,V1.heap.size<=q->¬ XJ bj W2 q:=fun q hq e=>by have:=(HJ1.o.xlt q ((Ai bj).below _ _ hB2 q e)).2;omega
 have HJ2:=Aa (HJ1.o.over hB2)
 have HF2:=Aa (HF1.o.trans (FrW.of_below (Ai bj) hB2))
 have HTB2:Hx (TB bj [(bt,[O t1 t2 t3,O t4 t5 t6]),(bo,[O a1 a2 a3,O a4 a5 a6]),(W.heap.size,[U zd 6,U zd (jv:Int),U zd ot,U zd ek,U zd en,O xa xl xc,O aa al ac,O ta tn tc,O ea el ec]),(W.heap.size+1,[O p1 q1 r1,O p2 q2 r2]),(s,[zj (some ⟨bj,0,none⟩)]),(s+1,[U zd a])] W2):=((HTB1.o.keep (FrW.of_below (Ai bj) hB2)).add hro (hnx _ go0) go1).add hrt (hnx _ gt0) gt1
 have HP2:=Aa (HP1.o.over (Ai bj) hB2)
 have HT2:=Aa hlt
 have HS2:Hx (∀ (W3:World),Ov W2 W3->Ky bj bv ov c W jv kn pa1 pn1 pc1 pa2 pn2 pc2 W3):=fun W3 hb3=>HS2'.o W3 (HJ2.o.over hb3) (Ab hb3 _ _ ((HTB2.o.row 2 rfl) 1 _ rfl))
 obtain ⟨u0,u1,u2,u3,u4⟩:=HS2.o _ (Below.refl _ _)
 clear hnx hB2 hrt hro hlt gt0 gt1 go0 go1 hbb HP1 HTB1 HF1 HJ1 KBot KW HS2'
 go_wp2_with fail
 refine gS (Ky bj bv ov c W jv kn pa1 pn1 pc1 pa2 pn2 pc2) (HS2.o _ (bD _)) fun hHeld=>?_
 refine kT 0 ?_
 refine kT 1 ?_
 refine kT 2 ?_
 refine kT 3 ?_
 refine kT 4 ?_
 refine kT 5 ?_
 refine kT 6 ?_
 refine kT 7 ?_
 refine kT 8 ?_
 refine kT 9 ?_
 refine rdA 10 rfl fun K hK=>?_
 go_simp
 refine xK hK (HS2.o _ ((bA _ _).drew)) fun hHeld=>?_
 clear hK K
 refine rdA 11 rfl fun K hK=>?_
 go_simp
 refine xK hK (HS2.o _ ((bA _ _).drew)) fun hHeld=>?_
 clear hK K
 refine gE ?_
 have hb4:Ov W2 ((W2.alloc (ze #[zg kn,O pa1 pn1 pc1,O pa2 pn2 pc2] 41)).drew):=(bA _ _).drew
 have hr4:Ae [zg kn,O pa1 pn1 pc1,O pa2 pn2 pc2] ((W2.alloc (ze #[zg kn,O pa1 pn1 pc1,O pa2 pn2 pc2] 41)).drew) W2.heap.size:=(Ae.new [zg kn,O pa1 pn1 pc1,O pa2 pn2 pc2] 41 W2).over (bD _)
 have HJ4':=Aa (HJ2.o.over hb4)
 have HF4':=Aa (HF2.o.trans (FrW.of_below (Ai bj) hb4))
 have HTB4':Hx (TB bj ((W2.heap.size,[zg kn,O pa1 pn1 pc1,O pa2 pn2 pc2])::[(bt,[O t1 t2 t3,O t4 t5 t6]),(bo,[O a1 a2 a3,O a4 a5 a6]),(W.heap.size,[U zd 6,U zd (jv:Int),U zd ot,U zd ek,U zd en,O xa xl xc,O aa al ac,O ta tn tc,O ea el ec]),(W.heap.size+1,[O p1 q1 r1,O p2 q2 r2]),(s,[zj (some ⟨bj,0,none⟩)]),(s+1,[U zd a])]) ((W2.alloc (ze #[zg kn,O pa1 pn1 pc1,O pa2 pn2 pc2] 41)).drew)):=(HTB2.o.keep (FrW.of_below (Ai bj) hb4)).add hr4 (fun e=>by have:=(HJ2.o.xlt _ ((Ai bj).below _ _ hb4 _ e)).2;omega) (by simp)
 have HP4':=Aa (HP2.o.over (Ai bj) hb4)
 have HT4':=Aa (HT2.o.over (Ai bj) hb4)
 obtain ⟨bw,hbw⟩:=nm W2.heap.size
 obtain ⟨W4,hW4⟩:=nm ((W2.alloc (ze #[zg kn,O pa1 pn1 pc1,O pa2 pn2 pc2] 41)).drew)
 rw [<-hbw,<-hW4] at HTB4'
 rw [<-hW4] at HJ4' HF4' HP4' HT4'
 rw [<-hbw,<-hW4]
 clear hb4 hr4 u0 u1 u2 u3 u4 HS2 HP2 HT2 HTB2 HF2 HJ2 hbw hW4
 have HJ4:=Aa (HJ4'.o.over (bD _))
 have HF4:=Aa (HF4'.o.trans (FrW.of_below (Ai bj) (bD _)))
 have HTB4:=Aa (HTB4'.o.keep (FrW.of_below (Ai bj) (bD _)))
 have HP4:=Aa (HP4'.o.over (Ai bj) (bD _))
 have HT4:=Aa (HT4'.o.over (Ai bj) (bD _))
 have HO4:=Aa (HLO.o _ HJ4.o)
 have HS4:=Aa (HS3.o _ HJ4.o HTB4.o)
 obtain ⟨u0,u1,u2,u3,u4,u5,u6,u7,u8,u9,u10,u11,u12,u13⟩:=HS3.o _ HJ4'.o HTB4'.o
 clear HJ4' HF4' HTB4' HP4' HT4'
 go_wp2_with fail
 refine gS (M5 bj c bv ov bl ol W p1 q1 r1 p2 q2 r2 bo a1 a2 a3 a4 a5 a6) (HS4.o) fun hHeld=>?_
 refine kT 0 ?_
 refine kT 1 ?_
 refine kT 2 ?_
 refine kT 3 ?_
 refine kT 4 ?_
 refine kT 5 ?_
 refine kT 6 ?_
 refine rdA 7 rfl fun K hK=>?_
 go_simp
 refine (KF.o _ HJ4.o HP4.o HO4.o).mono ?_
 rintro e W5 ⟨rfl,hb5⟩
 have HJ5:=Aa (HJ4.o.over hb5)
 have HTB5:=Aa (HTB4.o.keep (FrW.of_below (Ai bj) hb5))
 have HS5:=Aa (HS3.o W5 HJ5.o HTB5.o)
 have HF5:=Aa (HF4.o.trans (FrW.of_below (Ai bj) hb5))
 have HT5:=Aa (HT4.o.over (Ai bj) hb5)
 clear hb5
 go_simp
 refine xK hK (HS5.o) fun hHeld=>?_
 clear hK K
 refine kT 8 ?_
 refine rdA 9 rfl fun K hK=>?_
 go_simp
 refine (KB.o _ HJ5.o ((HTB5.o.row 5 rfl) 0 _ rfl) ((HTB5.o.row 6 rfl) 0 _ rfl) (HTB5.o.off 5 rfl) (HTB5.o.off 6 rfl) HFL0.o 5 _).mono ?_
 rintro e W6 ⟨rfl,⟨fv6,hJ6⟩,hF6⟩
 have HJ6:=Aa hJ6
 have HTB6:=Aa (HTB5.o.keep hF6)
 have HF6:=Aa (HF5.o.trans hF6)
 have HT6:=Aa (HT5.o.keep HN1.o hF6)
 have HS6:=Aa (HS3.o W6 HJ6.o HTB6.o)
 clear hJ6 hF6
 go_simp
 refine xK hK (HS6.o) fun hHeld=>?_
 clear hK K
 refine gE ?_
 have g2:=(HTB6.o.row 0 rfl) 2 _ rfl
 have g0:=(HTB6.o.row 0 rfl) 0 _ rfl
 go_wp2_with fail
 refine (KM.o _ HJ6.o).mono ?_
 rintro e W7 ⟨rfl,hb7⟩
 have HJ7:=Aa (HJ6.o.over hb7)
 have HTB7:=Aa (HTB6.o.keep (FrW.of_below (Ai bj) hb7))
 have HF7:=Aa (HF6.o.trans (FrW.of_below (Ai bj) hb7))
 have HT7:=Aa (HT6.o.over (Ai bj) hb7)
 clear hb7 g0 g2
 go_wp2_with fail
 refine (KB.o _ HJ7.o ((HTB7.o.row 5 rfl) 0 _ rfl) ((HTB7.o.row 6 rfl) 0 _ rfl) (HTB7.o.off 5 rfl) (HTB7.o.off 6 rfl) HFL1.o 6 _).mono ?_
 rintro e W8 ⟨rfl,⟨fv8,hJ8⟩,hF8⟩
 have HJ8:=Aa hJ8
 have HTB8:=Aa (HTB7.o.keep hF8)
 have HF8:=Aa (HF7.o.trans hF8)
 have HT8:=Aa (HT7.o.keep HN1.o hF8)
 have g0:=(HTB8.o.row 0 rfl) 0 _ rfl
 clear hJ8 hF8
 go_wp2_with fail
 refine (KB.o _ HJ8.o ((HTB8.o.row 5 rfl) 0 _ rfl) ((HTB8.o.row 6 rfl) 0 _ rfl) (HTB8.o.off 5 rfl) (HTB8.o.off 6 rfl) HFL2.o 7 _).mono ?_
 rintro e W9 ⟨rfl,⟨fv9,hJ9⟩,hF9⟩
 have HJ9:=Aa hJ9
 have HTB9:=Aa (HTB8.o.keep hF9)
 have HF9:=Aa (HF8.o.trans hF9)
 have HT9:=Aa (HT8.o.keep HN1.o hF9)
 clear hJ9 hF9 g0
 go_wp2_with fail
 refine (KS.o _ HJ9.o ((HTB9.o.row 2 rfl) 0 _ rfl) ((HTB9.o.row 1 rfl) 0 _ rfl) HT9.o).mono ?_
 rintro e W10 ⟨rfl,hb10⟩
 have HJ10:=Aa (HJ9.o.over hb10)
 have HTB10:=Aa (HTB9.o.keep (FrW.of_below (Ai bj) hb10))
 have HF10:=Aa (HF9.o.trans (FrW.of_below (Ai bj) hb10))
 have HT10:=Aa (HT9.o.over (Ai bj) hb10)
 clear hb10
 go_wp2_with fail
 refine (KB.o _ HJ10.o ((HTB10.o.row 5 rfl) 0 _ rfl) ((HTB10.o.row 6 rfl) 0 _ rfl) (HTB10.o.off 5 rfl) (HTB10.o.off 6 rfl) HFL3.o 8 _).mono ?_
 rintro e W11 ⟨rfl,⟨fv11,hJ11⟩,hF11⟩
 have HJ11:=Aa hJ11
 have HTB11:=Aa (HTB10.o.keep hF11)
 have HF11:=Aa (HF10.o.trans hF11)
 have HT11:=Aa (HT10.o.keep HN1.o hF11)
 clear hJ11 hF11
 go_wp2_with fail
 go_end0
 exact ⟨rfl,⟨fv11,HJ11.o⟩,HF11.o⟩
end Go.Proofs.YtfffpjkcfnekaaaGreat.Ex
