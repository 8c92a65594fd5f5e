/- What a command asks of levels: a get. -/
import Derived.Test.YtfffpjkcfnekaaaGreatF18
import Derived.Laws.EntriesVeiled
import Derived.Maps.AppendAt
set_option linter.unusedVariables false
set_option maxHeartbeats 8000000
set_option maxRecDepth 100000
namespace Go.Proofs.YtfffpjkcfnekaaaGreat.Ex
open Go.RowKit
open Go.Value renaming slice -> O, int -> U, bool -> zg, agg -> zh, pointer -> zj, tuple -> zm
open Go.IntKind renaming i64 -> zd
open Go.Obj renaming cells -> ze
open Go.Ending renaming returned -> zk
section
variable {σ:Type} {c:WC} {w0:World} {K nv ni no:Nat} {fs:List FnD} {gs:List (Int × Int)} {lev flev:σ->List Lev} {Inv:σ->World->Prop} {X:World->Nat->Prop} {s:Nat} {G:FuncId} {d1 d2:Value}
abbrev H4 (s:Nat) (c:WC) (b3 z3:Nat) (W:World) (p1:Option Addr) (q1 r1:Nat) (p2:Option Addr) (q2 r2:Nat) (vr:Int) (j:Nat) (ek en:Int) (xa:Option Addr) (xl xc:Nat) (aa:Option Addr) (al ac:Nat) (ta:Option Addr) (tl tc:Nat) (ea:Option Addr) (el ec:Nat) (a1:Option Addr) (a2 a3:Nat) (a4:Option Addr) (a5 a6:Nat) (Wz:World):Prop:=Wz.cell? ⟨s,0,none⟩=some (U zd (c.n:Int))/\CE Wz s 1 (O c.ga c.gn c.gc)/\CE Wz s 2 (O c.sa c.sn c.sc)/\CE Wz s 3 (O (some ⟨b3,z3,none⟩) c.yn c.yc)/\CE Wz s 4 (O c.oa c.on c.oc)/\CE Wz s 5 (O c.va c.vn c.vc)/\CE Wz s 6 (O c.fa c.fn c.fc)/\CE Wz s 7 (O c.ba c.bn c.bc)/\CE Wz s 8 (O c.la c.ln c.lc)/\CE Wz s 9 (O c.ka c.kn c.kc)/\CE Wz (s+1+1) 0 (.func (.func 115) #[] #[zj (some ⟨s,0,none⟩),zj (some ⟨s+1,0,none⟩)])/\CE Wz (W.heap.size+1) 0 (O p1 q1 r1)/\CE Wz (W.heap.size+1) 1 (O p2 q2 r2)/\CE Wz W.heap.size 0 (U zd 3)/\CE Wz W.heap.size 1 (U zd vr)/\CE Wz W.heap.size 2 (U zd (j:Int))/\CE Wz W.heap.size 3 (U zd ek)/\CE Wz W.heap.size 4 (U zd en)/\CE Wz W.heap.size 5 (O xa xl xc)/\CE Wz W.heap.size 6 (O aa al ac)/\CE Wz W.heap.size 7 (O ta tl tc)/\CE Wz W.heap.size 8 (O ea el ec)/\CE Wz b3 (z3+j*2) (O a1 a2 a3)/\CE Wz b3 (z3+j*2+1) (O a4 a5 a6)
theorem OZ (I:Eg c w0 nv fs gs lev flev Inv X) (flow:Lev->Bool × Nat->σ->σ) (hC:∀ (args:Array Value) (w:World),(callFunc G args).run Tryz.prog w=.ok (.enter G args) w) (hfl:Hx (Df c nv fs Inv X flow G d1 d2)) (vs) (hvs:Br w0 (O c.va c.vn c.vc) vs) (hnv:vs.length=nv)
  (ls:List Lab) (hls:Bb w0 (O c.ya c.yn c.yc) ls) (hlc:∀ b∈ls,Bo c.n gs b=0) (hni:ls.length=ni) (hni5:ni<=5) (kf:Nat) (hfs:BC w0 K kf (O c.fa c.fn c.fc) fs) (hf5:fs.length<=5) (hof:∀ i (h:i < fs.length),okF K nv ni no (i:Int) fs kf fs[i])
  (st:σ) (W:World) (a:Int) (k:Nat) (cs:List Value) (d:D) (v:Value) (p:Lev) (funcs:Int) (hI:Inv st W) (hB:BK c X s G d1 d2 W) (hrs:RS w0 K (k+1) cs d) (hfn:funcs<=fs.length) (hok:CJ K nv ni no funcs fs d) (hl:AY c.n X W v p) (hk:Am d=3) :
  Calls Tryz.prog 116 #[U zd a,.agg cs.toArray,v,zj (some ⟨s,0,none⟩),zj (some ⟨s+1+1,0,none⟩),zj (some ⟨s+1,0,none⟩)] W fun e W'=>e=zk (zm #[])/\(Inv (BX c.n K lev (vs.map Prod.fst) (ls.map (AA (AD gs) c.n)) fs flow a d p st) W'/\BK c X s G d1 d2 W')/\FrW X W W':=by
 obtain ⟨p1,q1,r1,p2,q2,r2,rfl⟩:=hl.form
 obtain ⟨ek,en,xa,xl,xc,aa,ac,ta,tc,ea,ec,rfl,i0,i1,i2,hX,hA,hT,hE,-,-,-⟩:=hrs.form
 obtain ⟨vr,hvr⟩:=nm (AK d)
 obtain ⟨ot,hot⟩:=nm (Ah d)
 obtain ⟨al,hal⟩:=nm ((Ap d).length)
 obtain ⟨tl,htl⟩:=nm ((Av d).length)
 obtain ⟨el,hel⟩:=nm ((Ax d).length)
 have hkd:sC (Am d) (AK d) (Ah d) ek en xa xl xc aa (Ap d).length ac ta (Av d).length tc ea (Ax d).length ec=sC 3 (AK d) (Ah d) ek en xa xl xc aa (Ap d).length ac ta (Av d).length tc ea (Ax d).length ec:=by rw [hk]
 rw [hkd]
 clear hkd
 rw [<-hvr,<-hot,<-hal,<-htl,<-hel]
 have HVR:=Aa hvr
 have HOT:=Aa hot
 have HAL:=Aa hal
 have hb:Ov W ((W.alloc (ze #[U zd 3,U zd vr,U zd ot,U zd ek,U zd en,O xa xl xc,O aa al ac,O ta tl tc,O ea el ec] 130)).alloc (ze #[O p1 q1 r1,O p2 q2 r2] 50)):=(bA W _).alloc (by simp) _
 have hI1:=I.over _ _ _ hI hb
 have hB1:=hB.over I.xok hb
 have hl1:=hl.over I.xok hb
 have hF1:=FrW.of_below I.xok hb
 have rowS:Ae [U zd 3,U zd vr,U zd ot,U zd ek,U zd en,O xa xl xc,O aa al ac,O ta tl tc,O ea el ec] ((W.alloc (ze #[U zd 3,U zd vr,U zd ot,U zd ek,U zd en,O xa xl xc,O aa al ac,O ta tl tc,O ea el ec] 130)).alloc (ze #[O p1 q1 r1,O p2 q2 r2] 50)) W.heap.size:=(Ae.new [U zd 3,U zd vr,U zd ot,U zd ek,U zd en,O xa xl xc,O aa al ac,O ta tl tc,O ea el ec] 130 W).over (bA _ _)
 have rowP:Ae [O p1 q1 r1,O p2 q2 r2] ((W.alloc (ze #[U zd 3,U zd vr,U zd ot,U zd ek,U zd en,O xa xl xc,O aa al ac,O ta tl tc,O ea el ec] 130)).alloc (ze #[O p1 q1 r1,O p2 q2 r2] 50)) (W.heap.size+1):=by
  have r:=Ae.new [O p1 q1 r1,O p2 q2 r2] 50 (W.alloc (ze #[U zd 3,U zd vr,U zd ot,U zd ek,U zd en,O xa xl xc,O aa al ac,O ta tl tc,O ea el ec] 130))
  simpa using r
 have xS:¬ X ((W.alloc (ze #[U zd 3,U zd vr,U zd ot,U zd ek,U zd en,O xa xl xc,O aa al ac,O ta tl tc,O ea el ec] 130)).alloc (ze #[O p1 q1 r1,O p2 q2 r2] 50)) W.heap.size:=fun h=>by have:=I.xlt _ _ hI _ (I.xok.below _ _ hb _ h);omega
 have xP:¬ X ((W.alloc (ze #[U zd 3,U zd vr,U zd ot,U zd ek,U zd en,O xa xl xc,O aa al ac,O ta tl tc,O ea el ec] 130)).alloc (ze #[O p1 q1 r1,O p2 q2 r2] 50)) (W.heap.size+1):=fun h=>by have:=I.xlt _ _ hI _ (I.xok.below _ _ hb _ h);omega
 have hBe:=I.below _ _ hI1
 have hlv:=I.levs _ _ hI1
 have KW:=Aa (DU c I.n1 I.n6 gs (lev st) X I.xok _ p K [U zd ek,U zd en,O xa xl xc] (AV d) _ (Af I.gr hBe) I.chk hlv.1 hl1 (by rw [hlv.2];exact I.nv16) (I.xlt _ _ hI1) (hX.over hBe) (by rw [hlv.2];exact BD hok))
 have KV:=Aa (fun (st:σ) (W:World) (v:Value) (l:Lev) (i:Int)=>EX (s:=s) I flow hC hfl vs hvs hnv st W v l i)
 obtain ⟨t0,t1,t2,t3,t4,t5,t6,t7,t8,t9⟩:=Cd hB1.row
 obtain ⟨g0,g1,g2,g3,g4,g5,g6,g7,g8⟩:=rc9 rowS
 obtain ⟨u0,u1⟩:=rc2 rowP
 have HI:=Aa I
 have HI1:=Aa hI1
 have HB1:=Aa hB1
 have HL1:=Aa hl1
 have HF1:=Aa hF1
 have HRS:=Aa rowS
 have HRP:=Aa rowP
 have HXS:=Aa xS
 have HXP:=Aa xP
 have HOK:=Aa hok
 have HFL:=Aa hfl.o
 have HFS:=Aa hfs
 have HOF:=Aa hof
 have HA:=Aa hA
 have HLC:=Aa hlc
 have hj0:0<=ot/\ot < ni:=by rw [hot];exact hok.2.2.2.1 hk
 obtain ⟨j,hj⟩:∃ j:Nat,ot=(j:Int):=⟨ot.toNat,by omega⟩
 have hj1:j < ls.length:=by omega
 obtain ⟨hym,ya',yc',hye,hyc⟩:=hls
 injection hye with y1 y2 y3
 obtain ⟨b3,z3,hyo,hyel⟩:=hyc (by intro h;rw [h] at hj1;simp at hj1)
 obtain ⟨pr,pw,l0,l1,hpr,hpw⟩:=hyel j hj1
 have hya:c.ya=some ⟨b3,z3,none⟩:=y1.trans hyo
 obtain ⟨a1,a2,a3,rfl⟩:=AO hpr
 obtain ⟨a4,a5,a6,rfl⟩:=AO hpw
 have L0:=Aa l0
 have L1:=Aa l1
 have hyn:j < c.yn:=by omega
 have hyn5:c.yn<=5:=by omega
 have hgj:(ls.map (AA (AD gs) c.n)).getD ot.toNat AE=AA (AD gs) c.n ls[j]:=by rw [hj];simp [List.getD_eq_getElem?_getD,hj1]
 have HGJ:=Aa hgj
 have HPR:=Aa hpr
 have HPW:=Aa hpw
 have HCK:=Aa (hlc _ (List.getElem_mem hj1))
 have hj2:(j:Int) < (c.yn:Int):=by omega
 have HJ:=Aa hj
 have HYA:=Aa hya
 clear hj hya hj0 hyc hyo hyel y1 y2 y3 hgj hpr hpw hym l0 l1
 clear hI1 hB1 hl1 hF1 rowS rowP xS xP hBe hlv hvr hot hal htl hel hb hrs hX hA hT hE hI hB hl hfl hvs hok hfs hof hlc I
 go_enter Tryz.func116,Tryz.ntmps116
 go_wp2_with fail
 refine (KW.o).mono ?_
 rintro e W3 ⟨⟨o1,o2,o3,o4,o5,o6,rfl,hL3⟩,hb3⟩
 have hb34:=bA W3 (ze #[O o1 o2 o3,O o4 o5 o6] 50)
 have hb14:=Ac hb3 hb34
 have hI4:=HI.o.over _ _ _ HI1.o hb14
 have hI3:=HI.o.over _ _ _ HI1.o hb3
 have hB4:=HB1.o.over HI.o.xok hb14
 have hL4:=hL3.over HI.o.xok hb34
 have hP4:=HL1.o.over HI.o.xok hb14
 have rowA:=Ae.new [O o1 o2 o3,O o4 o5 o6] 50 W3
 have rowS:=HRS.o.over hb14
 have rowP:=HRP.o.over hb14
 have xS:¬ X (W3.alloc (ze #[O o1 o2 o3,O o4 o5 o6] 50)) W.heap.size:=fun h=>HXS.o (HI.o.xok.below _ _ hb14 _ h)
 have xP:¬ X (W3.alloc (ze #[O o1 o2 o3,O o4 o5 o6] 50)) (W.heap.size+1):=fun h=>HXP.o (HI.o.xok.below _ _ hb14 _ h)
 have xA:¬ X (W3.alloc (ze #[O o1 o2 o3,O o4 o5 o6] 50)) W3.heap.size:=fun h=>by have:=HI.o.xlt _ _ hI3 _ (HI.o.xok.below _ _ hb34 _ h);omega
 have hF4:=HF1.o.trans (FrW.of_below HI.o.xok hb14)
 have HI4:=Aa hI4
 have HB4:=Aa hB4
 have HL4:=Aa hL4
 have HP4:=Aa hP4
 have HF4:=Aa hF4
 have HRS4:=Aa rowS
 have HRP4:=Aa rowP
 have HRA4:=Aa rowA
 have HXS4:=Aa xS
 have HXP4:=Aa xP
 have HXA4:=Aa xA
 clear t0 t1 t2 t3 t4 t5 t6 t7 t8 t9 g0 g1 g2 g3 g4 g5 g6 g7 g8 u0 u1 hb3 hb34 hb14 hL3 hI4 hI3 hB4 hL4 hP4 hF4 rowA rowS rowP xS xP xA KW HI1 HB1 HL1 HF1 HRS HRP HXS HXP
 obtain ⟨t0,t1,t2,t3,t4,t5,t6,t7,t8,t9⟩:=Cd HB4.o.row
 obtain ⟨g0,g1,g2,g3,g4,g5,g6,g7,g8⟩:=rc9 HRS4.o
 obtain ⟨u0,u1⟩:=rc2 HRP4.o
 obtain ⟨y0,y1⟩:=rc2 HRA4.o
 have tv:=HB4.o.toVar
 have fl:=HB4.o.flow
 have hB0:=HI.o.below _ _ HI4.o
 have l0:=Ab hB0 _ _ L0.o
 have l1:=Ab hB0 _ _ L1.o
 have hgr:=Af HI.o.gr hB0
 have KL:=Aa fun (W5:World) (hb5:Ov (W3.alloc (ze #[O o1 o2 o3,O o4 o5 o6] 50)) W5)=>Hd (c.n:Int) c.ga c.gn c.gc c.sa c.sn c.sc (some ⟨b3,z3,none⟩) c.yn c.yc c.oa c.on c.oc c.va c.vn c.vc c.fa c.fn c.fc c.ba c.bn c.bc c.la c.ln c.lc c.ka c.kn c.kc gs _ _ ls[j] W5 (Af hgr hb5) (Ai (Ai HPR.o hB0) hb5) (Ai (Ai HPW.o hB0) hb5) HCK.o
 have KJ:=Aa fun (W5:World) (hb5:Ov (W3.alloc (ze #[O o1 o2 o3,O o4 o5 o6] 50)) W5) (kr kw:Value) (q:Lev) (hq:AY c.n X W5 (zh #[kr,kw]) q)=>J3 (c.n:Int) c.ga c.gn c.gc c.sa c.sn c.sc (some ⟨b3,z3,none⟩) c.yn c.yc c.oa c.on c.oc c.va c.vn c.vc c.fa c.fn c.fc c.ba c.bn c.bc c.la c.ln c.lc c.ka c.kn c.kc gs (O p1 q1 r1) (O p2 q2 r2) kr kw p q W5 (Af hgr hb5) (Ag HP4.o.at_ hb5) hq.at_ (Di HI.o.chk HP4.o.len hq.len)
 rw [HYA.o] at t3
 obtain rfl:=HJ.o
 have hS0:H4 s c b3 z3 W p1 q1 r1 p2 q2 r2 vr j ek en xa xl xc aa al ac ta tl tc ea el ec a1 a2 a3 a4 a5 a6 (W3.alloc (ze #[O o1 o2 o3,O o4 o5 o6] 50)):=⟨t0,t1,t2,t3,t4,t5,t6,t7,t8,t9,tv,u0,u1,g0,g1,g2,g3,g4,g5,g6,g7,g8,l0,l1⟩
 clear hB0 hgr
 go_wp2_with fail
 refine gS (H4 s c b3 z3 W p1 q1 r1 p2 q2 r2 vr j ek en xa xl xc aa al ac ta tl tc ea el ec a1 a2 a3 a4 a5 a6) (hS0) fun hHeld=>?_
 refine kT 0 ?_
 refine kT 1 ?_
 refine kT 2 ?_
 refine kT 3 ?_
 refine kT 4 ?_
 refine kT 5 ?_
 refine kT 6 ?_
 refine kT 7 ?_
 refine kT 8 ?_
 refine kT 9 ?_
 refine kT 10 ?_
 refine kT 11 ?_
 refine kT 12 ?_
 refine kT 13 ?_
 refine kT 16 ?_
 refine kT 17 ?_
 refine rdA 14 rfl fun K hK=>?_
 go_simp
 refine (KL.o _ (bD _)).mono ?_
 rintro e W5 ⟨vj,rfl,hfr,hb5⟩
 have hbz:=Ac ((Below.refl _ (W3.alloc (ze #[O o1 o2 o3,O o4 o5 o6] 50))).drew) hb5
 obtain ⟨m1,m2,m3,m4,m5,m6,hvj⟩:∃ m1 m2 m3 m4 m5 m6,vj=zh #[O m1 m2 m3,O m4 m5 m6]:=by
  obtain ⟨x,y,e,-⟩:=Aq hfr
  subst e
  obtain ⟨z1,z2,z3,z4,z5,z6,rfl,rfl⟩:=AP (Aq hfr)
  exact ⟨_,_,_,_,_,_,rfl⟩
 subst hvj
 have hM5:AY c.n X W5 (zh #[O m1 m2 m3,O m4 m5 m6]) (AA (AD gs) c.n ls[j]):=⟨by have:=Aq hfr;simpa using this,⟨A5 _ _,A5 _ _⟩,Cz HI.o.xok hb5 (fun k hk=>HI.o.xlt _ _ HI4.o k (HI.o.xok.below _ _ (bD _) _ hk)) (BP hfr)⟩
 have hr0:=HB4.o.row.over hbz
 have hrp:=HRP4.o.over hbz
 have hrs:=HRS4.o.over hbz
 have hS5:H4 s c b3 z3 W p1 q1 r1 p2 q2 r2 vr j ek en xa xl xc aa al ac ta tl tc ea el ec a1 a2 a3 a4 a5 a6 W5:=⟨hr0 0 _ rfl,hr0 1 _ rfl,hr0 2 _ rfl,(by rw [<-HYA.o];exact hr0 3 _ rfl),hr0 4 _ rfl,hr0 5 _ rfl,hr0 6 _ rfl,hr0 7 _ rfl,hr0 8 _ rfl,hr0 9 _ rfl,Ab hbz _ _ tv,hrp 0 _ rfl,hrp 1 _ rfl,hrs 0 _ rfl,hrs 1 _ rfl,hrs 2 _ rfl,hrs 3 _ rfl,hrs 4 _ rfl,hrs 5 _ rfl,hrs 6 _ rfl,hrs 7 _ rfl,hrs 8 _ rfl,Ab hbz _ _ l0,Ab hbz _ _ l1⟩
 have HBZ5:=Aa hbz
 have HM5:=Aa hM5
 clear hr0 hrp hrs hM5 hfr hb5 hbz
 go_simp
 refine xK hK (hS5) fun hHeld=>?_
 refine rdA 15 rfl fun K hK=>?_
 go_simp
 refine (KJ.o W5 HBZ5.o _ _ _ HM5.o).mono ?_
 rintro e W6 ⟨vj,rfl,hfr,hb6⟩
 have hbz:=Ac HBZ5.o hb6
 obtain ⟨n1,n2,n3,n4,n5,n6,hvj⟩:∃ n1 n2 n3 n4 n5 n6,vj=zh #[O n1 n2 n3,O n4 n5 n6]:=by
  obtain ⟨x,y,e,-⟩:=Aq hfr
  subst e
  obtain ⟨z1,z2,z3,z4,z5,z6,rfl,rfl⟩:=AP (Aq hfr)
  exact ⟨_,_,_,_,_,_,rfl⟩
 subst hvj
 have hN6:AY c.n X W6 (zh #[O n1 n2 n3,O n4 n5 n6]) (Bs p (AA (AD gs) c.n ls[j]) c.n):=⟨by have:=Aq hfr;simpa using this,DG _ _ _,Cz HI.o.xok hb6 (fun k hk=>by have:=HI.o.xlt _ _ HI4.o k (HI.o.xok.below _ _ HBZ5.o _ hk);have:=HBZ5.o.size;omega) (BP hfr)⟩
 have hr0:=HB4.o.row.over hbz
 have hrp:=HRP4.o.over hbz
 have hrs:=HRS4.o.over hbz
 have hS6:H4 s c b3 z3 W p1 q1 r1 p2 q2 r2 vr j ek en xa xl xc aa al ac ta tl tc ea el ec a1 a2 a3 a4 a5 a6 W6:=⟨hr0 0 _ rfl,hr0 1 _ rfl,hr0 2 _ rfl,(by rw [<-HYA.o];exact hr0 3 _ rfl),hr0 4 _ rfl,hr0 5 _ rfl,hr0 6 _ rfl,hr0 7 _ rfl,hr0 8 _ rfl,hr0 9 _ rfl,Ab hbz _ _ tv,hrp 0 _ rfl,hrp 1 _ rfl,hrs 0 _ rfl,hrs 1 _ rfl,hrs 2 _ rfl,hrs 3 _ rfl,hrs 4 _ rfl,hrs 5 _ rfl,hrs 6 _ rfl,hrs 7 _ rfl,hrs 8 _ rfl,Ab hbz _ _ l0,Ab hbz _ _ l1⟩
 have HBZ6:=Aa hbz
 have HN6:=Aa hN6
 clear hr0 hrp hrs hN6 hfr hb6 hbz
 go_simp
 refine xK hK (hS6) fun hHeld=>?_
 refine rdA 18 rfl fun K hK=>?_
 go_simp
 refine (KV.o st W6 _ _ vr (HI.o.over _ _ _ HI4.o HBZ6.o) (HB4.o.over HI.o.xok HBZ6.o) HN6.o (by rw [HVR.o];exact (HOK.o.2.1 (by omega)).1) (by rw [HVR.o];exact (HOK.o.2.1 (by omega)).2)).mono ?_
 rintro e W7 ⟨rfl,hI7,hF7⟩
 have hF47:=(FrW.of_below HI.o.xok HBZ6.o).trans hF7
 have hr0:=hF47.row HB4.o.row HB4.o.x0
 have hrp:=hF47.row HRP4.o HXP4.o
 have hrs:=hF47.row HRS4.o HXS4.o
 have hS7:H4 s c b3 z3 W p1 q1 r1 p2 q2 r2 vr j ek en xa xl xc aa al ac ta tl tc ea el ec a1 a2 a3 a4 a5 a6 W7:=⟨hr0 0 _ rfl,hr0 1 _ rfl,hr0 2 _ rfl,(by rw [<-HYA.o];exact hr0 3 _ rfl),hr0 4 _ rfl,hr0 5 _ rfl,hr0 6 _ rfl,hr0 7 _ rfl,hr0 8 _ rfl,hr0 9 _ rfl,hF47.cell tv HB4.o.x2,hrp 0 _ rfl,hrp 1 _ rfl,hrs 0 _ rfl,hrs 1 _ rfl,hrs 2 _ rfl,hrs 3 _ rfl,hrs 4 _ rfl,hrs 5 _ rfl,hrs 6 _ rfl,hrs 7 _ rfl,hrs 8 _ rfl,Ab (HI.o.below _ _ hI7) _ _ L0.o,Ab (HI.o.below _ _ hI7) _ _ L1.o⟩
 clear hr0 hrp hrs
 go_simp
 refine xK hK (hS7) fun hHeld=>?_
 refine gE ?_
 go_end0
 refine ⟨rfl,⟨?_,HB4.o.keep hF47⟩,HF4.o.trans hF47⟩
 unfold BX
 rw [if_neg (by omega),if_neg (by omega),if_pos hk,<-HVR.o,<-HOT.o,HGJ.o]
 exact hI7
end
section
variable {σ:Type} {c:WC} {w0:World} {K nv ni no:Nat} {fs:List FnD} {gs:List (Int × Int)} {lev flev:σ->List Lev} {Inv:σ->World->Prop} {X:World->Nat->Prop} {s:Nat} {G:FuncId} {d1 d2:Value}
abbrev JT (s:Nat) (c:WC) (W:World) (p1:Option Addr) (q1 r1:Nat) (p2:Option Addr) (q2 r2:Nat) (vr:Int) (j:Nat) (ek en:Int) (xa:Option Addr) (xl xc b6 z6 al ac:Nat) (ta:Option Addr) (tl tc:Nat) (ea:Option Addr) (el ec m:Nat) (k1 k2:Int) (k3:Option Addr) (k4 k5:Nat) (Wz:World):Prop:=Wz.cell? ⟨s,0,none⟩=some (U zd (c.n:Int))/\CE Wz s 1 (O c.ga c.gn c.gc)/\CE Wz s 2 (O c.sa c.sn c.sc)/\CE Wz s 3 (O c.ya c.yn c.yc)/\CE Wz s 4 (O c.oa c.on c.oc)/\CE Wz s 5 (O c.va c.vn c.vc)/\CE Wz s 6 (O c.fa c.fn c.fc)/\CE Wz s 7 (O c.ba c.bn c.bc)/\CE Wz s 8 (O c.la c.ln c.lc)/\CE Wz s 9 (O c.ka c.kn c.kc)/\CE Wz (s+1+1) 0 (.func (.func 115) #[] #[zj (some ⟨s,0,none⟩),zj (some ⟨s+1,0,none⟩)])/\CE Wz (W.heap.size+1) 0 (O p1 q1 r1)/\CE Wz (W.heap.size+1) 1 (O p2 q2 r2)/\CE Wz W.heap.size 0 (U zd 2)/\CE Wz W.heap.size 1 (U zd vr)/\CE Wz W.heap.size 2 (U zd (j:Int))/\CE Wz W.heap.size 3 (U zd ek)/\CE Wz W.heap.size 4 (U zd en)/\CE Wz W.heap.size 5 (O xa xl xc)/\CE Wz W.heap.size 6 (O (some ⟨b6,z6,none⟩) al ac)/\CE Wz W.heap.size 7 (O ta tl tc)/\CE Wz W.heap.size 8 (O ea el ec)/\CE Wz b6 (z6+m*3) (U zd k1)/\CE Wz b6 (z6+m*3+1) (U zd k2)/\CE Wz b6 (z6+m*3+2) (O k3 k4 k5)
abbrev JS (s:Nat) (c:WC) (W:World) (p1:Option Addr) (q1 r1:Nat) (p2:Option Addr) (q2 r2:Nat) (vr:Int) (j:Nat) (ek en:Int) (xa:Option Addr) (xl xc:Nat) (aa:Option Addr) (al ac:Nat) (ta:Option Addr) (tl tc:Nat) (ea:Option Addr) (el ec:Nat) (W3:World) (pa:Option Addr) (pn pc:Nat) (za:Option Addr) (zn zc:Nat) (rk rn:Int) (ra:Option Addr) (rl rc:Nat) (Wz:World):Prop:=Wz.cell? ⟨s,0,none⟩=some (U zd (c.n:Int))/\CE Wz s 1 (O c.ga c.gn c.gc)/\CE Wz s 2 (O c.sa c.sn c.sc)/\CE Wz s 3 (O c.ya c.yn c.yc)/\CE Wz s 4 (O c.oa c.on c.oc)/\CE Wz s 5 (O c.va c.vn c.vc)/\CE Wz s 6 (O c.fa c.fn c.fc)/\CE Wz s 7 (O c.ba c.bn c.bc)/\CE Wz s 8 (O c.la c.ln c.lc)/\CE Wz s 9 (O c.ka c.kn c.kc)/\CE Wz (s+1+1) 0 (.func (.func 115) #[] #[zj (some ⟨s,0,none⟩),zj (some ⟨s+1,0,none⟩)])/\CE Wz (W.heap.size+1) 0 (O p1 q1 r1)/\CE Wz (W.heap.size+1) 1 (O p2 q2 r2)/\CE Wz W.heap.size 0 (U zd 2)/\CE Wz W.heap.size 1 (U zd vr)/\CE Wz W.heap.size 2 (U zd (j:Int))/\CE Wz W.heap.size 3 (U zd ek)/\CE Wz W.heap.size 4 (U zd en)/\CE Wz W.heap.size 5 (O xa xl xc)/\CE Wz W.heap.size 6 (O aa al ac)/\CE Wz W.heap.size 7 (O ta tl tc)/\CE Wz W.heap.size 8 (O ea el ec)/\CE Wz (W3.heap.size+1) 0 (O pa pn pc)/\CE Wz (W3.heap.size+1) 1 (O za zn zc)/\CE Wz (W3.heap.size+1) 2 (U zd rk)/\CE Wz (W3.heap.size+1) 3 (U zd rn)/\CE Wz (W3.heap.size+1) 4 (O ra rl rc)
abbrev Lo (s:Nat) (c:WC) (b9 z9:Nat) (G:FuncId) (d1 d2:Value) (W:World) (p1:Option Addr) (q1 r1:Nat) (p2:Option Addr) (q2 r2:Nat) (vr:Int) (j:Nat) (ek en:Int) (xa:Option Addr) (xl xc:Nat) (aa:Option Addr) (al ac:Nat) (ta:Option Addr) (tl tc:Nat) (ea:Option Addr) (el ec:Nat) (Wz:World):Prop:=Wz.cell? ⟨s,0,none⟩=some (U zd (c.n:Int))/\CE Wz s 1 (O c.ga c.gn c.gc)/\CE Wz s 2 (O c.sa c.sn c.sc)/\CE Wz s 3 (O c.ya c.yn c.yc)/\CE Wz s 4 (O c.oa c.on c.oc)/\CE Wz s 5 (O c.va c.vn c.vc)/\CE Wz s 6 (O c.fa c.fn c.fc)/\CE Wz s 7 (O c.ba c.bn c.bc)/\CE Wz s 8 (O c.la c.ln c.lc)/\CE Wz s 9 (O (some ⟨b9,z9,none⟩) c.kn c.kc)/\CE Wz (s+1) 0 (.func (.func G) #[] #[d1,d2])/\CE Wz (W.heap.size+1) 0 (O p1 q1 r1)/\CE Wz (W.heap.size+1) 1 (O p2 q2 r2)/\CE Wz W.heap.size 0 (U zd 2)/\CE Wz W.heap.size 1 (U zd vr)/\CE Wz W.heap.size 2 (U zd (j:Int))/\CE Wz W.heap.size 3 (U zd ek)/\CE Wz W.heap.size 4 (U zd en)/\CE Wz W.heap.size 5 (O xa xl xc)/\CE Wz W.heap.size 6 (O aa al ac)/\CE Wz W.heap.size 7 (O ta tl tc)/\CE Wz W.heap.size 8 (O ea el ec)
theorem O0 (I:Eg c w0 nv fs gs lev flev Inv X) (flow:Lev->Bool × Nat->σ->σ) (hC:∀ (args:Array Value) (w:World),(callFunc G args).run Tryz.prog w=.ok (.enter G args) w) (hfl:Hx (Df c nv fs Inv X flow G d1 d2)) (vs) (hvs:Br w0 (O c.va c.vn c.vc) vs) (hnv:vs.length=nv)
  (ls:List Lab) (hls:Bb w0 (O c.ya c.yn c.yc) ls) (hlc:∀ b∈ls,Bo c.n gs b=0) (hni:ls.length=ni) (hni5:ni<=5) (kf:Nat) (hfs:BC w0 K kf (O c.fa c.fn c.fc) fs) (hf5:fs.length<=5) (hof:∀ i (h:i < fs.length),okF K nv ni no (i:Int) fs kf fs[i])
  (st:σ) (W:World) (a:Int) (k:Nat) (cs:List Value) (d:D) (v:Value) (p:Lev) (funcs:Int) (hI:Inv st W) (hB:BK c X s G d1 d2 W) (hrs:RS w0 K (k+1) cs d) (hfn:funcs<=fs.length) (hok:CJ K nv ni no funcs fs d) (hl:AY c.n X W v p) (hk:Am d=2) :
  Calls Tryz.prog 116 #[U zd a,.agg cs.toArray,v,zj (some ⟨s,0,none⟩),zj (some ⟨s+1+1,0,none⟩),zj (some ⟨s+1,0,none⟩)] W fun e W'=>e=zk (zm #[])/\(Inv (BX c.n K lev (vs.map Prod.fst) (ls.map (AA (AD gs) c.n)) fs flow a d p st) W'/\BK c X s G d1 d2 W')/\FrW X W W':=by
 obtain ⟨p1,q1,r1,p2,q2,r2,rfl⟩:=hl.form
 obtain ⟨ek,en,xa,xl,xc,aa,ac,ta,tc,ea,ec,rfl,i0,i1,i2,hX,hA,hT,hE,-,-,-⟩:=hrs.form
 obtain ⟨vr,hvr⟩:=nm (AK d)
 obtain ⟨ot,hot⟩:=nm (Ah d)
 obtain ⟨al,hal⟩:=nm ((Ap d).length)
 obtain ⟨tl,htl⟩:=nm ((Av d).length)
 obtain ⟨el,hel⟩:=nm ((Ax d).length)
 have hkd:sC (Am d) (AK d) (Ah d) ek en xa xl xc aa (Ap d).length ac ta (Av d).length tc ea (Ax d).length ec=sC 2 (AK d) (Ah d) ek en xa xl xc aa (Ap d).length ac ta (Av d).length tc ea (Ax d).length ec:=by rw [hk]
 rw [hkd]
 clear hkd
 rw [<-hvr,<-hot,<-hal,<-htl,<-hel]
 have HVR:=Aa hvr
 have HOT:=Aa hot
 have HAL:=Aa hal
 have hb:Ov W ((W.alloc (ze #[U zd 2,U zd vr,U zd ot,U zd ek,U zd en,O xa xl xc,O aa al ac,O ta tl tc,O ea el ec] 130)).alloc (ze #[O p1 q1 r1,O p2 q2 r2] 50)):=(bA W _).alloc (by simp) _
 have hI1:=I.over _ _ _ hI hb
 have hB1:=hB.over I.xok hb
 have hl1:=hl.over I.xok hb
 have hF1:=FrW.of_below I.xok hb
 have rowS:Ae [U zd 2,U zd vr,U zd ot,U zd ek,U zd en,O xa xl xc,O aa al ac,O ta tl tc,O ea el ec] ((W.alloc (ze #[U zd 2,U zd vr,U zd ot,U zd ek,U zd en,O xa xl xc,O aa al ac,O ta tl tc,O ea el ec] 130)).alloc (ze #[O p1 q1 r1,O p2 q2 r2] 50)) W.heap.size:=(Ae.new [U zd 2,U zd vr,U zd ot,U zd ek,U zd en,O xa xl xc,O aa al ac,O ta tl tc,O ea el ec] 130 W).over (bA _ _)
 have rowP:Ae [O p1 q1 r1,O p2 q2 r2] ((W.alloc (ze #[U zd 2,U zd vr,U zd ot,U zd ek,U zd en,O xa xl xc,O aa al ac,O ta tl tc,O ea el ec] 130)).alloc (ze #[O p1 q1 r1,O p2 q2 r2] 50)) (W.heap.size+1):=by
  have r:=Ae.new [O p1 q1 r1,O p2 q2 r2] 50 (W.alloc (ze #[U zd 2,U zd vr,U zd ot,U zd ek,U zd en,O xa xl xc,O aa al ac,O ta tl tc,O ea el ec] 130))
  simpa using r
 have xS:¬ X ((W.alloc (ze #[U zd 2,U zd vr,U zd ot,U zd ek,U zd en,O xa xl xc,O aa al ac,O ta tl tc,O ea el ec] 130)).alloc (ze #[O p1 q1 r1,O p2 q2 r2] 50)) W.heap.size:=fun h=>by have:=I.xlt _ _ hI _ (I.xok.below _ _ hb _ h);omega
 have xP:¬ X ((W.alloc (ze #[U zd 2,U zd vr,U zd ot,U zd ek,U zd en,O xa xl xc,O aa al ac,O ta tl tc,O ea el ec] 130)).alloc (ze #[O p1 q1 r1,O p2 q2 r2] 50)) (W.heap.size+1):=fun h=>by have:=I.xlt _ _ hI _ (I.xok.below _ _ hb _ h);omega
 have hBe:=I.below _ _ hI1
 have hlv:=I.levs _ _ hI1
 have KW:=Aa (DU c I.n1 I.n6 gs (lev st) X I.xok _ p K [U zd ek,U zd en,O xa xl xc] (AV d) _ (Af I.gr hBe) I.chk hlv.1 hl1 (by rw [hlv.2];exact I.nv16) (I.xlt _ _ hI1) (hX.over hBe) (by rw [hlv.2];exact BD hok))
 have KV:=Aa (fun (st:σ) (W:World) (v:Value) (l:Lev) (i:Int)=>EX (s:=s) I flow hC hfl vs hvs hnv st W v l i)
 obtain ⟨t0,t1,t2,t3,t4,t5,t6,t7,t8,t9⟩:=Cd hB1.row
 obtain ⟨g0,g1,g2,g3,g4,g5,g6,g7,g8⟩:=rc9 rowS
 obtain ⟨u0,u1⟩:=rc2 rowP
 have HI:=Aa I
 have HI1:=Aa hI1
 have HB1:=Aa hB1
 have HL1:=Aa hl1
 have HF1:=Aa hF1
 have HRS:=Aa rowS
 have HRP:=Aa rowP
 have HXS:=Aa xS
 have HXP:=Aa xP
 have HOK:=Aa hok
 have HFL:=Aa hfl.o
 have HOF:=Aa hof
 have HLS:=Aa hls
 have HA:=Aa hA
 have HLC:=Aa hlc
 obtain ⟨⟨hj0,hj1⟩,hps,hck⟩:=hok.2.2.1 hk
 rw [<-hot] at hj0 hj1 hps
 obtain ⟨j,hj⟩:∃ j:Nat,ot=(j:Int):=⟨ot.toNat,by omega⟩
 have hj2:j < fs.length:=by omega
 have hjt:ot.toNat=j:=by omega
 have hpsl:fs[j].ps.length=(Ap d).length:=hps fs[j] (by rw [hjt];exact List.getElem?_eq_getElem hj2)
 have hfat:EP fs (Ah d)=fs[j]:=by rw [<-hot];unfold EP;rw [hjt];simp [List.getD_eq_getElem?_getD,hj2]
 obtain ⟨hfm,fa',fc',hfe,hfc⟩:=hfs
 injection hfe with y1 y2 y3
 obtain ⟨b8,z8,hfo,hfel⟩:=hfc (by intro h;rw [h] at hj2;simp at hj2)
 obtain ⟨vP,vB,e0,e1,e2,g80,g81,g82,g83,g84,hints,-,hbody,hres⟩:=hfel j hj2
 have hfa:c.fa=some ⟨b8,z8,none⟩:=y1.trans hfo
 obtain ⟨pa,pc,rfl,hpel⟩:=hints
 obtain ⟨-,za,zc,rfl,-⟩:=hbody
 obtain ⟨ra,rc,hxf⟩:=hres.form
 simp only [List.cons.injEq,and_true] at hxf
 obtain ⟨rfl,rfl,rfl⟩:=hxf
 obtain ⟨pn,hpn⟩:=nm (fs[j].ps.length)
 obtain ⟨zn,hzn⟩:=nm (fs[j].body.length)
 obtain ⟨rk,hrk⟩:=nm (AI fs[j].res)
 obtain ⟨rn,hrn⟩:=nm (Bc fs[j].res)
 obtain ⟨rl,hrl⟩:=nm ((AH fs[j].res).length)
 rw [<-hpn] at g80
 rw [<-hzn] at g81
 rw [<-hrk] at g82 hres
 rw [<-hrn] at g83 hres
 rw [<-hrl] at g84 hres
 have G0:=Aa g80
 have G1:=Aa g81
 have G2:=Aa g82
 have G3:=Aa g83
 have G4:=Aa g84
 have HFA:=Aa hfa
 have HJ:=Aa hj
 have HFAT:=Aa hfat
 have HPSL:=Aa hpsl
 have HPN:=Aa hpn
 have HPEL:=Aa hpel
 have HRES:=Aa hres
 have HCK:=Aa hck
 have hfo5:=hof j hj2
 have HPR:=Aa hfo5.2.1
 have HRC:=Aa hfo5.2.2.2
 have hfn5:c.fn<=5:=by omega
 have hjf:(j:Int) < (c.fn:Int):=by omega
 have hpn4:pn<=4:=by rw [hpn];exact hfo5.1
 have HJ2:=Aa hj2
 clear hj0 hj1 hps hck hj hpsl hfat hfc y1 y2 y3 hfo hfel g80 g81 g82 g83 g84 hfa hpel hres hpn hzn hrk hrn hrl hfo5 hjt hfm
 clear hI1 hB1 hl1 hF1 rowS rowP xS xP hBe hlv hvr hot hal htl hel hb hrs hX hA hT hE hI hB hl hfl hvs hok hof hls hlc I
 go_enter Tryz.func116,Tryz.ntmps116
 go_wp2_with fail
 refine (KW.o).mono ?_
 rintro e W3 ⟨⟨o1,o2,o3,o4,o5,o6,rfl,hL3⟩,hb3⟩
 have hb34:=bA W3 (ze #[O o1 o2 o3,O o4 o5 o6] 50)
 have hb14:=Ac hb3 hb34
 have hI4:=HI.o.over _ _ _ HI1.o hb14
 have hI3:=HI.o.over _ _ _ HI1.o hb3
 have hB4:=HB1.o.over HI.o.xok hb14
 have hL4:=hL3.over HI.o.xok hb34
 have hP4:=HL1.o.over HI.o.xok hb14
 have rowA:=Ae.new [O o1 o2 o3,O o4 o5 o6] 50 W3
 have rowS:=HRS.o.over hb14
 have rowP:=HRP.o.over hb14
 have xS:¬ X (W3.alloc (ze #[O o1 o2 o3,O o4 o5 o6] 50)) W.heap.size:=fun h=>HXS.o (HI.o.xok.below _ _ hb14 _ h)
 have xP:¬ X (W3.alloc (ze #[O o1 o2 o3,O o4 o5 o6] 50)) (W.heap.size+1):=fun h=>HXP.o (HI.o.xok.below _ _ hb14 _ h)
 have xA:¬ X (W3.alloc (ze #[O o1 o2 o3,O o4 o5 o6] 50)) W3.heap.size:=fun h=>by have:=HI.o.xlt _ _ hI3 _ (HI.o.xok.below _ _ hb34 _ h);omega
 have hF4:=HF1.o.trans (FrW.of_below HI.o.xok hb14)
 have HI4:=Aa hI4
 have HB4:=Aa hB4
 have HL4:=Aa hL4
 have HP4:=Aa hP4
 have HF4:=Aa hF4
 have HRS4:=Aa rowS
 have HRP4:=Aa rowP
 have HRA4:=Aa rowA
 have HXS4:=Aa xS
 have HXP4:=Aa xP
 have HXA4:=Aa xA
 clear t0 t1 t2 t3 t4 t5 t6 t7 t8 t9 g0 g1 g2 g3 g4 g5 g6 g7 g8 u0 u1 hb3 hb34 hb14 hL3 hI4 hI3 hB4 hL4 hP4 hF4 rowA rowS rowP xS xP xA KW HI1 HB1 HL1 HF1 HRS HRP HXS HXP
 obtain ⟨t0,t1,t2,t3,t4,t5,t6,t7,t8,t9⟩:=Cd HB4.o.row
 obtain ⟨g0,g1,g2,g3,g4,g5,g6,g7,g8⟩:=rc9 HRS4.o
 obtain ⟨u0,u1⟩:=rc2 HRP4.o
 obtain ⟨y0,y1⟩:=rc2 HRA4.o
 have tv:=HB4.o.toVar
 have fl:=HB4.o.flow
 have hB0:=HI.o.below _ _ HI4.o
 have m0:=Ab hB0 _ _ G0.o
 have m1:=Ab hB0 _ _ G1.o
 have m2:=Ab hB0 _ _ G2.o
 have m3:=Ab hB0 _ _ G3.o
 have m4:=Ab hB0 _ _ G4.o
 rw [HFA.o] at t6
 obtain rfl:=HJ.o
 clear hB0
 have hb5:Ov (W3.alloc (ze #[O o1 o2 o3,O o4 o5 o6] 50)) ((W3.alloc (ze #[O o1 o2 o3,O o4 o5 o6] 50)).alloc (ze #[O pa pn pc,O za zn zc,U zd rk,U zd rn,O ra rl rc] 105)):=bA _ _
 have rowF:Ae [O pa pn pc,O za zn zc,U zd rk,U zd rn,O ra rl rc] ((W3.alloc (ze #[O o1 o2 o3,O o4 o5 o6] 50)).alloc (ze #[O pa pn pc,O za zn zc,U zd rk,U zd rn,O ra rl rc] 105)) (W3.heap.size+1):=by
  have r:=Ae.new [O pa pn pc,O za zn zc,U zd rk,U zd rn,O ra rl rc] 105 (W3.alloc (ze #[O o1 o2 o3,O o4 o5 o6] 50))
  simpa using r
 have xF:¬ X ((W3.alloc (ze #[O o1 o2 o3,O o4 o5 o6] 50)).alloc (ze #[O pa pn pc,O za zn zc,U zd rk,U zd rn,O ra rl rc] 105)) (W3.heap.size+1):=fun h=>by have:=HI.o.xlt _ _ HI4.o _ (HI.o.xok.below _ _ hb5 _ h);simp at this
 have HRF:=Aa rowF
 have HXF:=Aa xF
 have HI5:=Aa (HI.o.over _ _ _ HI4.o hb5)
 have HB5:=Aa (HB4.o.over HI.o.xok hb5)
 have HP5:=Aa (HP4.o.over HI.o.xok hb5)
 have HF5:=Aa (HF4.o.trans (FrW.of_below HI.o.xok hb5))
 have HRS5:=Aa (HRS4.o.over hb5)
 have HRP5:=Aa (HRP4.o.over hb5)
 have HXS5:Hx (¬ X ((W3.alloc (ze #[O o1 o2 o3,O o4 o5 o6] 50)).alloc (ze #[O pa pn pc,O za zn zc,U zd rk,U zd rn,O ra rl rc] 105)) W.heap.size):=fun h=>HXS4.o (HI.o.xok.below _ _ hb5 _ h)
 have HXP5:Hx (¬ X ((W3.alloc (ze #[O o1 o2 o3,O o4 o5 o6] 50)).alloc (ze #[O pa pn pc,O za zn zc,U zd rk,U zd rn,O ra rl rc] 105)) (W.heap.size+1)):=fun h=>HXP4.o (HI.o.xok.below _ _ hb5 _ h)
 have f0:=HRF.o 0 _ rfl
 obtain ⟨V5,hV5⟩:=nm (((W3.alloc (ze #[O o1 o2 o3,O o4 o5 o6] 50)).alloc (ze #[O pa pn pc,O za zn zc,U zd rk,U zd rn,O ra rl rc] 105)))
 rw [<-hV5] at HRF HXF HI5 HB5 HP5 HF5 HRS5 HRP5 HXS5 HXP5
 obtain ⟨Q,hQ⟩:∃ Q:Nat->σ,Q=fun m=>(((fs[j]'HJ2.o).ps.zip (Ap d)).take m).foldl (CF c.n K lev (vs.map Prod.fst) flow p) st:=⟨_,rfl⟩
 have HQ:=Aa hQ
 have HQ0:Hx (Q 0=st):=by rw [hQ];rfl
 have hfnb:(j:Int) < (c.fn:Int):=hjf
 clear hQ hb5 rowF xF HI4 HB4 HP4 HF4 HRS4 HRP4 HXS4 HXP4 HRA4 HXA4 HL4 tv fl
 go_wp2_with fail
 go_loopw [41] (fun x wr=>∃ m:Nat,m<=pn/\x=U zd m/\(Inv (Q m) wr/\BK c X s G d1 d2 wr)/\FrW X V5 wr) (fun x _=>pn - (intOf x).toNat)
 case atStart=>exact ⟨0,Nat.zero_le _,rfl,by rw [<-hV5,HQ0.o];exact ⟨HI5.o,HB5.o⟩,by rw [<-hV5];exact FrW.refl _⟩
 case round=>
  clear t0 t1 t2 t3 t4 t5 t6 t7 t8 t9 g0 g1 g2 g3 g4 g5 g6 g7 g8 u0 u1 y0 y1 m0 m1 m2 m3 m4 f0 hV5
  obtain ⟨m,hm,rfl,⟨hIr,hBr⟩,hFr⟩:=hrel
  have HIr:=Aa hIr
  have HBr:=Aa hBr
  have HFr:=Aa hFr
  have HBe:=Aa (HI.o.below _ _ hIr)
  have HRSr:=Aa (hFr.row HRS5.o HXS5.o)
  have HRPr:=Aa (hFr.row HRP5.o HXP5.o)
  have HRFr:=Aa (hFr.row HRF.o HXF.o)
  have HXSr:Hx (¬ X wr W.heap.size):=fun h=>HXS5.o (hFr.mov _ (bL (HRS5.o 0 _ rfl)) h)
  have HXPr:Hx (¬ X wr (W.heap.size+1)):=fun h=>HXP5.o (hFr.mov _ (bL (HRP5.o 0 _ rfl)) h)
  have HXFr:Hx (¬ X wr (W3.heap.size+1)):=fun h=>HXF.o (hFr.mov _ (bL (HRF.o 0 _ rfl)) h)
  have HPr:=Aa (HP5.o.keep HI.o.n1 hFr)
  have hlv:=HI.o.levs _ _ hIr
  clear hIr hBr hFr
  by_cases hlt:m < pn
  ·have hm1:m < (fs[j]'HJ2.o).ps.length:=by rw [<-HPN.o];exact hlt
   have hm2:m < (Ap d).length:=by rw [<-HPSL.o];exact hm1
   obtain ⟨bp,zp,hpo,hpe⟩:=HPEL.o (by intro h;rw [h] at hm1;simp at hm1)
   subst hpo
   have q0:=Ab HBe.o _ _ (hpe m hm1)
   obtain ⟨vm,hvm⟩:=nm ((fs[j]'HJ2.o).ps[m])
   rw [<-hvm] at q0
   have HVM:=Aa (HPR.o vm (by rw [hvm];exact List.getElem_mem hm1))
   obtain ⟨ham,aa',ac',hae,hac⟩:=HA.o
   injection hae with x1 x2 x3
   obtain ⟨b6,z6,hao,hael⟩:=hac (by intro h;rw [h] at hm2;simp at hm2)
   obtain ⟨acs,hal3,hacs,har⟩:=hael m (Ap d)[m] (List.getElem?_eq_getElem hm2)
   obtain ⟨k3,k5,rfl⟩:=har.form
   obtain ⟨k1,hk1⟩:=nm (AI (Ap d)[m])
   obtain ⟨k2,hk2⟩:=nm (Bc (Ap d)[m])
   obtain ⟨k4,hk4⟩:=nm ((AH (Ap d)[m]).length)
   rw [<-hk1,<-hk2,<-hk4] at hacs har
   have HAA:=Aa (x1.trans hao)
   have L0:=Aa (show w0.cell? ⟨b6,z6+m*3,none⟩=some (U zd k1) from hacs 0 _ rfl)
   have L1:=Aa (hacs 1 _ rfl)
   have L2:=Aa (hacs 2 _ rfl)
   have l0:=Ab HBe.o _ _ L0.o
   have l1:=Ab HBe.o _ _ L1.o
   have l2:=Ab HBe.o _ _ L2.o
   have hal2:m < al:=by rw [HAL.o];exact hm2
   have hal4:al<=4:=by rw [HAL.o,<-HPSL.o,<-HPN.o];exact hpn4
   have hma:(m:Int) < (al:Int):=by omega
   have hmp:(m:Int) < (pn:Int):=by omega
   have hQS:Q (m+1)=toVar (vs.map Prod.fst) flow (AZ c.n (lev (Q m)) p (AF K (Ap d)[m])) vm (Q m):=by
    rw [HQ.o]
    dsimp only
    have hz:m < ((fs[j]'HJ2.o).ps.zip (Ap d)).length:=by simp;omega
    rw [List.take_succ_eq_append_getElem hz,List.foldl_append,List.foldl_cons,List.foldl_nil]
    simp only [CF,List.getElem_zip]
    rw [hvm]
   have HQS:=Aa hQS
   have KWA:=Aa (DU c HI.o.n1 HI.o.n6 gs (lev (Q m)) X HI.o.xok _ p K [U zd k1,U zd k2,O k3 k4 k5] (Ap d)[m] wr.drew (Af HI.o.gr HBe.o.drew) HI.o.chk (hlv.1.over HI.o.xok (bD _)) (HPr.o.over HI.o.xok (bD _)) (by rw [hlv.2];exact HI.o.nv16) (fun k hk=>HI.o.xlt _ _ HIr.o k (HI.o.xok.below _ _ (bD _) _ hk)) (har.over HBe.o.drew) (by rw [hlv.2];exact CO (HCK.o _ (List.getElem_mem hm2))))
   obtain ⟨t0,t1,t2,t3,t4,t5,t6,t7,t8,t9⟩:=Cd HBr.o.row
   obtain ⟨g0,g1,g2,g3,g4,g5,g6,g7,g8⟩:=rc9 HRSr.o
   obtain ⟨u0,u1⟩:=rc2 HRPr.o
   have tv:=HBr.o.toVar
   rw [HAA.o] at g6
   have hS0:JT s c W p1 q1 r1 p2 q2 r2 vr j ek en xa xl xc b6 z6 al ac ta tl tc ea el ec m k1 k2 k3 k4 k5 wr:=⟨t0,t1,t2,t3,t4,t5,t6,t7,t8,t9,tv,u0,u1,g0,g1,g2,g3,g4,g5,g6,g7,g8,l0,l1,l2⟩
   clear hpe hvm ham hac x1 x2 x3 hao hael hacs har hal3 hk1 hk2 hk4 hlv hQS hm1
   go_wp2_with fail
   refine gS (JT s c W p1 q1 r1 p2 q2 r2 vr j ek en xa xl xc b6 z6 al ac ta tl tc ea el ec m k1 k2 k3 k4 k5) (hS0) fun hHeld=>?_
   refine kT 0 ?_
   refine kT 1 ?_
   refine kT 2 ?_
   refine kT 3 ?_
   refine kT 4 ?_
   refine kT 5 ?_
   refine kT 6 ?_
   refine kT 7 ?_
   refine kT 8 ?_
   refine kT 10 ?_
   refine rdA 9 rfl fun K hK=>?_
   go_simp
   refine (KWA.o).mono ?_
   rintro e W6 ⟨⟨n1,n2,n3,n4,n5,n6,rfl,hN6⟩,hb6⟩
   have hbz:=Ac (bD wr) hb6
   have hr0:=HBr.o.row.over hbz
   have hrp:=HRPr.o.over hbz
   have hrs:=HRSr.o.over hbz
   have hS6:JT s c W p1 q1 r1 p2 q2 r2 vr j ek en xa xl xc b6 z6 al ac ta tl tc ea el ec m k1 k2 k3 k4 k5 W6:=⟨hr0 0 _ rfl,hr0 1 _ rfl,hr0 2 _ rfl,hr0 3 _ rfl,hr0 4 _ rfl,hr0 5 _ rfl,hr0 6 _ rfl,hr0 7 _ rfl,hr0 8 _ rfl,hr0 9 _ rfl,Ab hbz _ _ tv,hrp 0 _ rfl,hrp 1 _ rfl,hrs 0 _ rfl,hrs 1 _ rfl,hrs 2 _ rfl,hrs 3 _ rfl,hrs 4 _ rfl,hrs 5 _ rfl,(by rw [<-HAA.o];exact hrs 6 _ rfl),hrs 7 _ rfl,hrs 8 _ rfl,Ab (Ac HBe.o hbz) _ _ L0.o,Ab (Ac HBe.o hbz) _ _ L1.o,Ab (Ac HBe.o hbz) _ _ L2.o⟩
   have HBZ6:=Aa hbz
   have HN6:=Aa hN6
   clear hr0 hrp hrs hN6 hb6 hbz
   go_simp
   refine xK hK (hS6) fun hHeld=>?_
   refine rdA 11 rfl fun K hK=>?_
   go_simp
   refine (KV.o (Q m) W6 _ _ vm (HI.o.over _ _ _ HIr.o HBZ6.o) (HBr.o.over HI.o.xok HBZ6.o) HN6.o HVM.o.1 HVM.o.2).mono ?_
   rintro e W7 ⟨rfl,hI7,hF7⟩
   have hF47:=(FrW.of_below HI.o.xok HBZ6.o).trans hF7
   have hr0:=hF47.row HBr.o.row HBr.o.x0
   have hrp:=hF47.row HRPr.o HXPr.o
   have hrs:=hF47.row HRSr.o HXSr.o
   have hS7:JT s c W p1 q1 r1 p2 q2 r2 vr j ek en xa xl xc b6 z6 al ac ta tl tc ea el ec m k1 k2 k3 k4 k5 W7:=⟨hr0 0 _ rfl,hr0 1 _ rfl,hr0 2 _ rfl,hr0 3 _ rfl,hr0 4 _ rfl,hr0 5 _ rfl,hr0 6 _ rfl,hr0 7 _ rfl,hr0 8 _ rfl,hr0 9 _ rfl,hF47.cell tv HBr.o.x2,hrp 0 _ rfl,hrp 1 _ rfl,hrs 0 _ rfl,hrs 1 _ rfl,hrs 2 _ rfl,hrs 3 _ rfl,hrs 4 _ rfl,hrs 5 _ rfl,(by rw [<-HAA.o];exact hrs 6 _ rfl),hrs 7 _ rfl,hrs 8 _ rfl,Ab (HI.o.below _ _ hI7) _ _ L0.o,Ab (HI.o.below _ _ hI7) _ _ L1.o,Ab (HI.o.below _ _ hI7) _ _ L2.o⟩
   clear hr0 hrp hrs
   go_simp
   refine xK hK (hS7) fun hHeld=>?_
   refine gE ?_
   have HI7:=Aa hI7
   have HB7:=Aa (HBr.o.keep hF47)
   have HF7:=Aa (HFr.o.trans hF47)
   clear hS7 hS6 hS0 hI7 hF7 hF47 t0 t1 t2 t3 t4 t5 t6 t7 t8 t9 g0 g1 g2 g3 g4 g5 g6 g7 g8 u0 u1 l0 l1 l2 tv q0
   go_wp2_with fail
   refine ⟨⟨m+1,by omega,by go_num,⟨by rw [HQS.o];exact HI7.o,HB7.o⟩,HF7.o⟩,by simp [intOf];omega⟩
  ·have hmn:m=pn:=by omega
   have KWA:=Aa (DU c HI.o.n1 HI.o.n6 gs (lev (Q m)) X HI.o.xok _ p K [U zd rk,U zd rn,O ra rl rc] (fs[j]'HJ2.o).res wr.drew (Af HI.o.gr HBe.o.drew) HI.o.chk (hlv.1.over HI.o.xok (bD _)) (HPr.o.over HI.o.xok (bD _)) (by rw [hlv.2];exact HI.o.nv16) (fun k hk=>HI.o.xlt _ _ HIr.o k (HI.o.xok.below _ _ (bD _) _ hk)) (HRES.o.over HBe.o.drew) (by rw [hlv.2];exact CO HRC.o))
   have HQM:Hx (Q m=((fs[j]'HJ2.o).ps.zip (Ap d)).foldl (CF c.n K lev (vs.map Prod.fst) flow p) st):=by
    rw [HQ.o]
    dsimp only
    rw [List.take_of_length_le (by simp;have:=HPN.o;omega)]
    rfl
   obtain ⟨t0,t1,t2,t3,t4,t5,t6,t7,t8,t9⟩:=Cd HBr.o.row
   obtain ⟨g0,g1,g2,g3,g4,g5,g6,g7,g8⟩:=rc9 HRSr.o
   obtain ⟨u0,u1⟩:=rc2 HRPr.o
   obtain ⟨f0,f1,f2,f3,f4⟩:=rc5 HRFr.o
   have tv:=HBr.o.toVar
   have hS0:JS s c W p1 q1 r1 p2 q2 r2 vr j ek en xa xl xc aa al ac ta tl tc ea el ec W3 pa pn pc za zn zc rk rn ra rl rc wr:=⟨t0,t1,t2,t3,t4,t5,t6,t7,t8,t9,tv,u0,u1,g0,g1,g2,g3,g4,g5,g6,g7,g8,f0,f1,f2,f3,f4⟩
   clear hlv hmn
   go_wp2_with fail
   refine gS (JS s c W p1 q1 r1 p2 q2 r2 vr j ek en xa xl xc aa al ac ta tl tc ea el ec W3 pa pn pc za zn zc rk rn ra rl rc) (hS0) fun hHeld=>?_
   refine kT 0 ?_
   refine kT 1 ?_
   refine kT 2 ?_
   refine kT 3 ?_
   refine kT 4 ?_
   refine kT 5 ?_
   refine kT 7 ?_
   refine kT 8 ?_
   refine rdA 6 rfl fun K hK=>?_
   go_simp
   refine (KWA.o).mono ?_
   rintro e W6 ⟨⟨n1,n2,n3,n4,n5,n6,rfl,hN6⟩,hb6⟩
   have hbz:=Ac (bD wr) hb6
   have hr0:=HBr.o.row.over hbz
   have hrp:=HRPr.o.over hbz
   have hrs:=HRSr.o.over hbz
   have hrf:=HRFr.o.over hbz
   have hS6:JS s c W p1 q1 r1 p2 q2 r2 vr j ek en xa xl xc aa al ac ta tl tc ea el ec W3 pa pn pc za zn zc rk rn ra rl rc W6:=⟨hr0 0 _ rfl,hr0 1 _ rfl,hr0 2 _ rfl,hr0 3 _ rfl,hr0 4 _ rfl,hr0 5 _ rfl,hr0 6 _ rfl,hr0 7 _ rfl,hr0 8 _ rfl,hr0 9 _ rfl,Ab hbz _ _ tv,hrp 0 _ rfl,hrp 1 _ rfl,hrs 0 _ rfl,hrs 1 _ rfl,hrs 2 _ rfl,hrs 3 _ rfl,hrs 4 _ rfl,hrs 5 _ rfl,hrs 6 _ rfl,hrs 7 _ rfl,hrs 8 _ rfl,hrf 0 _ rfl,hrf 1 _ rfl,hrf 2 _ rfl,hrf 3 _ rfl,hrf 4 _ rfl⟩
   have HBZ6:=Aa hbz
   have HN6:=Aa hN6
   clear hr0 hrp hrs hrf hN6 hb6 hbz
   go_simp
   refine xK hK (hS6) fun hHeld=>?_
   refine rdA 9 rfl fun K hK=>?_
   go_simp
   refine (KV.o (Q m) W6 _ _ vr (HI.o.over _ _ _ HIr.o HBZ6.o) (HBr.o.over HI.o.xok HBZ6.o) HN6.o (by rw [HVR.o];exact (HOK.o.2.1 (by omega)).1) (by rw [HVR.o];exact (HOK.o.2.1 (by omega)).2)).mono ?_
   rintro e W7 ⟨rfl,hI7,hF7⟩
   have hF47:=(FrW.of_below HI.o.xok HBZ6.o).trans hF7
   have hr0:=hF47.row HBr.o.row HBr.o.x0
   have hrp:=hF47.row HRPr.o HXPr.o
   have hrs:=hF47.row HRSr.o HXSr.o
   have hrf:=hF47.row HRFr.o HXFr.o
   have hS7:JS s c W p1 q1 r1 p2 q2 r2 vr j ek en xa xl xc aa al ac ta tl tc ea el ec W3 pa pn pc za zn zc rk rn ra rl rc W7:=⟨hr0 0 _ rfl,hr0 1 _ rfl,hr0 2 _ rfl,hr0 3 _ rfl,hr0 4 _ rfl,hr0 5 _ rfl,hr0 6 _ rfl,hr0 7 _ rfl,hr0 8 _ rfl,hr0 9 _ rfl,hF47.cell tv HBr.o.x2,hrp 0 _ rfl,hrp 1 _ rfl,hrs 0 _ rfl,hrs 1 _ rfl,hrs 2 _ rfl,hrs 3 _ rfl,hrs 4 _ rfl,hrs 5 _ rfl,hrs 6 _ rfl,hrs 7 _ rfl,hrs 8 _ rfl,hrf 0 _ rfl,hrf 1 _ rfl,hrf 2 _ rfl,hrf 3 _ rfl,hrf 4 _ rfl⟩
   clear hr0 hrp hrs hrf
   go_simp
   refine xK hK (hS7) fun hHeld=>?_
   refine gE ?_
   have HI7:=Aa hI7
   have HB7:=Aa (HBr.o.keep hF47)
   have HRP7:=Aa (hF47.row HRPr.o HXPr.o)
   have HRS7:=Aa (hF47.row HRSr.o HXSr.o)
   have HXP7:Hx (¬ X W7 (W.heap.size+1)):=fun h=>HXPr.o (hF47.mov _ (bL (HRPr.o 0 _ rfl)) h)
   have HXS7:Hx (¬ X W7 W.heap.size):=fun h=>HXSr.o (hF47.mov _ (bL (HRSr.o 0 _ rfl)) h)
   have HP7:=Aa (HPr.o.keep HI.o.n1 hF47)
   have HF7:=Aa ((HF5.o.trans HFr.o).trans hF47)
   obtain ⟨hf1,hf2⟩:=HI.o.flevs _ _ hI7
   obtain ⟨ao9,cap9,hk1,hk2⟩:=hf1
   injection hk1 with x1 x2 x3
   have hjk:j < c.kn:=by rw [x2,hf2];exact HJ2.o
   have hjk5:c.kn<=5:=by rw [x2,hf2];exact hf5
   obtain ⟨b9,z9,hk3,-⟩:=hk2 (by intro h;rw [h] at hf2;have:=HJ2.o;simp at hf2;omega)
   have HKA:=Aa (x1.trans hk3)
   have KFL:=Aa fun (W1:World) (hb1:Ov W7 W1)=>HFL.o _ W1 _ p (false,j) b9 z9 (HI.o.over _ _ _ HI7.o hb1) (HP7.o.over HI.o.xok hb1) (fun h=>by cases h) (fun _=>HJ2.o) (by rw [if_neg (by simp)];exact HKA.o)
   have hjk2:(j:Int) < (c.kn:Int):=by omega
   clear hS7 hS6 hS0 hI7 hF7 hF47 t0 t1 t2 t3 t4 t5 t6 t7 t8 t9 g0 g1 g2 g3 g4 g5 g6 g7 g8 u0 u1 f0 f1 f2 f3 f4 tv hf2 hk2 hk3 x1 x2 x3
   obtain ⟨t0,t1,t2,t3,t4,t5,t6,t7,t8,t9⟩:=Cd HB7.o.row
   obtain ⟨g0,g1,g2,g3,g4,g5,g6,g7,g8⟩:=rc9 HRS7.o
   obtain ⟨u0,u1⟩:=rc2 HRP7.o
   have fl7:=HB7.o.flow
   rw [HKA.o] at t9
   have hS0:Lo s c b9 z9 G d1 d2 W p1 q1 r1 p2 q2 r2 vr j ek en xa xl xc aa al ac ta tl tc ea el ec W7:=⟨t0,t1,t2,t3,t4,t5,t6,t7,t8,t9,fl7,u0,u1,g0,g1,g2,g3,g4,g5,g6,g7,g8⟩
   go_wp2_with fail
   refine gS (Lo s c b9 z9 G d1 d2 W p1 q1 r1 p2 q2 r2 vr j ek en xa xl xc aa al ac ta tl tc ea el ec) (hS0) fun hHeld=>?_
   refine kT 0 ?_
   refine kT 1 ?_
   refine kT 2 ?_
   refine kT 3 ?_
   refine kT 4 ?_
   refine kT 5 ?_
   refine kT 6 ?_
   refine kT 7 ?_
   refine kT 8 ?_
   refine rdA 9 rfl fun K hK=>?_
   go_simp
   refine (KFL.o W7.drew (bD _)).mono ?_
   rintro e W8 ⟨rfl,hI8,hF8⟩
   have hF78:=(FrW.of_below HI.o.xok (bD W7)).trans hF8
   have hr0:=hF78.row HB7.o.row HB7.o.x0
   have hrp:=hF78.row HRP7.o HXP7.o
   have hrs:=hF78.row HRS7.o HXS7.o
   have hS8:Lo s c b9 z9 G d1 d2 W p1 q1 r1 p2 q2 r2 vr j ek en xa xl xc aa al ac ta tl tc ea el ec W8:=⟨hr0 0 _ rfl,hr0 1 _ rfl,hr0 2 _ rfl,hr0 3 _ rfl,hr0 4 _ rfl,hr0 5 _ rfl,hr0 6 _ rfl,hr0 7 _ rfl,hr0 8 _ rfl,(by rw [<-HKA.o];exact hr0 9 _ rfl),hF78.cell fl7 HB7.o.x1,hrp 0 _ rfl,hrp 1 _ rfl,hrs 0 _ rfl,hrs 1 _ rfl,hrs 2 _ rfl,hrs 3 _ rfl,hrs 4 _ rfl,hrs 5 _ rfl,hrs 6 _ rfl,hrs 7 _ rfl,hrs 8 _ rfl⟩
   clear hr0 hrp hrs
   go_simp
   refine xK hK (hS8) fun hHeld=>?_
   refine gE ?_
   go_end0
   refine ⟨rfl,⟨?_,HB7.o.keep hF78⟩,HF7.o.trans hF78⟩
   unfold BX
   rw [if_neg (by omega),if_pos hk]
   unfold DM
   dsimp only
   rw [HFAT.o,<-HQM.o,<-HVR.o,<-HOT.o]
   exact hI8
end
section
variable {σ:Type} {c:WC} {w0:World} {K nv ni no:Nat} {fs:List FnD} {gs:List (Int × Int)} {lev flev:σ->List Lev} {Inv:σ->World->Prop} {X:World->Nat->Prop} {s:Nat} {G:FuncId} {d1 d2:Value}
theorem Pa (I:Eg c w0 nv fs gs lev flev Inv X):Eg c w0 nv fs gs lev flev (fun st W=>Inv st W/\BK c X s G d1 d2 W) X:=
 ⟨I.n1,I.n6,I.gr,I.chk,I.nv16,fun st W h=>I.below st W h.1,fun st W h=>I.levs st W h.1,fun st W h=>I.flevs st W h.1,fun st W W' h hb=>⟨I.over st W W' h.1 hb,h.2.over I.xok hb⟩,I.xok,fun st W h=>I.xlt st W h.1⟩
theorem PC (I:Eg c w0 nv fs gs lev flev Inv X) (flow:Lev->Bool × Nat->σ->σ) (hC:∀ (args:Array Value) (w:World),(callFunc G args).run Tryz.prog w=.ok (.enter G args) w) (hfl:Hx (Df c nv fs Inv X flow G d1 d2)) (vs) (hvs:Br w0 (O c.va c.vn c.vc) vs) (hnv:vs.length=nv)
  (ls:List Lab) (hls:Bb w0 (O c.ya c.yn c.yc) ls) (hlc:∀ b∈ls,Bo c.n gs b=0) (hni:ls.length=ni) (hni5:ni<=5) (kf:Nat) (hfs:BC w0 K kf (O c.fa c.fn c.fc) fs) (hf5:fs.length<=5) (hof:∀ i (h:i < fs.length),okF K nv ni no (i:Int) fs kf fs[i]) :
  Nu c w0 K nv ni no fs (fun st W=>Inv st W/\BK c X s G d1 d2 W) X (BX c.n K lev (vs.map Prod.fst) (ls.map (AA (AD gs) c.n)) fs flow) 116 [] [zj (some ⟨s,0,none⟩),zj (some ⟨s+1+1,0,none⟩),zj (some ⟨s+1,0,none⟩)] (fun _ _=>True):=by
 intro st W a k cs d v p funcs hI hrs hfn hok hl _ _ _
 have hk:=hok.1
 rcases (by omega:Am d=1\/Am d=2\/Am d=3\/(Am d=4\/Am d=7\/Am d=8)\/Am d=5\/Am d=6) with h | h | h | h | h | h
 ·exact O1 I flow hC hfl vs hvs hnv ls hls hlc hni hni5 kf hfs hf5 hof st W a k cs d v p funcs hI.1 hI.2 hrs hfn hok hl h
 ·exact O0 I flow hC hfl vs hvs hnv ls hls hlc hni hni5 kf hfs hf5 hof st W a k cs d v p funcs hI.1 hI.2 hrs hfn hok hl h
 ·exact OZ I flow hC hfl vs hvs hnv ls hls hlc hni hni5 kf hfs hf5 hof st W a k cs d v p funcs hI.1 hI.2 hrs hfn hok hl h
 ·exact O2 I flow hC hfl vs hvs hnv ls hls hlc hni hni5 kf hfs hf5 hof st W a k cs d v p funcs hI.1 hI.2 hrs hfn hok hl h
 ·exact OY I flow hC hfl vs hvs hnv ls hls hlc hni hni5 kf hfs hf5 hof st W a k cs d v p funcs hI.1 hI.2 hrs hfn hok hl h
 ·exact OX I flow hC hfl vs hvs hnv ls hls hlc hni hni5 kf hfs hf5 hof st W a k cs d v p funcs hI.1 hI.2 hrs hfn hok hl h
theorem Ni (args:Array Value) (w:World):(callFunc 116 args).run Tryz.prog w=.ok (.enter 116 args) w:=by simp [go_sem]
theorem Mw (I:Eg c w0 nv fs gs lev flev Inv X) (flow:Lev->Bool × Nat->σ->σ) (hC:∀ (args:Array Value) (w:World),(callFunc G args).run Tryz.prog w=.ok (.enter G args) w) (hfl:Hx (Df c nv fs Inv X flow G d1 d2)) (vs) (hvs:Br w0 (O c.va c.vn c.vc) vs) (hnv:vs.length=nv)
  (ls:List Lab) (hls:Bb w0 (O c.ya c.yn c.yc) ls) (hlc:∀ b∈ls,Bo c.n gs b=0) (hni:ls.length=ni) (hni5:ni<=5) (kf:Nat) (hfs:BC w0 K kf (O c.fa c.fn c.fc) fs) (hf5:fs.length<=5) (hof:∀ i (h:i < fs.length),okF K nv ni no (i:Int) fs kf fs[i])
  (l:List D) (hm:Bf w0 K kf (O c.ba c.bn c.bc) l) (hom:∀ s∈l,okS K nv ni no (fs.length:Int) fs kf s) (h50:Ca kf fs+A7 kf l<=50) (st:σ) (W:World) (hI:Inv st W) :
  Calls Tryz.prog 55 #[c.v,(.func (.func G) #[] #[d1,d2])] W fun e W'=>e=zk (zm #[])/\Inv (CA c.n K lev (BX c.n K lev (vs.map Prod.fst) (ls.map (AA (AD gs) c.n)) fs flow) flev kf fs l st) W'/\FrW X W W':=by
 have hmf:∀ (fn:Fn) (first cap:Array Value) (w:World),(Instr.makeFunc fn first cap).run Tryz.prog w=.ok (.func fn first cap) w:=fun _ _ _ _=>rfl
 have hb:Ov W (((W.alloc (ze #[U zd (c.n:Int),O c.ga c.gn c.gc,O c.sa c.sn c.sc,O c.ya c.yn c.yc,O c.oa c.on c.oc,O c.va c.vn c.vc,O c.fa c.fn c.fc,O c.ba c.bn c.bc,O c.la c.ln c.lc,O c.ka c.kn c.kc] 110)).alloc (ze #[(.func (.func G) #[] #[d1,d2])] 115)).alloc (ze #[(.func (.func 115) #[] #[zj (some ⟨W.heap.size,0,none⟩),zj (some ⟨W.heap.size+1,0,none⟩)])] 187)):=((bA W _).alloc (by simp) _).alloc (by simp <;> omega) _
 have hx:∀ k,W.heap.size<=k->¬ X (((W.alloc (ze #[U zd (c.n:Int),O c.ga c.gn c.gc,O c.sa c.sn c.sc,O c.ya c.yn c.yc,O c.oa c.on c.oc,O c.va c.vn c.vc,O c.fa c.fn c.fc,O c.ba c.bn c.bc,O c.la c.ln c.lc,O c.ka c.kn c.kc] 110)).alloc (ze #[(.func (.func G) #[] #[d1,d2])] 115)).alloc (ze #[(.func (.func 115) #[] #[zj (some ⟨W.heap.size,0,none⟩),zj (some ⟨W.heap.size+1,0,none⟩)])] 187)) k:=fun k hk h=>by have:=I.xlt _ _ hI _ (I.xok.below _ _ hb _ h);omega
 have hB:BK c X W.heap.size G d1 d2 (((W.alloc (ze #[U zd (c.n:Int),O c.ga c.gn c.gc,O c.sa c.sn c.sc,O c.ya c.yn c.yc,O c.oa c.on c.oc,O c.va c.vn c.vc,O c.fa c.fn c.fc,O c.ba c.bn c.bc,O c.la c.ln c.lc,O c.ka c.kn c.kc] 110)).alloc (ze #[(.func (.func G) #[] #[d1,d2])] 115)).alloc (ze #[(.func (.func 115) #[] #[zj (some ⟨W.heap.size,0,none⟩),zj (some ⟨W.heap.size+1,0,none⟩)])] 187)):=by
  refine ⟨?_,?_,?_,hx _ (Nat.le_refl _),hx _ (by omega),hx _ (by omega)⟩
  ·exact (Ae.new c.cs 110 W).over ((bA _ _).alloc (by simp) _)
  ·simp [go_sem]
  ·simp [go_sem]
 have hI1:=I.over _ _ _ hI hb
 have KE:=Aa (NN (Pa (s:=W.heap.size) (G:=G) (d1:=d1) (d2:=d2) I) (BX c.n K lev (vs.map Prod.fst) (ls.map (AA (AD gs) c.n)) fs flow) 116 [] [zj (some ⟨W.heap.size,0,none⟩),zj (some ⟨W.heap.size+1+1,0,none⟩),zj (some ⟨W.heap.size+1,0,none⟩)] (fun _ _=>True) (Aa (MP _)) Ni
  (Aa (PC I flow hC hfl vs hvs hnv ls hls hlc hni hni5 kf hfs hf5 hof)) l hfs hm hof hom h50 hf5 st _ ⟨hI1,hB⟩ trivial)
 have HF:=Aa (FrW.of_below I.xok hb)
 obtain ⟨t0,t1,t2,t3,t4,t5,t6,t7,t8,t9⟩:=Cd hB.row
 clear hb hx hB hI1 hfl hvs hls hlc hfs hof hm hom I
 go_enter Tryz.func55,Tryz.ntmps55
 go_wp2_with fail
 refine (KE.o).mono ?_
 rintro e W2 ⟨rfl,hI2,hF2⟩
 go_wp2_with fail
 go_end0
 exact ⟨rfl,hI2.1,HF.o.trans hF2⟩
end
theorem Tryz.infoLv:(Tryz.prog.info? 50).map (fun i=>(i.zero,i.size,i.bytes))=some (some (zh #[O none 0 0,O none 0 0]),2,48):=by kernel_rfl
def T4 (W:World) (v:Value):Prop:=∀ a n c,v=O (some a) n c->∃ cur fr,W.heap[a.block]? = some (.cells cur 4 fr)
structure EC (n:Nat) (W:World) (v:Value) (l:Lev):Prop where
 at_:AQ W v l
 len:l.len n
 ty:∃ x y,v=zh #[x,y]/\T4 W x/\T4 W y
theorem LF {W:World} {B n:Nat} {v:Value} {xs:List Value} (h:W.ownsRow B 4 1 v n xs):T4 W v:=by
 intro a m c hv
 rcases h.2 with ⟨h,-⟩ | ⟨g,cap,cur,h,hb,hg,-⟩
 ·rw [hv] at h;cases h
 ·rw [hv] at h;injection h with h1 h2 h3;injection h1 with h1;rw [h1];exact ⟨_,_,hg⟩
theorem C9 {n:Nat} {w w':World} {v:Value} {l:Lev} (h:Be w w' v l) (hl:l.len n):EC n w' v l:=by
 have h2:=Aq h
 obtain ⟨x,y,hv,hx,hy,-⟩:=h
 exact ⟨h2,hl,x,y,hv,LF hx,LF hy⟩
theorem H8 {W W':World} {v:Value} (h:T4 W v) (hb:∀ (k:Nat) (cur:Array Value) (fr:Nat × Nat),W.heap[k]? = some (Obj.cells cur 4 fr)->W'.heap[k]? = W.heap[k]?):T4 W' v:=by
 intro a n c hv
 obtain ⟨cur,fr,he⟩:=h a n c hv
 exact ⟨cur,fr,(hb _ _ _ he).trans he⟩
theorem EC.keep {n:Nat} {W W':World} {v:Value} {l:Lev} (h1:1<=n) (h:EC n W v l) (hb:∀ (k:Nat) (cur:Array Value) (fr:Nat × Nat),W.heap[k]? = some (Obj.cells cur 4 fr)->W'.heap[k]? = W.heap[k]?):EC n W' v l:=by
 obtain ⟨x,y,hv,tx,ty⟩:=h.ty
 obtain ⟨x',y',hv',bx,by'⟩:=h.at_
 rw [hv] at hv'
 simp at hv'
 obtain ⟨rfl,rfl⟩:=hv'
 have key:∀ (v:Value) (l:List Bool),AN W v l->l.length=n->T4 W v->AN W' v l:=by
  intro v l hbo hl ht
  obtain ⟨ao,cap,hv,hel⟩:=hbo
  refine ⟨ao,cap,hv,fun hne=>?_⟩
  obtain ⟨b,off,hao,hel⟩:=hel hne
  obtain ⟨cur,fr,he⟩:=ht ⟨b,off,none⟩ l.length cap (by rw [hv,hao])
  have e:W'.heap[b]? = W.heap[b]?:=hb b cur fr he
  exact ⟨b,off,hao,fun i hi=>(World.cell?_of_block (a:=⟨b,off+i,none⟩) e).trans (hel i hi)⟩
 exact ⟨⟨x,y,hv,key _ _ bx h.len.1 tx,key _ _ by' h.len.2 ty⟩,h.len,x,y,hv,H8 tx hb,H8 ty hb⟩
theorem EC.over {n:Nat} {W W':World} {v:Value} {l:Lev} (h1:1<=n) (h:EC n W v l) (hb:Ov W W'):EC n W' v l:=
 h.keep h1 fun k cur fr hk=>hb.block k (Array.getElem?_eq_some_iff.1 hk).1
def A3 (n B:Nat) (W:World) (v:Value) (Ls:List Lev):Prop:=
 ∃ us:List Value,W.ownsRow B 50 2 v Ls.length us/\∀ i (h:i < Ls.length),∃ x y,us[i*2]? = some x/\us[i*2+1]? = some y/\EC n W (zh #[x,y]) Ls[i]
theorem Fk (n B:Nat) (W:World):A3 n B W (O none 0 0) []:=⟨[],World.ownsRow_nil ..,fun i h=>absurd h (by simp)⟩
theorem B3 {n B:Nat} {W:World} {v:Value} {Ls:List Lev} (h:A3 n B W v Ls):∀ g,v.ownBlock=some g->B<=g/\∃ cur fr,W.heap[g]? = some (.cells cur 50 fr):=by
 obtain ⟨us,ho,-⟩:=h
 intro g hg
 rcases ho.2 with ⟨h,-⟩ | ⟨g',cap,cur,h,hb,hh,-⟩
 ·rw [h] at hg;cases hg
 ·rw [h] at hg
  simp [Value.ownBlock] at hg
  subst hg
  exact ⟨hb,_,_,hh⟩
theorem A3.keep {n B:Nat} {W W':World} {v:Value} {Ls:List Lev} (h1:1<=n) (h:A3 n B W v Ls) {row:Option Nat} (hg:W.grownBy W' row) (ha:v.ownBlock=none\/v.ownBlock≠row) (hr:∀ g,row=some g->∀ (cur:Array Value) (fr:Nat × Nat),W.heap[g]?≠some (Obj.cells cur 4 fr)):A3 n B W' v Ls:=by
 obtain ⟨us,ho,hel⟩:=h
 refine ⟨us,ho.kept hg ha,fun i hi=>?_⟩
 obtain ⟨x,y,e0,e1,hl⟩:=hel i hi
 exact ⟨x,y,e0,e1,hl.keep h1 fun k cur fr hk=>hg.block k (Array.getElem?_eq_some_iff.1 hk).1 (fun e=>hr k e.symm cur fr hk)⟩
theorem A3.over {n B:Nat} {W W':World} {v:Value} {Ls:List Lev} (h1:1<=n) (h:A3 n B W v Ls) (hb:Ov W W'):A3 n B W' v Ls:=
 h.keep h1 (row:=none) ⟨hb.os,hb.tape,hb.output,hb.size,fun k hk _=>hb.block k hk⟩ (by cases v.ownBlock <;> simp) (fun g e=>by cases e)
theorem A3.snoc {n B:Nat} {W W':World} {v v':Value} {Ls:List Lev} {x y:Value} {l:Lev} (h1:1<=n) (h:A3 n B W v Ls) (us:List Value) (ho:W.ownsRow B 50 2 v Ls.length us) (hel:∀ i (h:i < Ls.length),∃ x y,us[i*2]? = some x/\us[i*2+1]? = some y/\EC n W (zh #[x,y]) Ls[i]) (hl:EC n W (zh #[x,y]) l)
  (ho':W'.ownsRow B 50 2 v' (Ls.length+1) (us++[x,y])) (hg:W.grownBy W' v.ownBlock):A3 n B W' v' (Ls++[l]):=by
 have hk:∀ (k:Nat) (cur:Array Value) (fr:Nat × Nat),W.heap[k]? = some (Obj.cells cur 4 fr)->W'.heap[k]? = W.heap[k]?:=fun k cur fr hk=>hg.block k (Array.getElem?_eq_some_iff.1 hk).1 (fun e=>by
  obtain ⟨-,cur',fr',he⟩:=B3 h k e.symm
  rw [hk] at he
  injection he with he
  injection he with e1 e2 e3
  exact absurd e2 (by decide))
 have hus:us.length=Ls.length*2:=ho.1
 refine ⟨us++[x,y],by simpa using ho',fun i hi=>?_⟩
 by_cases hlt:i < Ls.length
 ·obtain ⟨x',y',e0,e1,ht⟩:=hel i hlt
  refine ⟨x',y',?_,?_,?_⟩
  ·rw [List.getElem?_append_left (by omega)];exact e0
  ·rw [List.getElem?_append_left (by omega)];exact e1
  ·rw [List.getElem_append_left hlt];exact ht.keep h1 hk
 ·have hi2:i=Ls.length:=by simp at hi;omega
  subst hi2
  refine ⟨x,y,?_,?_,?_⟩
  ·rw [List.getElem?_append_right (by omega)];simp [hus]
  ·rw [List.getElem?_append_right (by omega)]
   have:Ls.length*2+1 - us.length=1:=by omega
   rw [this];rfl
  ·simp;exact hl.keep h1 hk
theorem Dv (n:Nat) (ga gn gc sa sn sc ya yn yc oa on oc va vn vc fa fn fc ba bn bc la ln lc ka kn kc) (w:World) :
  Calls Tryz.prog 99 #[zh #[U zd (n:Int),O ga gn gc,O sa sn sc,O ya yn yc,O oa on oc,O va vn vc,O fa fn fc,O ba bn bc],zh #[O la ln lc,O ka kn kc]] w fun e w'=>e=zk (zh #[U zd (n:Int),O ga gn gc,O sa sn sc,O ya yn yc,O oa on oc,O va vn vc,O fa fn fc,O ba bn bc,O la ln lc,O ka kn kc])/\Ov w w':=by
 go_enter Tryz.func99,Tryz.ntmps99
 go_wp2_with fail
 refine bodyPost_ret (v:=zh #[U zd (n:Int),O ga gn gc,O sa sn sc,O ya yn yc,O oa on oc,O va vn vc,O fa fn fc,O ba bn bc,O la ln lc,O ka kn kc]) (by simp [results,Tryz.results99,go_sem]) rfl ⟨rfl,?_⟩
 refine Below.alloc ?_ (by simp <;> omega) _
 refine Below.alloc ?_ (by simp <;> omega) _
 exact bA w _
end Go.Proofs.YtfffpjkcfnekaaaGreat.Ex
