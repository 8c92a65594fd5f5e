/- One who judges: a command that holds others. -/
import Derived.Test.YtfffpjkcfnekaaaGreatF28
set_option linter.unusedVariables false
set_option maxHeartbeats 8000000
set_option maxRecDepth 100000
namespace Go.Proofs.YtfffpjkcfnekaaaGreat.Ex
open Go.RowKit
open Go.Value renaming slice -> O, int -> U, bool -> zg, agg -> zh, pointer -> zj, tuple -> zm
open Go.IntKind renaming i64 -> zd
open Go.Obj renaming cells -> ze
open Go.Ending renaming returned -> zk
theorem N8 (c) (w0:World) (bj:Nat) (av:Value) (gs Ls Fs) (J:JSt c w0 gs Ls Fs) (sp) (A:JAc c w0 av (AD gs) sp) (K ni no:Nat) (fs vs) (hvs:Br w0 (O c.va c.vn c.vc) vs) (hvn:vs.length=Ls.length) (hvc:∀ v∈vs,Bo c.n gs v.2=0) (ls) (hls:Bb w0 (O c.ya c.yn c.yc) ls) (hlc:∀ b∈ls,Bo c.n gs b=0) (hni:ls.length=ni) (hni5:ni<=5) (os) (hos:Bb w0 (O c.oa c.on c.oc) os) (hoc:∀ b∈os,Bo c.n gs b=0) (hno:os.length=no) (hno5:no<=5)
  (fl:List (Int × Int)) (hfl:fl.length<=900) (fv:Value) (W:World) (a:Int) (k:Nat) (cs:List Value) (d:D) (v:Value) (p:Lev) (funcs:Int) (h:AW c.cs w0 bj av fl fv W) (hrs:RS w0 K (k+1) cs d) (hok:CJ K Ls.length ni no funcs fs d) (hl:AY c.n (XJ bj) W v p) (hk:Am d=7\/Am d=8) :
  Calls Tryz.prog 88 #[zj (some ⟨bj,0,none⟩),U zd a,.agg cs.toArray,v] W fun e W'=>e=zk (zm #[])/\(∃ fv',AW c.cs w0 bj av (fl) fv' W')/\FrW (XJ bj) W W':=by
 obtain ⟨p1,q1,r1,p2,q2,r2,rfl⟩:=hl.form
 obtain ⟨ek,en,xa,xl,xc,aa,ac,ta,tc,ea,ec,rfl,i0,i1,i2,hX,hA,hT,hE,-,-,-⟩:=hrs.form
 obtain ⟨kd,hkd⟩:=nm (Am d)
 obtain ⟨vr,hvr⟩:=nm (AK d)
 obtain ⟨ot,hot⟩:=nm (Ah d)
 obtain ⟨al,hal⟩:=nm ((Ap d).length)
 obtain ⟨tl,htl⟩:=nm ((Av d).length)
 obtain ⟨el,hel⟩:=nm ((Ax d).length)
 rw [<-hkd,<-hvr,<-hot,<-hal,<-htl,<-hel]
 rw [<-hkd] at hk
 obtain ⟨hbox,hb⟩:=Da bj a [U zd kd,U zd vr,U zd ot,U zd ek,U zd en,O xa xl xc,O aa al ac,O ta tl tc,O ea el ec] [O p1 q1 r1,O p2 q2 r2] W (fun k hk=>(h.xlt k hk).2)
 have HF1:=Aa (FrW.of_below (Aj bj) hb)
 have HJ1:=Aa (h.over hb)
 have g0:=hbox.st 0 _ rfl
 clear hkd hvr hot hal htl hel hbox hb h hl hrs hX hA hT hE hok J A hvs hvc hls hlc hos hoc hfl i0 i1 i2
 rcases hk with rfl | rfl
 ·go_enter Tryz.func88,Tryz.ntmps88
  go_wp2_with fail
  go_end0
  exact ⟨rfl,⟨fv,HJ1.o⟩,HF1.o⟩
 ·go_enter Tryz.func88,Tryz.ntmps88
  go_wp2_with fail
  go_end0
  exact ⟨rfl,⟨fv,HJ1.o⟩,HF1.o⟩
def DJ (n K:Nat) (Ls:List Lev) (f:FnD) (d:D) (p:Lev):Bool:=
 ((f.ps.zip (Ap d)).all fun q=>Ay (AZ n Ls p (AF K q.2)) (Ls.getD q.1.toNat AE) n) && Ay (AZ n Ls p (AF K f.res)) (Ls.getD (AK d).toNat AE) n
abbrev Ly (bj:Nat) (c:WC) (b8 z8:Nat) (W:World) (vr:Int) (j:Nat) (ek en:Int) (xa:Option Addr) (xl xc:Nat) (aa:Option Addr) (al ac:Nat) (ta:Option Addr) (tl tc:Nat) (ea:Option Addr) (el ec:Nat) (p1:Option Addr) (q1 r1:Nat) (p2:Option Addr) (q2 r2:Nat) (pa:Option Addr) (pn pc:Nat) (za:Option Addr) (zn zc:Nat) (rk rn:Int) (ra:Option Addr) (rl rc:Nat) (Wz:World):Prop:=Wz.cell? ⟨bj,0,none⟩=some (U zd (c.n:Int))/\CE Wz bj 1 (O c.ga c.gn c.gc)/\CE Wz bj 2 (O c.sa c.sn c.sc)/\CE Wz bj 3 (O c.ya c.yn c.yc)/\CE Wz bj 4 (O c.oa c.on c.oc)/\CE Wz bj 5 (O c.va c.vn c.vc)/\CE Wz bj 6 (O (some ⟨b8,z8,none⟩) c.fn c.fc)/\CE Wz bj 7 (O c.ba c.bn c.bc)/\CE Wz bj 8 (O c.la c.ln c.lc)/\CE Wz bj 9 (O c.ka c.kn c.kc)/\CE Wz W.heap.size 0 (U zd 2)/\CE Wz W.heap.size 1 (U zd vr)/\CE Wz W.heap.size 2 (U zd (j:Int))/\CE Wz W.heap.size 3 (U zd ek)/\CE Wz W.heap.size 4 (U zd en)/\CE Wz W.heap.size 5 (O xa xl xc)/\CE Wz W.heap.size 6 (O aa al ac)/\CE Wz W.heap.size 7 (O ta tl tc)/\CE Wz W.heap.size 8 (O ea el ec)/\CE Wz (W.heap.size+1) 0 (O p1 q1 r1)/\CE Wz (W.heap.size+1) 1 (O p2 q2 r2)/\CE Wz b8 (z8+j*5) (O pa pn pc)/\CE Wz b8 (z8+j*5+1) (O za zn zc)/\CE Wz b8 (z8+j*5+2) (U zd rk)/\CE Wz b8 (z8+j*5+3) (U zd rn)/\CE Wz b8 (z8+j*5+4) (O ra rl rc)
abbrev Lx (bj:Nat) (c:WC) (W:World) (p1:Option Addr) (q1 r1:Nat) (p2:Option Addr) (q2 r2 b6 z6 al ac m:Nat) (k1 k2:Int) (k3:Option Addr) (k4 k5:Nat) (Wz:World):Prop:=Wz.cell? ⟨bj,0,none⟩=some (U zd (c.n:Int))/\CE Wz bj 1 (O c.ga c.gn c.gc)/\CE Wz bj 2 (O c.sa c.sn c.sc)/\CE Wz bj 3 (O c.ya c.yn c.yc)/\CE Wz bj 4 (O c.oa c.on c.oc)/\CE Wz bj 5 (O c.va c.vn c.vc)/\CE Wz bj 6 (O c.fa c.fn c.fc)/\CE Wz bj 7 (O c.ba c.bn c.bc)/\CE Wz bj 8 (O c.la c.ln c.lc)/\CE Wz bj 9 (O c.ka c.kn c.kc)/\CE Wz (W.heap.size+1) 0 (O p1 q1 r1)/\CE Wz (W.heap.size+1) 1 (O p2 q2 r2)/\CE Wz W.heap.size 6 (O (some ⟨b6,z6,none⟩) al ac)/\CE Wz b6 (z6+m*3) (U zd k1)/\CE Wz b6 (z6+m*3+1) (U zd k2)/\CE Wz b6 (z6+m*3+2) (O k3 k4 k5)
abbrev NB (bj:Nat) (c:WC) (W:World) (p1:Option Addr) (q1 r1:Nat) (p2:Option Addr) (q2 r2 jv:Nat) (rk rn:Int) (ra:Option Addr) (rl rc:Nat) (Wz:World):Prop:=Wz.cell? ⟨bj,0,none⟩=some (U zd (c.n:Int))/\CE Wz bj 1 (O c.ga c.gn c.gc)/\CE Wz bj 2 (O c.sa c.sn c.sc)/\CE Wz bj 3 (O c.ya c.yn c.yc)/\CE Wz bj 4 (O c.oa c.on c.oc)/\CE Wz bj 5 (O c.va c.vn c.vc)/\CE Wz bj 6 (O c.fa c.fn c.fc)/\CE Wz bj 7 (O c.ba c.bn c.bc)/\CE Wz bj 8 (O c.la c.ln c.lc)/\CE Wz bj 9 (O c.ka c.kn c.kc)/\CE Wz (W.heap.size+1) 0 (O p1 q1 r1)/\CE Wz (W.heap.size+1) 1 (O p2 q2 r2)/\CE Wz W.heap.size 1 (U zd (jv:Int))/\CE Wz (W.heap.size+1+1) 2 (U zd rk)/\CE Wz (W.heap.size+1+1) 3 (U zd rn)/\CE Wz (W.heap.size+1+1) 4 (O ra rl rc)
theorem JJ (c) (w0:World) (bj:Nat) (av:Value) (gs Ls Fs) (J:JSt c w0 gs Ls Fs) (K ni no kf:Nat) (fs) (hfs:BC w0 K kf (O c.fa c.fn c.fc) fs) (hf5:fs.length<=5) (hof:∀ i (h:i < fs.length),okF K Ls.length ni no (i:Int) fs kf fs[i])
  (fl:List (Int × Int)) (fv:Value) (W:World) (k:Nat) (cs:List Value) (d:D) (v:Value) (p:Lev) (funcs:Int) (h:AW c.cs w0 bj av fl fv W) (hrs:RS w0 K (k+1) cs d) (hfn:funcs<=fs.length) (hok:CJ K Ls.length ni no funcs fs d) (hl:AY c.n (XJ bj) W v p) (hk:Am d=2) :
  Calls Tryz.prog 151 #[zj (some ⟨bj,0,none⟩),.agg cs.toArray,v] W fun e W'=>e=zk (zg (DJ c.n K Ls (EP fs (Ah d)) d p))/\Ov W W':=by
 obtain ⟨p1,q1,r1,p2,q2,r2,rfl⟩:=hl.form
 obtain ⟨ek,en,xa,xl,xc,aa,ac,ta,tc,ea,ec,rfl,i0,i1,i2,hX,hA,hT,hE,-,-,-⟩:=hrs.form
 have hkd:sC (Am d) (AK d) (Ah d) ek en xa xl xc aa (Ap d).length ac ta (Av d).length tc ea (Ax d).length ec=sC 2 (AK d) (Ah d) ek en xa xl xc aa (Ap d).length ac ta (Av d).length tc ea (Ax d).length ec:=by rw [hk]
 rw [hkd]
 clear hkd
 obtain ⟨⟨hj0,hj1⟩,hps,hck⟩:=hok.2.2.1 hk
 obtain ⟨j,hj⟩:∃ j:Nat,Ah d=(j:Int):=⟨(Ah d).toNat,by omega⟩
 have hj2:j < fs.length:=by omega
 have hjt:(Ah d).toNat=j:=by omega
 have hpsl:fs[j].ps.length=(Ap d).length:=hps fs[j] (by rw [hjt];exact List.getElem?_eq_getElem hj2)
 have hfat:EP fs (Ah d)=fs[j]:=by unfold EP;rw [hjt];simp [List.getD_eq_getElem?_getD,hj2]
 rw [hfat,hj]
 obtain ⟨hfm,fa',fc',hfe,hfc⟩:=hfs
 injection hfe with y1 y2 y3
 obtain ⟨b8,z8,hfo,hfel⟩:=hfc (by intro h;rw [h] at hj2;simp at hj2)
 obtain ⟨vP,vB,e0,e1,e2,g80,g81,g82,g83,g84,hints,-,hbody,hres⟩:=hfel j hj2
 have hfa:c.fa=some ⟨b8,z8,none⟩:=y1.trans hfo
 obtain ⟨pa,pc,rfl,hpel⟩:=hints
 obtain ⟨-,za,zc,rfl,-⟩:=hbody
 obtain ⟨ra,rc,hxf⟩:=hres.form
 simp only [List.cons.injEq,and_true] at hxf
 obtain ⟨rfl,rfl,rfl⟩:=hxf
 have hfo5:=hof j hj2
 obtain ⟨f,hf⟩:=nm (fs[j])
 rw [<-hf] at hpsl g80 g81 g82 g83 g84 hpel hres hfo5 ⊢
 obtain ⟨vr,hvr⟩:=nm (AK d)
 obtain ⟨al,hal⟩:=nm ((Ap d).length)
 obtain ⟨tl,htl⟩:=nm ((Av d).length)
 obtain ⟨el,hel⟩:=nm ((Ax d).length)
 obtain ⟨pn,hpn⟩:=nm f.ps.length
 obtain ⟨zn,hzn⟩:=nm f.body.length
 obtain ⟨rk,hrk⟩:=nm (AI f.res)
 obtain ⟨rn,hrn⟩:=nm (Bc f.res)
 obtain ⟨rl,hrl⟩:=nm ((AH f.res).length)
 rw [<-hpn] at g80
 rw [<-hzn] at g81
 rw [<-hrk] at g82 hres
 rw [<-hrn] at g83 hres
 rw [<-hrl] at g84 hres
 rw [<-hvr,<-hal,<-htl,<-hel]
 have hb1:Ov W ((W.alloc (ze #[U zd 2,U zd vr,U zd (j:Int),U zd ek,U zd en,O xa xl xc,O aa al ac,O ta tl tc,O ea el ec] 130)).alloc (ze #[O p1 q1 r1,O p2 q2 r2] 50)):=(bA W _).alloc (by simp) _
 have HJ1:=Aa (h.over hb1)
 have HL1:=Aa (hl.over (Aj bj) hb1)
 have HB1:=Aa hb1
 have rowS:Ae [U zd 2,U zd vr,U zd (j:Int),U zd ek,U zd en,O xa xl xc,O aa al ac,O ta tl tc,O ea el ec] ((W.alloc (ze #[U zd 2,U zd vr,U zd (j:Int),U zd ek,U zd en,O xa xl xc,O aa al ac,O ta tl tc,O ea el ec] 130)).alloc (ze #[O p1 q1 r1,O p2 q2 r2] 50)) W.heap.size:=(Ae.new _ _ _).over (bA _ _)
 have rowP:Ae [O p1 q1 r1,O p2 q2 r2] ((W.alloc (ze #[U zd 2,U zd vr,U zd (j:Int),U zd ek,U zd en,O xa xl xc,O aa al ac,O ta tl tc,O ea el ec] 130)).alloc (ze #[O p1 q1 r1,O p2 q2 r2] 50)) (W.heap.size+1):=by
  have r:=Ae.new [O p1 q1 r1,O p2 q2 r2] 50 (W.alloc (ze #[U zd 2,U zd vr,U zd (j:Int),U zd ek,U zd en,O xa xl xc,O aa al ac,O ta tl tc,O ea el ec] 130))
  simpa using r
 have hS1:Ly bj c b8 z8 W vr j ek en xa xl xc aa al ac ta tl tc ea el ec p1 q1 r1 p2 q2 r2 pa pn pc za zn zc rk rn ra rl rc ((W.alloc (ze #[U zd 2,U zd vr,U zd (j:Int),U zd ek,U zd en,O xa xl xc,O aa al ac,O ta tl tc,O ea el ec] 130)).alloc (ze #[O p1 q1 r1,O p2 q2 r2] 50)):=⟨HJ1.o.cw 0 _ rfl,HJ1.o.cw 1 _ rfl,HJ1.o.cw 2 _ rfl,HJ1.o.cw 3 _ rfl,HJ1.o.cw 4 _ rfl,HJ1.o.cw 5 _ rfl,by rw [<-hfa];exact HJ1.o.cw 6 _ rfl,HJ1.o.cw 7 _ rfl,HJ1.o.cw 8 _ rfl,HJ1.o.cw 9 _ rfl,rowS 0 _ rfl,rowS 1 _ rfl,rowS 2 _ rfl,rowS 3 _ rfl,rowS 4 _ rfl,rowS 5 _ rfl,rowS 6 _ rfl,rowS 7 _ rfl,rowS 8 _ rfl,rowP 0 _ rfl,rowP 1 _ rfl,Ab HJ1.o.below _ _ g80,Ab HJ1.o.below _ _ g81,Ab HJ1.o.below _ _ g82,Ab HJ1.o.below _ _ g83,Ab HJ1.o.below _ _ g84⟩
 have HS:Hx (∀ W2,Ov ((W.alloc (ze #[U zd 2,U zd vr,U zd (j:Int),U zd ek,U zd en,O xa xl xc,O aa al ac,O ta tl tc,O ea el ec] 130)).alloc (ze #[O p1 q1 r1,O p2 q2 r2] 50)) W2->Ly bj c b8 z8 W vr j ek en xa xl xc aa al ac ta tl tc ea el ec p1 q1 r1 p2 q2 r2 pa pn pc za zn zc rk rn ra rl rc W2):=fun W2 hb2=>by
  obtain ⟨s0,s1,s2,s3,s4,s5,s6,s7,s8,s9,s10,s11,s12,s13,s14,s15,s16,s17,s18,s19,s20,s21,s22,s23,s24,s25⟩:=hS1
  exact ⟨Ab hb2 _ _ s0,Ab hb2 _ _ s1,Ab hb2 _ _ s2,Ab hb2 _ _ s3,Ab hb2 _ _ s4,Ab hb2 _ _ s5,Ab hb2 _ _ s6,Ab hb2 _ _ s7,Ab hb2 _ _ s8,Ab hb2 _ _ s9,Ab hb2 _ _ s10,Ab hb2 _ _ s11,Ab hb2 _ _ s12,Ab hb2 _ _ s13,Ab hb2 _ _ s14,Ab hb2 _ _ s15,Ab hb2 _ _ s16,Ab hb2 _ _ s17,Ab hb2 _ _ s18,Ab hb2 _ _ s19,Ab hb2 _ _ s20,Ab hb2 _ _ s21,Ab hb2 _ _ s22,Ab hb2 _ _ s23,Ab hb2 _ _ s24,Ab hb2 _ _ s25⟩
 have HSD:=Aa (HS.o _ (bD _))
 have hjf:(j:Int) < (c.fn:Int):=by omega
 have hfn5:c.fn<=5:=by omega
 have hpn4:pn<=4:=by rw [hpn];exact hfo5.1
 have HX:=Aa hX
 have HV2:=Aa (hok.2.1 (by omega))
 have HA:=Aa hA
 have HPEL:=Aa hpel
 have HRES:=Aa hres
 have HCK:=Aa hck
 have HPR:=Aa hfo5.2.1
 have HRC:=Aa hfo5.2.2.2
 have HPSL:=Aa hpsl
 have HPN:=Aa hpn
 have HOK:=Aa hok
 have HVR:=Aa hvr
 have HAL:=Aa hal
 have HFA:=Aa hfa
 have HJJ:=Aa J
 obtain ⟨t0,t1,t2,t3,t4,t5,t6,t7,t8,t9,t10,t11,t12,t13,t14,t15,t16,t17,t18,t19,t20,t21,t22,t23,t24,t25⟩:=hS1
 clear hX hA hpel hres hck hfo5 hpsl hpn hok hvr hal hfa J hrs hT hE h hl rowS rowP hb1 hj0 hj1 hps hj hjt hfat hfm hfc y1 y2 y3 hfo hfel g80 g81 g82 g83 g84 htl hel hzn hrk hrn hrl hk i0 i1 i2 hof hfn
 go_enter Tryz.func151,Tryz.ntmps151
 go_wp2_with fail
 refine gS (Ly bj c b8 z8 W vr j ek en xa xl xc aa al ac ta tl tc ea el ec p1 q1 r1 p2 q2 r2 pa pn pc za zn zc rk rn ra rl rc) (HSD.o) fun hHeld=>?_
 refine kT 0 ?_
 refine kT 1 ?_
 refine kT 2 ?_
 refine kT 3 ?_
 refine kT 4 ?_
 refine kT 5 ?_
 refine kT 6 ?_
 refine kT 7 ?_
 refine kT 8 ?_
 refine kT 9 ?_
 refine rdA 10 rfl fun K hK=>?_
 go_simp
 refine xK hK (HS.o _ ((bA _ _).drew)) fun hHeld=>?_
 clear hK K
 refine rdA 11 rfl fun K hK=>?_
 go_simp
 refine xK hK (HS.o _ ((bA _ _).drew)) fun hHeld=>?_
 clear hK K
 refine gE ?_
 have hb5:Ov ((W.alloc (ze #[U zd 2,U zd vr,U zd (j:Int),U zd ek,U zd en,O xa xl xc,O aa al ac,O ta tl tc,O ea el ec] 130)).alloc (ze #[O p1 q1 r1,O p2 q2 r2] 50)) (((W.alloc (ze #[U zd 2,U zd vr,U zd (j:Int),U zd ek,U zd en,O xa xl xc,O aa al ac,O ta tl tc,O ea el ec] 130)).alloc (ze #[O p1 q1 r1,O p2 q2 r2] 50)).alloc (ze #[O pa pn pc,O za zn zc,U zd rk,U zd rn,O ra rl rc] 105)).drew:=(bA _ _).drew
 have rowF:Ae [O pa pn pc,O za zn zc,U zd rk,U zd rn,O ra rl rc] (((W.alloc (ze #[U zd 2,U zd vr,U zd (j:Int),U zd ek,U zd en,O xa xl xc,O aa al ac,O ta tl tc,O ea el ec] 130)).alloc (ze #[O p1 q1 r1,O p2 q2 r2] 50)).alloc (ze #[O pa pn pc,O za zn zc,U zd rk,U zd rn,O ra rl rc] 105)).drew (W.heap.size+1+1):=by
  have r:=(Ae.new [O pa pn pc,O za zn zc,U zd rk,U zd rn,O ra rl rc] 105 ((W.alloc (ze #[U zd 2,U zd vr,U zd (j:Int),U zd ek,U zd en,O xa xl xc,O aa al ac,O ta tl tc,O ea el ec] 130)).alloc (ze #[O p1 q1 r1,O p2 q2 r2] 50))).over (bD _)
  simpa using r
 have HJ5:=Aa (HJ1.o.over hb5)
 have HL5:=Aa (HL1.o.over (Aj bj) hb5)
 have HBW5:=Aa (Ac HB1.o hb5)
 have HRF:=Aa rowF
 have HS5:=Aa (HS.o _ hb5)
 have f0:=rowF 0 _ rfl
 have KW:=Aa (fun (W2:World) (h2:AW c.cs w0 bj av fl fv W2) (hl2:AY c.n (XJ bj) W2 (zh #[O p1 q1 r1,O p2 q2 r2]) p) (cs3:List Value) (d3:D) (hx3:RX w0 K cs3 d3) (hv3:∀ x∈AF K d3,0<=x/\x < (Ls.length:Int))=>H5 HJJ.o h2 _ p K cs3 d3 hl2 hx3 hv3)
 obtain ⟨V5,hV5⟩:=nm ((((W.alloc (ze #[U zd 2,U zd vr,U zd (j:Int),U zd ek,U zd en,O xa xl xc,O aa al ac,O ta tl tc,O ea el ec] 130)).alloc (ze #[O p1 q1 r1,O p2 q2 r2] 50)).alloc (ze #[O pa pn pc,O za zn zc,U zd rk,U zd rn,O ra rl rc] 105)).drew)
 rw [<-hV5] at HJ5 HL5 HBW5 HRF HS5
 clear hb5 rowF HS HSD HJ1 HL1 HB1
 go_wp2_with fail
 go_loopw [23] (fun x wr=>∃ m:Nat,m<=pn/\x=U zd m/\(∀ i (h1:i < f.ps.length) (h2:i < (Ap d).length),i < m->Ay (AZ c.n Ls p (AF K (Ap d)[i])) (Ls.getD f.ps[i].toNat AE) c.n=true)/\Ov V5 wr) (fun x _=>pn - (intOf x).toNat)
 case atStart=>exact ⟨0,Nat.zero_le _,rfl,fun i h1 h2 h3=>absurd h3 (by omega),by rw [<-hV5];exact Below.refl _ _⟩
 case round=>
  clear t0 t1 t2 t3 t4 t5 t6 t7 t8 t9 t10 t11 t12 t13 t14 t15 t16 t17 t18 t19 t20 t21 t22 t23 t24 t25 f0 hV5
  obtain ⟨m,hm,rfl,hall,hBr⟩:=hrel
  have HJr:=Aa (HJ5.o.over hBr)
  have HLr:=Aa (HL5.o.over (Aj bj) hBr)
  have HBW:=Aa (Ac HBW5.o hBr)
  have HALL:=Aa hall
  obtain ⟨s0,s1,s2,s3,s4,s5,s6,s7,s8,s9,s10,s11,s12,s13,s14,s15,s16,s17,s18,s19,s20,s21,s22,s23,s24,s25⟩:=HS5.o
  by_cases hlt:m < pn
  ·have hm1:m < f.ps.length:=by rw [<-HPN.o];exact hlt
   have hm2:m < (Ap d).length:=by rw [<-HPSL.o];exact hm1
   obtain ⟨bp,zp,hpo,hpe⟩:=HPEL.o (by intro h;rw [h] at hm1;simp at hm1)
   subst hpo
   have q0:=Ab HJr.o.below _ _ (hpe m hm1)
   have hvm2:=HPR.o f.ps[m] (List.getElem_mem hm1)
   obtain ⟨vm,hvm⟩:∃ q:Nat,f.ps[m]=(q:Int):=⟨f.ps[m].toNat,by omega⟩
   have hvl:vm < Ls.length:=by omega
   obtain ⟨ham,aa',ac',hae,hac⟩:=HA.o
   injection hae with x1 x2 x3
   obtain ⟨b6,z6,hao,hael⟩:=hac (by intro h;rw [h] at hm2;simp at hm2)
   obtain ⟨acs,hal3,hacs,har⟩:=hael m (Ap d)[m] (List.getElem?_eq_getElem hm2)
   obtain ⟨k3,k5,rfl⟩:=har.form
   obtain ⟨k1,hk1⟩:=nm (AI (Ap d)[m])
   obtain ⟨k2,hk2⟩:=nm (Bc (Ap d)[m])
   obtain ⟨k4,hk4⟩:=nm ((AH (Ap d)[m]).length)
   rw [<-hk1,<-hk2,<-hk4] at hacs har
   have haa:aa=some ⟨b6,z6,none⟩:=x1.trans hao
   have HAR:=Aa har
   have HAV:=Aa (CO (HCK.o (Ap d)[m] (List.getElem_mem hm2)))
   obtain ⟨r,hr⟩:=nm (Ay (AZ c.n Ls p (AF K (Ap d)[m])) Ls[vm] c.n)
   have KR:Hx (∀ (W2:World),AW c.cs w0 bj av fl fv W2->∀ (x:Value),AY c.n (XJ bj) W2 x (AZ c.n Ls p (AF K (Ap d)[m]))->Calls Tryz.prog 150 #[zj (some ⟨bj,0,none⟩),x,U zd (vm:Int)] W2 fun e W'=>e=zk (zg r)/\Ov W2 W'):=fun W2 h2 x hx=>by
    rw [hr]
    exact EF c w0 bj av fl fv gs Ls Fs HJJ.o x _ vm W2 h2 hx.at_ hx.len hvl
   have hgv:Ls.getD f.ps[m].toNat AE=Ls[vm]:=by rw [hvm];simp [List.getD_eq_getElem?_getD,hvl]
   have HSr:Hx (∀ W2,Ov wr W2->Lx bj c W p1 q1 r1 p2 q2 r2 b6 z6 al ac m k1 k2 k3 k4 k5 W2):=fun W2 hb2=>by
    have hbz:=Ac hBr hb2
    have hbw:=HJr.o.below.trans (hb2.mono HJr.o.below.size)
    exact ⟨Ab hb2 _ _ (HJr.o.cw 0 _ rfl),Ab hb2 _ _ (HJr.o.cw 1 _ rfl),Ab hb2 _ _ (HJr.o.cw 2 _ rfl),Ab hb2 _ _ (HJr.o.cw 3 _ rfl),Ab hb2 _ _ (HJr.o.cw 4 _ rfl),Ab hb2 _ _ (HJr.o.cw 5 _ rfl),Ab hb2 _ _ (HJr.o.cw 6 _ rfl),Ab hb2 _ _ (HJr.o.cw 7 _ rfl),Ab hb2 _ _ (HJr.o.cw 8 _ rfl),Ab hb2 _ _ (HJr.o.cw 9 _ rfl),Ab hbz _ _ s19,Ab hbz _ _ s20,by rw [<-haa];exact Ab hbz _ _ s16,Ab hbw _ _ (hacs 0 _ rfl),Ab hbw _ _ (hacs 1 _ rfl),Ab hbw _ _ (hacs 2 _ rfl)⟩
   obtain ⟨t0,t1,t2,t3,t4,t5,t6,t7,t8,t9,t10,t11,t12,t13,t14,t15⟩:=HSr.o wr (Below.refl _ _)
   have HNX:Hx (r=true->∀ i (h1:i < f.ps.length) (h2:i < (Ap d).length),i < m+1->Ay (AZ c.n Ls p (AF K (Ap d)[i])) (Ls.getD f.ps[i].toNat AE) c.n=true):=fun hrt i h1 h2 h3=>by
    by_cases hi:i=m
    ·subst hi;rw [hgv,<-hr];exact hrt
    ·exact HALL.o i h1 h2 (by omega)
   have HNO:Hx (r=false->DJ c.n K Ls f d p=false):=fun hrf=>by
    unfold DJ
    rw [Bool.and_eq_false_iff]
    left
    rw [List.all_eq_false]
    refine ⟨(f.ps[m],(Ap d)[m]),?_,?_⟩
    ·have:=List.getElem_mem (l:=f.ps.zip (Ap d)) (n:=m) (by simp;omega)
     simpa using this
    ·rw [hgv,<-hr,hrf];simp
   rw [hvm] at q0
   have hma:(m:Int) < (al:Int):=by rw [HAL.o];omega
   have hmp:(m:Int) < (pn:Int):=by omega
   have hal4:al<=4:=by rw [HAL.o,<-HPSL.o,<-HPN.o];exact hpn4
   clear hr hgv hvm hvm2 hvl har hacs hal3 x1 x2 x3 hao hael hac ham haa hk1 hk2 hk4 hpe hall hm1 s0 s1 s2 s3 s4 s5 s6 s7 s8 s9 s10 s11 s12 s13 s14 s15 s16 s17 s18 s19 s20 s21 s22 s23 s24 s25
   cases r with
   | true=>
    go_wp2_with fail
    refine gS (Lx bj c W p1 q1 r1 p2 q2 r2 b6 z6 al ac m k1 k2 k3 k4 k5) (HSr.o _ (bD _)) fun hHeld=>?_
    refine kT 0 ?_
    refine kT 1 ?_
    refine kT 2 ?_
    refine kT 3 ?_
    refine kT 4 ?_
    refine kT 5 ?_
    refine kT 6 ?_
    refine kT 7 ?_
    refine kT 8 ?_
    refine kT 9 ?_
    refine kT 10 ?_
    refine kT 12 ?_
    refine rdA 11 rfl fun K hK=>?_
    go_simp
    refine (KW.o _ (HJr.o.over (bD _)) (HLr.o.over (Aj bj) (bD _)) _ _ HAR.o HAV.o).mono ?_
    rintro e W6 ⟨⟨o1,o2,o3,o4,o5,o6,rfl,hL6⟩,hb6⟩
    have hb6':=Ac (bD _) hb6
    have HL6:=Aa hL6
    have HJ6:=Aa (HJr.o.over hb6')
    have HS6:=Aa (HSr.o W6 hb6')
    have HB6:=Aa hb6'
    clear hL6 hb6 hb6'
    go_simp
    refine xK hK (HS6.o) fun hHeld=>?_
    clear hK K
    refine rdA 13 rfl fun K hK=>?_
    go_simp
    refine (KR.o _ HJ6.o _ HL6.o).mono ?_
    rintro e W7 ⟨rfl,hb7⟩
    have HB7:=Aa (Ac HB6.o hb7)
    have HS7:=Aa (HSr.o W7 HB7.o)
    clear hb7
    go_simp
    refine xK hK (HS7.o) fun hHeld=>?_
    clear hK K
    refine kT 14 ?_
    refine gE ?_
    go_wp2_with fail
    exact ⟨⟨m+1,by omega,by go_num,HNX.o (by first | rfl | trivial),Ac hBr HB7.o⟩,by simp [intOf];omega⟩
   | false=>
    go_wp2_with fail
    refine gS (Lx bj c W p1 q1 r1 p2 q2 r2 b6 z6 al ac m k1 k2 k3 k4 k5) (HSr.o _ (bD _)) fun hHeld=>?_
    refine kT 0 ?_
    refine kT 1 ?_
    refine kT 2 ?_
    refine kT 3 ?_
    refine kT 4 ?_
    refine kT 5 ?_
    refine kT 6 ?_
    refine kT 7 ?_
    refine kT 8 ?_
    refine kT 9 ?_
    refine kT 10 ?_
    refine kT 12 ?_
    refine rdA 11 rfl fun K hK=>?_
    go_simp
    refine (KW.o _ (HJr.o.over (bD _)) (HLr.o.over (Aj bj) (bD _)) _ _ HAR.o HAV.o).mono ?_
    rintro e W6 ⟨⟨o1,o2,o3,o4,o5,o6,rfl,hL6⟩,hb6⟩
    have hb6':=Ac (bD _) hb6
    have HL6:=Aa hL6
    have HJ6:=Aa (HJr.o.over hb6')
    have HS6:=Aa (HSr.o W6 hb6')
    have HB6:=Aa hb6'
    clear hL6 hb6 hb6'
    go_simp
    refine xK hK (HS6.o) fun hHeld=>?_
    clear hK K
    refine rdA 13 rfl fun K hK=>?_
    go_simp
    refine (KR.o _ HJ6.o _ HL6.o).mono ?_
    rintro e W7 ⟨rfl,hb7⟩
    have HB7:=Aa (Ac HB6.o hb7)
    have HS7:=Aa (HSr.o W7 HB7.o)
    clear hb7
    go_simp
    refine xK hK (HS7.o) fun hHeld=>?_
    clear hK K
    refine kT 14 ?_
    refine gE ?_
    go_wp2_with fail
    go_ret
    exact ⟨by rw [HNO.o (by first | rfl | trivial)];rfl,Ac HBW.o HB7.o⟩
  ·have hme:m=pn:=by omega
   obtain ⟨jv,hjv⟩:∃ q:Nat,AK d=(q:Int):=⟨(AK d).toNat,by have:=HV2.o;omega⟩
   have hjl:jv < Ls.length:=by have:=HV2.o;omega
   obtain ⟨r,hr⟩:=nm (Ay (AZ c.n Ls p (AF K f.res)) Ls[jv] c.n)
   have KR:Hx (∀ (W2:World),AW c.cs w0 bj av fl fv W2->∀ (x:Value),AY c.n (XJ bj) W2 x (AZ c.n Ls p (AF K f.res))->Calls Tryz.prog 150 #[zj (some ⟨bj,0,none⟩),x,U zd (jv:Int)] W2 fun e W'=>e=zk (zg r)/\Ov W2 W'):=fun W2 h2 x hx=>by
    rw [hr]
    exact EF c w0 bj av fl fv gs Ls Fs HJJ.o x _ jv W2 h2 hx.at_ hx.len hjl
   have HFIN:Hx (DJ c.n K Ls f d p=r):=by
    have e1:((f.ps.zip (Ap d)).all fun q=>Ay (AZ c.n Ls p (AF K q.2)) (Ls.getD q.1.toNat AE) c.n)=true:=by
     rw [List.all_eq_true]
     intro q hq
     obtain ⟨i,hi,rfl⟩:=List.getElem_of_mem hq
     have hz:(f.ps.zip (Ap d)).length=min f.ps.length (Ap d).length:=List.length_zip
     have hi1:i < f.ps.length:=by omega
     have hi2:i < (Ap d).length:=by omega
     have:=HALL.o i hi1 hi2 (by rw [hme,HPN.o];exact hi1)
     simpa using this
    have e2:Ls.getD (AK d).toNat AE=Ls[jv]:=by rw [hjv];simp [List.getD_eq_getElem?_getD,hjl]
    unfold DJ
    rw [e1,e2,hr,Bool.true_and]
    exact Aa rfl
   have HRV:=Aa (CO HRC.o)
   have HSr:Hx (∀ W2,Ov wr W2->NB bj c W p1 q1 r1 p2 q2 r2 jv rk rn ra rl rc W2):=fun W2 hb2=>by
    have hbz:=Ac hBr hb2
    exact ⟨Ab hb2 _ _ (HJr.o.cw 0 _ rfl),Ab hb2 _ _ (HJr.o.cw 1 _ rfl),Ab hb2 _ _ (HJr.o.cw 2 _ rfl),Ab hb2 _ _ (HJr.o.cw 3 _ rfl),Ab hb2 _ _ (HJr.o.cw 4 _ rfl),Ab hb2 _ _ (HJr.o.cw 5 _ rfl),Ab hb2 _ _ (HJr.o.cw 6 _ rfl),Ab hb2 _ _ (HJr.o.cw 7 _ rfl),Ab hb2 _ _ (HJr.o.cw 8 _ rfl),Ab hb2 _ _ (HJr.o.cw 9 _ rfl),Ab hbz _ _ s19,Ab hbz _ _ s20,by rw [<-hjv,<-HVR.o];exact Ab hbz _ _ s11,Ab hbz _ _ (HRF.o 2 _ rfl),Ab hbz _ _ (HRF.o 3 _ rfl),Ab hbz _ _ (HRF.o 4 _ rfl)⟩
   obtain ⟨t0,t1,t2,t3,t4,t5,t6,t7,t8,t9,t10,t11,t12,t13,t14,t15⟩:=HSr.o wr (Below.refl _ _)
   have hmp:¬ (m:Int) < (pn:Int):=by omega
   clear hr hjv hjl hall hme s0 s1 s2 s3 s4 s5 s6 s7 s8 s9 s10 s11 s12 s13 s14 s15 s16 s17 s18 s19 s20 s21 s22 s23 s24 s25
   go_wp2_with fail
   refine gS (NB bj c W p1 q1 r1 p2 q2 r2 jv rk rn ra rl rc) (HSr.o _ (bD _)) fun hHeld=>?_
   refine kT 0 ?_
   refine kT 1 ?_
   refine kT 2 ?_
   refine kT 3 ?_
   refine kT 4 ?_
   refine kT 5 ?_
   refine kT 6 ?_
   refine kT 7 ?_
   refine kT 9 ?_
   refine kT 10 ?_
   refine rdA 8 rfl fun K hK=>?_
   go_simp
   refine (KW.o _ (HJr.o.over (bD _)) (HLr.o.over (Aj bj) (bD _)) _ _ HRES.o HRV.o).mono ?_
   rintro e W6 ⟨⟨o1,o2,o3,o4,o5,o6,rfl,hL6⟩,hb6⟩
   have hb6':=Ac (bD _) hb6
   have HL6:=Aa hL6
   have HJ6:=Aa (HJr.o.over hb6')
   have HS6:=Aa (HSr.o W6 hb6')
   have HB6:=Aa hb6'
   clear hL6 hb6 hb6'
   go_simp
   refine xK hK (HS6.o) fun hHeld=>?_
   clear hK K
   refine rdA 11 rfl fun K hK=>?_
   go_simp
   refine (KR.o _ HJ6.o _ HL6.o).mono ?_
   rintro e W7 ⟨rfl,hb7⟩
   have HB7:=Aa (Ac HB6.o hb7)
   have HS7:=Aa (HSr.o W7 HB7.o)
   clear hb7
   go_simp
   refine xK hK (HS7.o) fun hHeld=>?_
   clear hK K
   refine kT 12 ?_
   refine gE ?_
   go_wp2_with fail
   go_ret
   exact ⟨by rw [HFIN.o];rfl,Ac HBW.o HB7.o⟩
theorem N0 (c) (w0:World) (bj:Nat) (av:Value) (gs Ls Fs) (J:JSt c w0 gs Ls Fs) (sp) (A:JAc c w0 av (AD gs) sp) (K ni no:Nat) (fs vs) (hvs:Br w0 (O c.va c.vn c.vc) vs) (hvn:vs.length=Ls.length) (hvc:∀ v∈vs,Bo c.n gs v.2=0) (ls) (hls:Bb w0 (O c.ya c.yn c.yc) ls) (hlc:∀ b∈ls,Bo c.n gs b=0) (hni:ls.length=ni) (hni5:ni<=5) (os) (hos:Bb w0 (O c.oa c.on c.oc) os) (hoc:∀ b∈os,Bo c.n gs b=0) (hno:os.length=no) (hno5:no<=5)
  (fl:List (Int × Int)) (hfl:fl.length<=900) (fv:Value) (W:World) (a:Int) (k:Nat) (cs:List Value) (d:D) (v:Value) (p:Lev) (funcs:Int) (h:AW c.cs w0 bj av fl fv W) (hrs:RS w0 K (k+1) cs d) (hok:CJ K Ls.length ni no funcs fs d) (hl:AY c.n (XJ bj) W v p) (kf:Nat) (hfs:BC w0 K kf (O c.fa c.fn c.fc) fs) (hf5:fs.length<=5) (hof:∀ i (h:i < fs.length),okF K Ls.length ni no (i:Int) fs kf fs[i]) (hfn:funcs<=fs.length) (hk:Am d=2) :
  Calls Tryz.prog 88 #[zj (some ⟨bj,0,none⟩),U zd a,.agg cs.toArray,v] W fun e W'=>e=zk (zm #[])/\(∃ fv',AW c.cs w0 bj av (addF a 2 fl (!DJ c.n K Ls (EP fs (Ah d)) d p)) fv' W')/\FrW (XJ bj) W W':=by
 have hrs':=hrs
 obtain ⟨p1,q1,r1,p2,q2,r2,rfl⟩:=hl.form
 obtain ⟨ek,en,xa,xl,xc,aa,ac,ta,tc,ea,ec,rfl,i0,i1,i2,hX,hA,hT,hE,-,-,-⟩:=hrs.form
 have hkd:sC (Am d) (AK d) (Ah d) ek en xa xl xc aa (Ap d).length ac ta (Av d).length tc ea (Ax d).length ec=sC 2 (AK d) (Ah d) ek en xa xl xc aa (Ap d).length ac ta (Av d).length tc ea (Ax d).length ec:=by rw [hk]
 rw [hkd]
 clear hkd
 obtain ⟨r,hr⟩:=nm (DJ c.n K Ls (EP fs (Ah d)) d p)
 rw [<-hr]
 obtain ⟨vr,hvr⟩:=nm (AK d)
 obtain ⟨ot,hot⟩:=nm (Ah d)
 obtain ⟨al,hal⟩:=nm ((Ap d).length)
 obtain ⟨tl,htl⟩:=nm ((Av d).length)
 obtain ⟨el,hel⟩:=nm ((Ax d).length)
 rw [<-hvr,<-hot,<-hal,<-htl,<-hel]
 obtain ⟨hbox,hb⟩:=Da bj a [U zd 2,U zd vr,U zd ot,U zd ek,U zd en,O xa xl xc,O aa al ac,O ta tl tc,O ea el ec] [O p1 q1 r1,O p2 q2 r2] W (fun k hk=>(h.xlt k hk).2)
 have hF1:=FrW.of_below (Aj bj) hb
 have hFD:=hF1.trans (FrW.of_below (Aj bj) (bD _))
 have HF1:=Aa hF1
 have HJ1:=Aa (h.over hb)
 have HBX1:=Aa hbox
 have HL1:=Aa (hl.keep J.n1 hF1)
 have HJD:=Aa (HJ1.o.over (bD _))
 have HBXD:=Aa (hbox.keep (FrW.of_below (Aj bj) (bD _)))
 have HLD:=Aa (hl.keep J.n1 hFD)
 have HFD:=Aa hFD
 have hkd:sC (Am d) (AK d) (Ah d) ek en xa xl xc aa (Ap d).length ac ta (Av d).length tc ea (Ax d).length ec=sC 2 vr ot ek en xa xl xc aa al ac ta tl tc ea el ec:=by rw [hk,hvr,hot,hal,htl,hel]
 rw [hkd] at hrs'
 have KC:Hx (∀ (W2:World),AW c.cs w0 bj av fl fv W2->AY c.n (XJ bj) W2 (zh #[O p1 q1 r1,O p2 q2 r2]) p->Calls Tryz.prog 151 #[zj (some ⟨bj,0,none⟩),zh #[U zd 2,U zd vr,U zd ot,U zd ek,U zd en,O xa xl xc,O aa al ac,O ta tl tc,O ea el ec],(zh #[O p1 q1 r1,O p2 q2 r2])] W2 fun e W'=>e=zk (zg r)/\Ov W2 W'):=fun W2 h2 hl2=>by
  rw [hr]
  exact JJ c w0 bj av gs Ls Fs J K ni no kf fs hfs hf5 hof fl fv W2 k _ d _ p funcs h2 hrs' hfn hok hl2 hk
 have KB:=Aa (fun (W2:World) (h2:AW c.cs w0 bj av fl fv W2) (hb2:D8 bj W.heap.size a [U zd 2,U zd vr,U zd ot,U zd ek,U zd en,O xa xl xc,O aa al ac,O ta tl tc,O ea el ec] [O p1 q1 r1,O p2 q2 r2] W2) (is:Bool)=>Ff c.cs w0 bj av fl fv a 2 is W.heap.size (W.heap.size+1) W2 h2 hb2.j hb2.a (hb2.x _ (Nat.le_refl _) (by omega)) (hb2.x _ (by omega) (by omega)) (by omega))
 have HS:Hx (∀ (W2:World),D8 bj W.heap.size a [U zd 2,U zd vr,U zd ot,U zd ek,U zd en,O xa xl xc,O aa al ac,O ta tl tc,O ea el ec] [O p1 q1 r1,O p2 q2 r2] W2->CE W2 W.heap.size 0 (zj (some ⟨bj,0,none⟩))/\CE W2 (W.heap.size+1+1) 0 (U zd 2)/\CE W2 (W.heap.size+1+1) 1 (U zd vr)/\CE W2 (W.heap.size+1+1) 2 (U zd ot)/\CE W2 (W.heap.size+1+1) 3 (U zd ek)/\CE W2 (W.heap.size+1+1) 4 (U zd en)/\CE W2 (W.heap.size+1+1) 5 (O xa xl xc)/\CE W2 (W.heap.size+1+1) 6 (O aa al ac)/\CE W2 (W.heap.size+1+1) 7 (O ta tl tc)/\CE W2 (W.heap.size+1+1) 8 (O ea el ec)/\CE W2 (W.heap.size+1+1+1) 0 (O p1 q1 r1)/\CE W2 (W.heap.size+1+1+1) 1 (O p2 q2 r2)):=fun W2 hb2=>⟨hb2.j,hb2.st 0 _ rfl,hb2.st 1 _ rfl,hb2.st 2 _ rfl,hb2.st 3 _ rfl,hb2.st 4 _ rfl,hb2.st 5 _ rfl,hb2.st 6 _ rfl,hb2.st 7 _ rfl,hb2.st 8 _ rfl,hb2.lv 0 _ rfl,hb2.lv 1 _ rfl⟩
 obtain ⟨t0,t1,t2,t3,t4,t5,t6,t7,t8,t9,t10,t11⟩:=HS.o _ HBX1.o
 clear hr hkd hrs' hvr hot hal htl hel hbox hb hF1 hFD h hl hrs hX hA hT hE hok J A hvs hvc hls hlc hos hoc hfl hk i0 i1 i2 hfs hof
 go_enter Tryz.func88,Tryz.ntmps88
 go_wp2_with fail
 refine (KC.o _ HJ1.o HL1.o).mono ?_
 rintro e W3 ⟨rfl,hb3⟩
 have HJ3:=Aa (HJ1.o.over hb3)
 have HB3:=Aa (HBX1.o.keep (FrW.of_below (Aj bj) hb3))
 have HF3:=Aa (HF1.o.trans (FrW.of_below (Aj bj) hb3))
 clear hb3
 go_wp2_with fail
 refine (KB.o _ HJ3.o HB3.o _).mono ?_
 rintro e W5 ⟨rfl,⟨fv5,hJ5⟩,hF5⟩
 have HJ5:=Aa hJ5
 have HF5:=Aa (HF3.o.trans hF5)
 clear hJ5 hF5
 go_wp2_with fail
 go_end0
 exact ⟨rfl,⟨fv5,HJ5.o⟩,HF5.o⟩
theorem E5 {m n:Nat} {v:Value} (h:Lk m v) (hn:n<=m):Lk n v:=by
 obtain ⟨x,y,hv,hx,hy⟩:=h
 exact ⟨x,y,hv,fun a k c e=>Nat.le_trans hn (hx a k c e),fun a k c e=>Nat.le_trans hn (hy a k c e)⟩
theorem KY {n bj bc:Nat} {A Z W4:World} {x y v:Value} {l:Lev} (hf:Be Z W4 v l) (hl:l.len n) (hb:Ov A ((W4.setCell ⟨bc,0,none⟩ x).setCell ⟨bc,1,none⟩ y)) (hlt:∀ k,XJ bj A k->k < A.heap.size) (h1:bc < Z.heap.size) (h2:A.heap.size<=Z.heap.size):AY n (XJ bj) ((W4.setCell ⟨bc,0,none⟩ x).setCell ⟨bc,1,none⟩ y) v l:=by
 have hn:=BP hf
 obtain ⟨u,w,rfl,bu,bw⟩:=Aq hf
 obtain ⟨u',w',he,hu,hw⟩:=hn
 simp at he
 obtain ⟨rfl,rfl⟩:=he
 have hF:FrW (fun _ k=>k=bc) W4 ((W4.setCell ⟨bc,0,none⟩ x).setCell ⟨bc,1,none⟩ y):=⟨rfl,rfl,rfl,by simp [World.setCell],fun k hk hx=>by rw [Bl (Ne.symm hx),Bl (Ne.symm hx)],fun k _ h=>h⟩
 refine ⟨⟨u,w,rfl,DH bu hF (fun a m c e=>by have:=hu a m c e;omega),DH bw hF (fun a m c e=>by have:=hw a m c e;omega)⟩,hl,?_⟩
 exact Cz (Aj bj) hb hlt (E5 (BP hf) h2)
abbrev JV (W:World) (bj:Nat) (c:WC) (bo oo jo:Nat) (pa1:Option Addr) (pn1 pc1:Nat) (pa2:Option Addr) (pn2 pc2:Nat) (Wz:World):Prop:=Wz.cell? ⟨W.heap.size,0,none⟩=some (zj (some ⟨bj,0,none⟩))/\CE Wz bj 0 (U zd (c.n:Int))/\CE Wz bj 1 (O c.ga c.gn c.gc)/\CE Wz bj 2 (O c.sa c.sn c.sc)/\CE Wz bj 3 (O (some ⟨bo,oo,none⟩) c.yn c.yc)/\CE Wz bj 4 (O c.oa c.on c.oc)/\CE Wz bj 5 (O c.va c.vn c.vc)/\CE Wz bj 6 (O c.fa c.fn c.fc)/\CE Wz bj 7 (O c.ba c.bn c.bc)/\CE Wz bj 8 (O c.la c.ln c.lc)/\CE Wz bj 9 (O c.ka c.kn c.kc)/\CE Wz (W.heap.size+1+1) 2 (U zd (jo:Int))/\CE Wz bo (oo+jo*2) (O pa1 pn1 pc1)/\CE Wz bo (oo+jo*2+1) (O pa2 pn2 pc2)
abbrev Lw (W:World) (bj:Nat) (c:WC) (bo oo jv:Nat) (p1:Option Addr) (q1 r1:Nat) (p2:Option Addr) (q2 r2:Nat) (W4:World) (a1:Option Addr) (a2 a3:Nat) (a4:Option Addr) (a5 a6:Nat) (Wz:World):Prop:=Wz.cell? ⟨W.heap.size,0,none⟩=some (zj (some ⟨bj,0,none⟩))/\CE Wz bj 0 (U zd (c.n:Int))/\CE Wz bj 1 (O c.ga c.gn c.gc)/\CE Wz bj 2 (O c.sa c.sn c.sc)/\CE Wz bj 3 (O (some ⟨bo,oo,none⟩) c.yn c.yc)/\CE Wz bj 4 (O c.oa c.on c.oc)/\CE Wz bj 5 (O c.va c.vn c.vc)/\CE Wz bj 6 (O c.fa c.fn c.fc)/\CE Wz bj 7 (O c.ba c.bn c.bc)/\CE Wz bj 8 (O c.la c.ln c.lc)/\CE Wz bj 9 (O c.ka c.kn c.kc)/\CE Wz (W.heap.size+1+1) 1 (U zd (jv:Int))/\CE Wz (W.heap.size+1+1+1) 0 (O p1 q1 r1)/\CE Wz (W.heap.size+1+1+1) 1 (O p2 q2 r2)/\CE Wz W4.heap.size 0 (O a1 a2 a3)/\CE Wz W4.heap.size 1 (O a4 a5 a6)
abbrev Lv (W:World) (bj:Nat) (c:WC) (bo oo jv:Nat) (p1:Option Addr) (q1 r1:Nat) (p2:Option Addr) (q2 r2:Nat) (a1:Option Addr) (a2 a3:Nat) (a4:Option Addr) (a5 a6:Nat) (Wz:World):Prop:=Wz.cell? ⟨W.heap.size,0,none⟩=some (zj (some ⟨bj,0,none⟩))/\CE Wz bj 0 (U zd (c.n:Int))/\CE Wz bj 1 (O c.ga c.gn c.gc)/\CE Wz bj 2 (O c.sa c.sn c.sc)/\CE Wz bj 3 (O (some ⟨bo,oo,none⟩) c.yn c.yc)/\CE Wz bj 4 (O c.oa c.on c.oc)/\CE Wz bj 5 (O c.va c.vn c.vc)/\CE Wz bj 6 (O c.fa c.fn c.fc)/\CE Wz bj 7 (O c.ba c.bn c.bc)/\CE Wz bj 8 (O c.la c.ln c.lc)/\CE Wz bj 9 (O c.ka c.kn c.kc)/\CE Wz (W.heap.size+1+1) 1 (U zd (jv:Int))/\CE Wz (W.heap.size+1+1+1) 0 (O p1 q1 r1)/\CE Wz (W.heap.size+1+1+1) 1 (O p2 q2 r2)/\CE Wz (W.heap.size+1+1+1+1) 0 (O a1 a2 a3)/\CE Wz (W.heap.size+1+1+1+1) 1 (O a4 a5 a6)
theorem NZ (c) (w0:World) (bj:Nat) (av:Value) (gs Ls Fs) (J:JSt c w0 gs Ls Fs) (sp) (A:JAc c w0 av (AD gs) sp) (K ni no:Nat) (fs vs) (hvs:Br w0 (O c.va c.vn c.vc) vs) (hvn:vs.length=Ls.length) (hvc:∀ v∈vs,Bo c.n gs v.2=0) (ls) (hls:Bb w0 (O c.ya c.yn c.yc) ls) (hlc:∀ b∈ls,Bo c.n gs b=0) (hni:ls.length=ni) (hni5:ni<=5) (os) (hos:Bb w0 (O c.oa c.on c.oc) os) (hoc:∀ b∈os,Bo c.n gs b=0) (hno:os.length=no) (hno5:no<=5)
  (fl:List (Int × Int)) (hfl:fl.length<=900) (fv:Value) (W:World) (a:Int) (k:Nat) (cs:List Value) (d:D) (v:Value) (p:Lev) (funcs:Int) (h:AW c.cs w0 bj av fl fv W) (hrs:RS w0 K (k+1) cs d) (hok:CJ K Ls.length ni no funcs fs d) (hl:AY c.n (XJ bj) W v p) (hk:Am d=3) :
  Calls Tryz.prog 88 #[zj (some ⟨bj,0,none⟩),U zd a,.agg cs.toArray,v] W fun e W'=>e=zk (zm #[])/\(∃ fv',AW c.cs w0 bj av (addF a 3 fl (!Ay (Bs (AA (AD gs) c.n (ls.getD (Ah d).toNat ⟨[],[]⟩)) p c.n) (Ls.getD (AK d).toNat AE) c.n || !Ay p (AA (AD gs) c.n (ls.getD (Ah d).toNat ⟨[],[]⟩)) c.n)) fv' W')/\FrW (XJ bj) W W':=by
 have hv2:=hok.2.1 (by omega)
 have ho2:0<=Ah d/\Ah d < ni:=hok.2.2.2.1 hk
 obtain ⟨jv,hjv⟩:∃ j:Nat,AK d=(j:Int):=⟨(AK d).toNat,by omega⟩
 have hjl:jv < Ls.length:=by omega
 obtain ⟨p1,q1,r1,p2,q2,r2,rfl⟩:=hl.form
 obtain ⟨ek,en,xa,xl,xc,aa,ac,ta,tc,ea,ec,rfl,i0,i1,i2,hX,hA,hT,hE,-,-,-⟩:=hrs.form
 have hkd:sC (Am d) (AK d) (Ah d) ek en xa xl xc aa (Ap d).length ac ta (Av d).length tc ea (Ax d).length ec=sC 3 (AK d) (Ah d) ek en xa xl xc aa (Ap d).length ac ta (Av d).length tc ea (Ax d).length ec:=by rw [hk]
 rw [hkd]
 clear hkd
 obtain ⟨hym,ya',yc',hye,hyc⟩:=hls
 injection hye with y1 y2 y3
 obtain ⟨jo,hjo⟩:∃ j:Nat,Ah d=(j:Int):=⟨(Ah d).toNat,by omega⟩
 have hjL:jo < ls.length:=by omega
 obtain ⟨bo,oo,hyo,hyel⟩:=hyc (by intro h;rw [h] at hjL;simp at hjL)
 obtain ⟨pr,pw,l0,l1,hpr,hpw⟩:=hyel jo hjL
 obtain ⟨pa1,pn1,pc1,rfl⟩:=AO hpr
 obtain ⟨pa2,pn2,pc2,rfl⟩:=AO hpw
 have hya:c.ya=some ⟨bo,oo,none⟩:=y1.trans hyo
 have hyn:c.yn=ls.length:=y2
 have hgd:ls.getD (Ah d).toNat ⟨[],[]⟩=ls[jo]:=by rw [hjo];simp [List.getD_eq_getElem?_getD,hjL]
 have hgv:Ls.getD (AK d).toNat AE=Ls[jv]:=by rw [hjv];simp [List.getD_eq_getElem?_getD,hjl]
 rw [hgd,hgv]
 have hlk:=hlc ls[jo] (List.getElem_mem hjL)
 generalize ls[jo]=lb at hlk hpr hpw ⊢
 obtain ⟨r,hr⟩:=nm (Ay (Bs (AA (AD gs) c.n lb) p c.n) Ls[jv] c.n)
 obtain ⟨r',hr'⟩:=nm (Ay p (AA (AD gs) c.n lb) c.n)
 rw [<-hr,<-hr']
 obtain ⟨vr,hvr⟩:=nm (AK d)
 obtain ⟨ot,hot⟩:=nm (Ah d)
 obtain ⟨al,hal⟩:=nm ((Ap d).length)
 obtain ⟨tl,htl⟩:=nm ((Av d).length)
 obtain ⟨el,hel⟩:=nm ((Ax d).length)
 rw [<-hvr,<-hot,<-hal,<-htl,<-hel]
 obtain ⟨hbox,hb⟩:=Da bj a [U zd 3,U zd vr,U zd ot,U zd ek,U zd en,O xa xl xc,O aa al ac,O ta tl tc,O ea el ec] [O p1 q1 r1,O p2 q2 r2] W (fun k hk=>(h.xlt k hk).2)
 have hF1:=FrW.of_below (Aj bj) hb
 have hFD:=hF1.trans (FrW.of_below (Aj bj) (bD _))
 have HF1:=Aa hF1
 have HJ1:=Aa (h.over hb)
 have HBX1:=Aa hbox
 have HL1:=Aa (hl.keep J.n1 hF1)
 have HJD:=Aa (HJ1.o.over (bD _))
 have HBXD:=Aa (hbox.keep (FrW.of_below (Aj bj) (bD _)))
 have HLD:=Aa (hl.keep J.n1 hFD)
 have HFD:=Aa hFD
 obtain rfl:vr=(jv:Int):=by rw [hvr,hjv]
 obtain rfl:ot=(jo:Int):=by rw [hot,hjo]
 have HYA:=Aa hya
 have HN1:=Aa J.n1
 have hcv:c.v=(zh #[U zd (c.n:Int),O c.ga c.gn c.gc,O c.sa c.sn c.sc,O (some ⟨bo,oo,none⟩) c.yn c.yc,O c.oa c.on c.oc,O c.va c.vn c.vc,O c.fa c.fn c.fc,O c.ba c.bn c.bc,O c.la c.ln c.lc,O c.ka c.kn c.kc]):=by show Value.agg #[U zd (c.n:Int),O c.ga c.gn c.gc,O c.sa c.sn c.sc,O c.ya c.yn c.yc,O c.oa c.on c.oc,O c.va c.vn c.vc,O c.fa c.fn c.fc,O c.ba c.bn c.bc,O c.la c.ln c.lc,O c.ka c.kn c.kc]=_;rw [hya]
 have KL:Hx (∀ (W2:World),AW c.cs w0 bj av fl fv W2->Calls Tryz.prog 114 #[(zh #[U zd (c.n:Int),O c.ga c.gn c.gc,O c.sa c.sn c.sc,O (some ⟨bo,oo,none⟩) c.yn c.yc,O c.oa c.on c.oc,O c.va c.vn c.vc,O c.fa c.fn c.fc,O c.ba c.bn c.bc,O c.la c.ln c.lc,O c.ka c.kn c.kc]),zh #[O pa1 pn1 pc1,O pa2 pn2 pc2]] W2 fun e w'=>∃ vj,e=zk vj/\Be W2 w' vj (AA (AD gs) c.n lb)/\Ov W2 w'):=fun W2 h2=>by
  have:=Mb c gs (O pa1 pn1 pc1) (O pa2 pn2 pc2) lb W2 (Af J.gr h2.below) (Ai hpr h2.below) (Ai hpw h2.below) hlk
  rw [hcv] at this
  exact this
 have KJ:Hx (∀ (W2:World) {x:Value},AW c.cs w0 bj av fl fv W2->AY c.n (XJ bj) W2 x (AA (AD gs) c.n lb)->AY c.n (XJ bj) W2 (zh #[O p1 q1 r1,O p2 q2 r2]) p->Calls Tryz.prog 58 #[(zh #[U zd (c.n:Int),O c.ga c.gn c.gc,O c.sa c.sn c.sc,O (some ⟨bo,oo,none⟩) c.yn c.yc,O c.oa c.on c.oc,O c.va c.vn c.vc,O c.fa c.fn c.fc,O c.ba c.bn c.bc,O c.la c.ln c.lc,O c.ka c.kn c.kc]),x,(zh #[O p1 q1 r1,O p2 q2 r2])] W2 fun e w'=>∃ vj,e=zk vj/\Be W2 w' vj (Bs (AA (AD gs) c.n lb) p c.n)/\Ov W2 w'):=fun W2 x h2 hx hy=>by
  have:=Pw c gs x _ _ _ W2 (Af J.gr h2.below) J.chk hx.at_ hx.len hy.at_ hy.len
  rw [hcv] at this
  exact this
 have KR:Hx (∀ (W2:World),AW c.cs w0 bj av fl fv W2->∀ (x:Value),AQ W2 x (Bs (AA (AD gs) c.n lb) p c.n)->Calls Tryz.prog 150 #[zj (some ⟨bj,0,none⟩),x,U zd (jv:Int)] W2 fun e W'=>e=zk (zg r)/\Ov W2 W'):=fun W2 h2 x hx=>by
  rw [hr]
  exact EF c w0 bj av fl fv gs Ls Fs J x _ jv W2 h2 hx ⟨A5 _ _,A5 _ _⟩ hjl
 have KF:Hx (∀ (W2:World) {y:Value},AW c.cs w0 bj av fl fv W2->AY c.n (XJ bj) W2 (zh #[O p1 q1 r1,O p2 q2 r2]) p->AY c.n (XJ bj) W2 y (AA (AD gs) c.n lb)->Calls Tryz.prog 57 #[(zh #[U zd (c.n:Int),O c.ga c.gn c.gc,O c.sa c.sn c.sc,O (some ⟨bo,oo,none⟩) c.yn c.yc,O c.oa c.on c.oc,O c.va c.vn c.vc,O c.fa c.fn c.fc,O c.ba c.bn c.bc,O c.la c.ln c.lc,O c.ka c.kn c.kc]),(zh #[O p1 q1 r1,O p2 q2 r2]),y] W2 fun e W'=>e=zk (zg r')/\Ov W2 W'):=fun W2 y h2 hx hy=>by
  have:=Ga c gs _ y _ _ W2 (Af J.gr h2.below) J.chk hx.at_ hx.len hy.at_ hy.len
  rw [hcv,<-hr'] at this
  exact this
 have KB:=Aa (fun (W2:World) (h2:AW c.cs w0 bj av fl fv W2) (hb2:D8 bj W.heap.size a [U zd 3,U zd (jv:Int),U zd (jo:Int),U zd ek,U zd en,O xa xl xc,O aa al ac,O ta tl tc,O ea el ec] [O p1 q1 r1,O p2 q2 r2] W2) (is:Bool)=>Ff c.cs w0 bj av fl fv a 3 is W.heap.size (W.heap.size+1) W2 h2 hb2.j hb2.a (hb2.x _ (Nat.le_refl _) (by omega)) (hb2.x _ (by omega) (by omega)) (by omega))
 have HS:Hx (∀ (W2:World) (fl2:List (Int × Int)) (fv2:Value),AW c.cs w0 bj av fl2 fv2 W2->D8 bj W.heap.size a [U zd 3,U zd (jv:Int),U zd (jo:Int),U zd ek,U zd en,O xa xl xc,O aa al ac,O ta tl tc,O ea el ec] [O p1 q1 r1,O p2 q2 r2] W2->JV W bj c bo oo jo pa1 pn1 pc1 pa2 pn2 pc2 W2):=fun W2 fl2 fv2 h2 hb2=>⟨hb2.j,h2.cw 0 _ rfl,h2.cw 1 _ rfl,h2.cw 2 _ rfl,by rw [<-HYA.o];exact h2.cw 3 _ rfl,h2.cw 4 _ rfl,h2.cw 5 _ rfl,h2.cw 6 _ rfl,h2.cw 7 _ rfl,h2.cw 8 _ rfl,h2.cw 9 _ rfl,hb2.st 2 _ rfl,Ab h2.below _ _ l0,Ab h2.below _ _ l1⟩
 have HSD:=Aa (HS.o _ _ _ HJD.o HBXD.o)
 obtain ⟨t0,t1,t2,t3,t4,t5,t6,t7,t8,t9,t10,t11,t12,t13⟩:=HS.o _ _ _ HJ1.o HBX1.o
 have g0:=hbox.st 0 _ rfl
 have gj1:(jo:Int) < (c.yn:Int):=by omega
 have gj2:c.yn<=5:=by omega
 clear hr hr' hgd hgv hjo hjv hv2 ho2 hlk hcv hya hyn hyc hyel hyo hym y1 y2 y3 l0 l1 hpr hpw hvr hot hal htl hel hbox hb hF1 hFD h hl hrs hX hA hT hE hok J A hvs hvc hlc hos hoc hfl hk i0 i1 i2 hjL hno hni hjl
 go_enter Tryz.func88,Tryz.ntmps88
 go_wp2_with fail
 refine gS (JV W bj c bo oo jo pa1 pn1 pc1 pa2 pn2 pc2) (HSD.o) fun hHeld=>?_
 refine kT 0 ?_
 refine kT 1 ?_
 refine kT 2 ?_
 refine kT 3 ?_
 refine kT 4 ?_
 refine kT 5 ?_
 refine kT 6 ?_
 refine kT 7 ?_
 refine kT 8 ?_
 refine kT 9 ?_
 refine kT 10 ?_
 refine kT 11 ?_
 refine kT 12 ?_
 refine kT 13 ?_
 refine rdB 14 15 rfl (fun K hK=>?_) rfl fun K hK=>?_
 ·go_simp
  refine (KL.o _ HJD.o).mono ?_
  rintro e W4 ⟨vj,rfl,hL4,hb4⟩
  obtain ⟨a1,a2,a3,a4,a5,a6,hvj⟩:∃ a1 a2 a3 a4 a5 a6,vj=zh #[O a1 a2 a3,O a4 a5 a6]:=by
   obtain ⟨x,y,e,-⟩:=Aq hL4
   subst e
   obtain ⟨z1,z2,z3,z4,z5,z6,rfl,rfl⟩:=AP (Aq hL4)
   exact ⟨_,_,_,_,_,_,rfl⟩
  subst hvj
  have hb4':=Ac (bD _) hb4
  have hHS:∀ W2,Ov ((((W.alloc (ze #[zj (some ⟨bj,0,none⟩)] 161)).alloc (ze #[U zd a] 3)).alloc (ze #[U zd 3,U zd (jv:Int),U zd (jo:Int),U zd ek,U zd en,O xa xl xc,O aa al ac,O ta tl tc,O ea el ec] 130)).alloc (ze #[O p1 q1 r1,O p2 q2 r2] 50)) W2->JV W bj c bo oo jo pa1 pn1 pc1 pa2 pn2 pc2 W2:=fun W2 hb2=>HS.o W2 _ _ (HJ1.o.over hb2) (HBX1.o.keep (FrW.of_below (Aj bj) hb2))
  have HHS:=Aa hHS
  have HB4:=Aa hb4'
  have HL4:=Aa hL4
  clear hb4 hb4' hL4 hHS
  go_simp
  refine xK hK (HHS.o _ HB4.o) fun hHeld=>?_
  clear hK K
  refine rdA 15 rfl fun K hK=>?_
  go_simp
  refine xK hK (HHS.o _ (Ac HB4.o (bA _ _))) fun hHeld=>?_
  clear hK K
  refine rdA 16 rfl fun K hK=>?_
  go_simp
  refine xK hK (HHS.o _ (Ac HB4.o (bA _ _))) fun hHeld=>?_
  clear hK K
  refine gE ?_
  have hbC:Ov ((((W.alloc (ze #[zj (some ⟨bj,0,none⟩)] 161)).alloc (ze #[U zd a] 3)).alloc (ze #[U zd 3,U zd (jv:Int),U zd (jo:Int),U zd ek,U zd en,O xa xl xc,O aa al ac,O ta tl tc,O ea el ec] 130)).alloc (ze #[O p1 q1 r1,O p2 q2 r2] 50)) (W4.alloc (ze #[O a1 a2 a3,O a4 a5 a6] 50)):=Ac HB4.o (bA _ _)
  have hRC:=Ae.new [O a1 a2 a3,O a4 a5 a6] 50 W4
  have hXC:¬ XJ bj (W4.alloc (ze #[O a1 a2 a3,O a4 a5 a6] 50)) W4.heap.size:=fun e=>by
   have h1:=(HJ1.o.xlt _ ((Aj bj).below _ _ hbC _ e)).2
   have h2:=HB4.o.size
   omega
  have hVC:AY c.n (XJ bj) (W4.alloc (ze #[O a1 a2 a3,O a4 a5 a6] 50)) (zh #[O a1 a2 a3,O a4 a5 a6]) (AA (AD gs) c.n lb):=⟨Ag (Aq HL4.o) (bA _ _),D2 _ _ _,Cz (Aj bj) hbC (fun k hk=>(HJ1.o.xlt k hk).2) (BP HL4.o)⟩
  have hbCd:=Ac hbC (bD _)
  have HJC:=Aa (HJ1.o.over hbCd)
  have HBC:=Aa (HBX1.o.keep (FrW.of_below (Aj bj) hbCd))
  have HLC:=Aa (HL1.o.over (Aj bj) hbCd)
  have HVC:=Aa (hVC.over (Aj bj) (bD _))
  have HFC:=Aa (HF1.o.trans (FrW.of_below (Aj bj) hbC))
  have hRCd:=hRC.over (bD _)
  have hXCd:¬ XJ bj (W4.alloc (ze #[O a1 a2 a3,O a4 a5 a6] 50)).drew (W4.heap.size):=fun e=>hXC ((Aj bj).below _ _ (bD _) _ e)
  have HSC:Hx (∀ W2,FrW (XJ bj) (W4.alloc (ze #[O a1 a2 a3,O a4 a5 a6] 50)).drew W2->∀ (fl2:List (Int × Int)) (fv2:Value),AW c.cs w0 bj av fl2 fv2 W2->Lw W bj c bo oo jv p1 q1 r1 p2 q2 r2 W4 a1 a2 a3 a4 a5 a6 W2):=fun W2 hF2 fl2 fv2 h2=>by
   have hb2:=HBC.o.keep hF2
   have hr2:=hF2.row hRCd hXCd
   exact ⟨hb2.j,h2.cw 0 _ rfl,h2.cw 1 _ rfl,h2.cw 2 _ rfl,by rw [<-HYA.o];exact h2.cw 3 _ rfl,h2.cw 4 _ rfl,h2.cw 5 _ rfl,h2.cw 6 _ rfl,h2.cw 7 _ rfl,h2.cw 8 _ rfl,h2.cw 9 _ rfl,hb2.st 1 _ rfl,hb2.lv 0 _ rfl,hb2.lv 1 _ rfl,hr2 0 _ rfl,hr2 1 _ rfl⟩
  clear hbC hbCd hVC hRC hXC hRCd hXCd
  go_wp2_with fail
  cases r with
  | true=>
   refine gS (Lw W bj c bo oo jv p1 q1 r1 p2 q2 r2 W4 a1 a2 a3 a4 a5 a6) (HSC.o _ (FrW.refl _) _ _ HJC.o) fun hHeld=>?_
   refine kT 0 ?_
   refine kT 1 ?_
   refine kT 2 ?_
   refine kT 3 ?_
   refine kT 4 ?_
   refine kT 5 ?_
   refine kT 6 ?_
   refine kT 7 ?_
   refine kT 9 ?_
   refine kT 10 ?_
   refine rdA 8 rfl fun K hK=>?_
   go_simp
   refine (KJ.o _ HJC.o HVC.o HLC.o).mono ?_
   rintro e W6 ⟨vq,rfl,hL6,hb6⟩
   have HL6:=Aa hL6
   have HJ6:=Aa (HJC.o.over hb6)
   have HS6:=Aa (HSC.o W6 (FrW.of_below (Aj bj) hb6) _ _ HJ6.o)
   have HB6:=Aa (FrW.of_below (Aj bj) hb6)
   clear hL6 hb6
   go_simp
   refine xK hK (HS6.o) fun hHeld=>?_
   clear hK K
   refine rdA 11 rfl fun K hK=>?_
   go_simp
   refine (KR.o _ HJ6.o _ (Aq HL6.o)).mono ?_
   rintro e W7 ⟨rfl,hb7⟩
   have HJ7:=Aa (HJ6.o.over hb7)
   have HB7:=Aa (HB6.o.trans (FrW.of_below (Aj bj) hb7))
   have HS7:=Aa (HSC.o W7 HB7.o _ _ HJ7.o)
   clear hb7
   go_simp
   refine xK hK (HS7.o) fun hHeld=>?_
   clear hK K
   refine kT 12 ?_
   refine kT 13 ?_
   refine kT 14 ?_
   refine kT 15 ?_
   refine kT 16 ?_
   refine kT 17 ?_
   refine kT 18 ?_
   refine kT 19 ?_
   refine rdA 20 rfl fun K hK=>?_
   go_simp
   refine (KF.o _ HJ7.o (HLC.o.keep HN1.o HB7.o) (HVC.o.keep HN1.o HB7.o)).mono ?_
   rintro e W8 ⟨rfl,hb8⟩
   have HJ8:=Aa (HJ7.o.over hb8)
   have HB8:=Aa (HB7.o.trans (FrW.of_below (Aj bj) hb8))
   have HS8:=Aa (HSC.o W8 HB8.o _ _ HJ8.o)
   clear hb8
   go_simp
   refine xK hK (HS8.o) fun hHeld=>?_
   clear hK K
   refine kT 21 ?_
   refine kT 22 ?_
   refine rdA 23 rfl fun K hK=>?_
   go_simp
   refine (KB.o _ HJ8.o (HBC.o.keep HB8.o) _).mono ?_
   rintro e W9 ⟨rfl,⟨fv9,hJ9⟩,hF9⟩
   have HJ9:=Aa hJ9
   have HB9:=Aa (HB8.o.trans hF9)
   have HS9:=Aa (HSC.o W9 HB9.o _ _ hJ9)
   clear hJ9 hF9
   go_simp
   refine xK hK (HS9.o) fun hHeld=>?_
   clear hK K
   refine gE ?_
   go_end0
   exact ⟨rfl,⟨fv9,HJ9.o⟩,HFC.o.trans ((FrW.of_below (Aj bj) (bD _)).trans HB9.o)⟩
  | false=>
   refine gS (Lw W bj c bo oo jv p1 q1 r1 p2 q2 r2 W4 a1 a2 a3 a4 a5 a6) (HSC.o _ (FrW.refl _) _ _ HJC.o) fun hHeld=>?_
   refine kT 0 ?_
   refine kT 1 ?_
   refine kT 2 ?_
   refine kT 3 ?_
   refine kT 4 ?_
   refine kT 5 ?_
   refine kT 6 ?_
   refine kT 7 ?_
   refine kT 9 ?_
   refine kT 10 ?_
   refine rdA 8 rfl fun K hK=>?_
   go_simp
   refine (KJ.o _ HJC.o HVC.o HLC.o).mono ?_
   rintro e W6 ⟨vq,rfl,hL6,hb6⟩
   have HL6:=Aa hL6
   have HJ6:=Aa (HJC.o.over hb6)
   have HS6:=Aa (HSC.o W6 (FrW.of_below (Aj bj) hb6) _ _ HJ6.o)
   have HB6:=Aa (FrW.of_below (Aj bj) hb6)
   clear hL6 hb6
   go_simp
   refine xK hK (HS6.o) fun hHeld=>?_
   clear hK K
   refine rdA 11 rfl fun K hK=>?_
   go_simp
   refine (KR.o _ HJ6.o _ (Aq HL6.o)).mono ?_
   rintro e W7 ⟨rfl,hb7⟩
   have HJ7:=Aa (HJ6.o.over hb7)
   have HB7:=Aa (HB6.o.trans (FrW.of_below (Aj bj) hb7))
   have HS7:=Aa (HSC.o W7 HB7.o _ _ HJ7.o)
   clear hb7
   go_simp
   refine xK hK (HS7.o) fun hHeld=>?_
   clear hK K
   refine kT 12 ?_
   refine kT 13 ?_
   refine kU 14 ?_
   refine kU 15 ?_
   refine kU 16 ?_
   refine kU 17 ?_
   refine kU 18 ?_
   refine kU 19 ?_
   refine kU 20 ?_
   refine kU 21 ?_
   refine kT 22 ?_
   refine rdA 23 rfl fun K hK=>?_
   go_simp
   refine (KB.o _ HJ7.o (HBC.o.keep HB7.o) _).mono ?_
   rintro e W9 ⟨rfl,⟨fv9,hJ9⟩,hF9⟩
   have HJ9:=Aa hJ9
   have HB9:=Aa (HB7.o.trans hF9)
   have HS9:=Aa (HSC.o W9 HB9.o _ _ hJ9)
   clear hJ9 hF9
   go_simp
   refine xK hK (HS9.o) fun hHeld=>?_
   clear hK K
   refine gE ?_
   go_end0
   exact ⟨rfl,⟨fv9,HJ9.o⟩,HFC.o.trans ((FrW.of_below (Aj bj) (bD _)).trans HB9.o)⟩
 ·have hbz:Ov ((((W.alloc (ze #[zj (some ⟨bj,0,none⟩)] 161)).alloc (ze #[U zd a] 3)).alloc (ze #[U zd 3,U zd (jv:Int),U zd (jo:Int),U zd ek,U zd en,O xa xl xc,O aa al ac,O ta tl tc,O ea el ec] 130)).alloc (ze #[O p1 q1 r1,O p2 q2 r2] 50)) (((((W.alloc (ze #[zj (some ⟨bj,0,none⟩)] 161)).alloc (ze #[U zd a] 3)).alloc (ze #[U zd 3,U zd (jv:Int),U zd (jo:Int),U zd ek,U zd en,O xa xl xc,O aa al ac,O ta tl tc,O ea el ec] 130)).alloc (ze #[O p1 q1 r1,O p2 q2 r2] 50)).alloc (ze #[O none 0 0,O none 0 0] 50)).drew:=(bA _ _).drew
  have hHS:∀ W2,Ov ((((W.alloc (ze #[zj (some ⟨bj,0,none⟩)] 161)).alloc (ze #[U zd a] 3)).alloc (ze #[U zd 3,U zd (jv:Int),U zd (jo:Int),U zd ek,U zd en,O xa xl xc,O aa al ac,O ta tl tc,O ea el ec] 130)).alloc (ze #[O p1 q1 r1,O p2 q2 r2] 50)) W2->JV W bj c bo oo jo pa1 pn1 pc1 pa2 pn2 pc2 W2:=fun W2 hb2=>HS.o W2 _ _ (HJ1.o.over hb2) (HBX1.o.keep (FrW.of_below (Aj bj) hb2))
  have HHS:=Aa hHS
  have HBZ:=Aa hbz
  clear hHS hbz
  go_simp
  refine xK hK (HHS.o _ HBZ.o) fun hHeld=>?_
  clear hK K
  refine rdA 14 rfl fun K hK=>?_
  go_simp
  refine (KL.o _ (HJ1.o.over HBZ.o)).mono ?_
  rintro e W4 ⟨vj,rfl,hL4,hb4⟩
  obtain ⟨a1,a2,a3,a4,a5,a6,hvj⟩:∃ a1 a2 a3 a4 a5 a6,vj=zh #[O a1 a2 a3,O a4 a5 a6]:=by
   obtain ⟨x,y,e,-⟩:=Aq hL4
   subst e
   obtain ⟨z1,z2,z3,z4,z5,z6,rfl,rfl⟩:=AP (Aq hL4)
   exact ⟨_,_,_,_,_,_,rfl⟩
  subst hvj
  have HB4:=Aa (Ac HBZ.o hb4)
  have HL4:=Aa hL4
  have hzr:Ae [O none 0 0,O none 0 0] (((((W.alloc (ze #[zj (some ⟨bj,0,none⟩)] 161)).alloc (ze #[U zd a] 3)).alloc (ze #[U zd 3,U zd (jv:Int),U zd (jo:Int),U zd ek,U zd en,O xa xl xc,O aa al ac,O ta tl tc,O ea el ec] 130)).alloc (ze #[O p1 q1 r1,O p2 q2 r2] 50)).alloc (ze #[O none 0 0,O none 0 0] 50)).drew (W.heap.size+1+1+1+1):=by
   have r:=(Ae.new [O none 0 0,O none 0 0] 50 ((((W.alloc (ze #[zj (some ⟨bj,0,none⟩)] 161)).alloc (ze #[U zd a] 3)).alloc (ze #[U zd 3,U zd (jv:Int),U zd (jo:Int),U zd ek,U zd en,O xa xl xc,O aa al ac,O ta tl tc,O ea el ec] 130)).alloc (ze #[O p1 q1 r1,O p2 q2 r2] 50))).over (bD _)
   simpa using r
  have hzs:W.heap.size+1+1+1+1 < ((((((W.alloc (ze #[zj (some ⟨bj,0,none⟩)] 161)).alloc (ze #[U zd a] 3)).alloc (ze #[U zd 3,U zd (jv:Int),U zd (jo:Int),U zd ek,U zd en,O xa xl xc,O aa al ac,O ta tl tc,O ea el ec] 130)).alloc (ze #[O p1 q1 r1,O p2 q2 r2] 50)).alloc (ze #[O none 0 0,O none 0 0] 50)).drew).heap.size:=by simp
  have d0:=Ab hb4 _ _ (hzr 0 _ rfl)
  have d1:=Ab hb4 _ _ (hzr 1 _ rfl)
  have hzf:∀ q,((((((W.alloc (ze #[zj (some ⟨bj,0,none⟩)] 161)).alloc (ze #[U zd a] 3)).alloc (ze #[U zd 3,U zd (jv:Int),U zd (jo:Int),U zd ek,U zd en,O xa xl xc,O aa al ac,O ta tl tc,O ea el ec] 130)).alloc (ze #[O p1 q1 r1,O p2 q2 r2] 50)).alloc (ze #[O none 0 0,O none 0 0] 50)).drew).frozen? ⟨W.heap.size+1+1+1+1,q,none⟩=false:=fun q=>by simp [go_sem]
  have z0:=((Al hb4).2 (W.heap.size+1+1+1+1) 0 hzs).trans (hzf 0)
  have z1:=((Al hb4).2 (W.heap.size+1+1+1+1) 1 hzs).trans (hzf 1)
  have HR4:=Aa (hzr.over hb4)
  clear hb4 hL4 hzr hzs hzf
  go_simp
  refine xK hK (HHS.o _ HB4.o) fun hHeld=>?_
  clear hK K
  have hbC:Ov ((((W.alloc (ze #[zj (some ⟨bj,0,none⟩)] 161)).alloc (ze #[U zd a] 3)).alloc (ze #[U zd 3,U zd (jv:Int),U zd (jo:Int),U zd ek,U zd en,O xa xl xc,O aa al ac,O ta tl tc,O ea el ec] 130)).alloc (ze #[O p1 q1 r1,O p2 q2 r2] 50)) ((W4.setCell ⟨W.heap.size+1+1+1+1,0,none⟩ (O a1 a2 a3)).setCell ⟨W.heap.size+1+1+1+1,1,none⟩ (O a4 a5 a6)):=(HB4.o.setCell (by simp <;> omega) _).setCell (by simp <;> omega) _
  have HBC0:=Aa hbC
  clear hbC
  refine rdA 16 rfl fun K hK=>?_
  go_simp
  refine xK hK (HHS.o _ HBC0.o) fun hHeld=>?_
  clear hK K
  refine gE ?_
  have hbC:=HBC0.o
  have hRC:Ae [O a1 a2 a3,O a4 a5 a6] ((W4.setCell ⟨W.heap.size+1+1+1+1,0,none⟩ (O a1 a2 a3)).setCell ⟨W.heap.size+1+1+1+1,1,none⟩ (O a4 a5 a6)) (W.heap.size+1+1+1+1):=by
   have r:=C5 (j:=1) (v:=O a4 a5 a6) (C5 (j:=0) (v:=O a1 a2 a3) HR4.o (by simp)) (by simp)
   simpa using r
  have hXC:¬ XJ bj ((W4.setCell ⟨W.heap.size+1+1+1+1,0,none⟩ (O a1 a2 a3)).setCell ⟨W.heap.size+1+1+1+1,1,none⟩ (O a4 a5 a6)) (W.heap.size+1+1+1+1):=fun e=>by
   have h1:=(HJ1.o.xlt _ ((Aj bj).below _ _ hbC _ e)).2
   simp at h1
  have hVC:AY c.n (XJ bj) ((W4.setCell ⟨W.heap.size+1+1+1+1,0,none⟩ (O a1 a2 a3)).setCell ⟨W.heap.size+1+1+1+1,1,none⟩ (O a4 a5 a6)) (zh #[O a1 a2 a3,O a4 a5 a6]) (AA (AD gs) c.n lb):=KY HL4.o (D2 _ _ _) hbC (fun k hk=>(HJ1.o.xlt k hk).2) (by simp) (by simp)
  have hbCd:=Ac hbC (bD _)
  have HJC:=Aa (HJ1.o.over hbCd)
  have HBC:=Aa (HBX1.o.keep (FrW.of_below (Aj bj) hbCd))
  have HLC:=Aa (HL1.o.over (Aj bj) hbCd)
  have HVC:=Aa (hVC.over (Aj bj) (bD _))
  have HFC:=Aa (HF1.o.trans (FrW.of_below (Aj bj) hbC))
  have hRCd:=hRC.over (bD _)
  have hXCd:¬ XJ bj ((W4.setCell ⟨W.heap.size+1+1+1+1,0,none⟩ (O a1 a2 a3)).setCell ⟨W.heap.size+1+1+1+1,1,none⟩ (O a4 a5 a6)).drew (W.heap.size+1+1+1+1):=fun e=>hXC ((Aj bj).below _ _ (bD _) _ e)
  have HSC:Hx (∀ W2,FrW (XJ bj) ((W4.setCell ⟨W.heap.size+1+1+1+1,0,none⟩ (O a1 a2 a3)).setCell ⟨W.heap.size+1+1+1+1,1,none⟩ (O a4 a5 a6)).drew W2->∀ (fl2:List (Int × Int)) (fv2:Value),AW c.cs w0 bj av fl2 fv2 W2->Lv W bj c bo oo jv p1 q1 r1 p2 q2 r2 a1 a2 a3 a4 a5 a6 W2):=fun W2 hF2 fl2 fv2 h2=>by
   have hb2:=HBC.o.keep hF2
   have hr2:=hF2.row hRCd hXCd
   exact ⟨hb2.j,h2.cw 0 _ rfl,h2.cw 1 _ rfl,h2.cw 2 _ rfl,by rw [<-HYA.o];exact h2.cw 3 _ rfl,h2.cw 4 _ rfl,h2.cw 5 _ rfl,h2.cw 6 _ rfl,h2.cw 7 _ rfl,h2.cw 8 _ rfl,h2.cw 9 _ rfl,hb2.st 1 _ rfl,hb2.lv 0 _ rfl,hb2.lv 1 _ rfl,hr2 0 _ rfl,hr2 1 _ rfl⟩
  clear hbC hbCd hVC hRC hXC hRCd hXCd
  go_wp2_with fail
  cases r with
  | true=>
   refine gS (Lv W bj c bo oo jv p1 q1 r1 p2 q2 r2 a1 a2 a3 a4 a5 a6) (HSC.o _ (FrW.refl _) _ _ HJC.o) fun hHeld=>?_
   refine kT 0 ?_
   refine kT 1 ?_
   refine kT 2 ?_
   refine kT 3 ?_
   refine kT 4 ?_
   refine kT 5 ?_
   refine kT 6 ?_
   refine kT 7 ?_
   refine kT 9 ?_
   refine kT 10 ?_
   refine rdA 8 rfl fun K hK=>?_
   go_simp
   refine (KJ.o _ HJC.o HVC.o HLC.o).mono ?_
   rintro e W6 ⟨vq,rfl,hL6,hb6⟩
   have HL6:=Aa hL6
   have HJ6:=Aa (HJC.o.over hb6)
   have HS6:=Aa (HSC.o W6 (FrW.of_below (Aj bj) hb6) _ _ HJ6.o)
   have HB6:=Aa (FrW.of_below (Aj bj) hb6)
   clear hL6 hb6
   go_simp
   refine xK hK (HS6.o) fun hHeld=>?_
   clear hK K
   refine rdA 11 rfl fun K hK=>?_
   go_simp
   refine (KR.o _ HJ6.o _ (Aq HL6.o)).mono ?_
   rintro e W7 ⟨rfl,hb7⟩
   have HJ7:=Aa (HJ6.o.over hb7)
   have HB7:=Aa (HB6.o.trans (FrW.of_below (Aj bj) hb7))
   have HS7:=Aa (HSC.o W7 HB7.o _ _ HJ7.o)
   clear hb7
   go_simp
   refine xK hK (HS7.o) fun hHeld=>?_
   clear hK K
   refine kT 12 ?_
   refine kT 13 ?_
   refine kT 14 ?_
   refine kT 15 ?_
   refine kT 16 ?_
   refine kT 17 ?_
   refine kT 18 ?_
   refine kT 19 ?_
   refine rdA 20 rfl fun K hK=>?_
   go_simp
   refine (KF.o _ HJ7.o (HLC.o.keep HN1.o HB7.o) (HVC.o.keep HN1.o HB7.o)).mono ?_
   rintro e W8 ⟨rfl,hb8⟩
   have HJ8:=Aa (HJ7.o.over hb8)
   have HB8:=Aa (HB7.o.trans (FrW.of_below (Aj bj) hb8))
   have HS8:=Aa (HSC.o W8 HB8.o _ _ HJ8.o)
   clear hb8
   go_simp
   refine xK hK (HS8.o) fun hHeld=>?_
   clear hK K
   refine kT 21 ?_
   refine kT 22 ?_
   refine rdA 23 rfl fun K hK=>?_
   go_simp
   refine (KB.o _ HJ8.o (HBC.o.keep HB8.o) _).mono ?_
   rintro e W9 ⟨rfl,⟨fv9,hJ9⟩,hF9⟩
   have HJ9:=Aa hJ9
   have HB9:=Aa (HB8.o.trans hF9)
   have HS9:=Aa (HSC.o W9 HB9.o _ _ hJ9)
   clear hJ9 hF9
   go_simp
   refine xK hK (HS9.o) fun hHeld=>?_
   clear hK K
   refine gE ?_
   go_end0
   exact ⟨rfl,⟨fv9,HJ9.o⟩,HFC.o.trans ((FrW.of_below (Aj bj) (bD _)).trans HB9.o)⟩
  | false=>
   refine gS (Lv W bj c bo oo jv p1 q1 r1 p2 q2 r2 a1 a2 a3 a4 a5 a6) (HSC.o _ (FrW.refl _) _ _ HJC.o) fun hHeld=>?_
   refine kT 0 ?_
   refine kT 1 ?_
   refine kT 2 ?_
   refine kT 3 ?_
   refine kT 4 ?_
   refine kT 5 ?_
   refine kT 6 ?_
   refine kT 7 ?_
   refine kT 9 ?_
   refine kT 10 ?_
   refine rdA 8 rfl fun K hK=>?_
   go_simp
   refine (KJ.o _ HJC.o HVC.o HLC.o).mono ?_
   rintro e W6 ⟨vq,rfl,hL6,hb6⟩
   have HL6:=Aa hL6
   have HJ6:=Aa (HJC.o.over hb6)
   have HS6:=Aa (HSC.o W6 (FrW.of_below (Aj bj) hb6) _ _ HJ6.o)
   have HB6:=Aa (FrW.of_below (Aj bj) hb6)
   clear hL6 hb6
   go_simp
   refine xK hK (HS6.o) fun hHeld=>?_
   clear hK K
   refine rdA 11 rfl fun K hK=>?_
   go_simp
   refine (KR.o _ HJ6.o _ (Aq HL6.o)).mono ?_
   rintro e W7 ⟨rfl,hb7⟩
   have HJ7:=Aa (HJ6.o.over hb7)
   have HB7:=Aa (HB6.o.trans (FrW.of_below (Aj bj) hb7))
   have HS7:=Aa (HSC.o W7 HB7.o _ _ HJ7.o)
   clear hb7
   go_simp
   refine xK hK (HS7.o) fun hHeld=>?_
   clear hK K
   refine kT 12 ?_
   refine kT 13 ?_
   refine kU 14 ?_
   refine kU 15 ?_
   refine kU 16 ?_
   refine kU 17 ?_
   refine kU 18 ?_
   refine kU 19 ?_
   refine kU 20 ?_
   refine kU 21 ?_
   refine kT 22 ?_
   refine rdA 23 rfl fun K hK=>?_
   go_simp
   refine (KB.o _ HJ7.o (HBC.o.keep HB7.o) _).mono ?_
   rintro e W9 ⟨rfl,⟨fv9,hJ9⟩,hF9⟩
   have HJ9:=Aa hJ9
   have HB9:=Aa (HB7.o.trans hF9)
   have HS9:=Aa (HSC.o W9 HB9.o _ _ hJ9)
   clear hJ9 hF9
   go_simp
   refine xK hK (HS9.o) fun hHeld=>?_
   clear hK K
   refine gE ?_
   go_end0
   exact ⟨rfl,⟨fv9,HJ9.o⟩,HFC.o.trans ((FrW.of_below (Aj bj) (bD _)).trans HB9.o)⟩
end Go.Proofs.YtfffpjkcfnekaaaGreat.Ex
