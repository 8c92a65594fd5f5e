/- One who watches: may a command be done? -/
import Derived.Test.YtfffpjkcfnekaaaGreatB11
import Derived.Lib.SliceRun
set_option linter.unusedVariables false
set_option maxHeartbeats 8000000
set_option maxRecDepth 100000
namespace Go.Proofs.YtfffpjkcfnekaaaGreat.Ex
open Go.RowKit
open Go.Value renaming slice -> O, int -> U, bool -> zg, agg -> zh, pointer -> zi, tuple -> zk
open Go.IntKind renaming i64 -> zd
open Go.Obj renaming cells -> ze
open Go.Ending renaming returned -> zj
theorem JL {x:WX} {w0 W W':World} {s:WSt} {pv v:Value} {l:Lev} (h:WtI x w0 s pv W) (hb:Ov W W') (hf:AY W W' v l) (hl:l.len x.c.n):∃ a1 a2 a3 a4 a5 a6,v=zh #[O a1 a2 a3,O a4 a5 a6]/\Ar x.c.n (XW x) W' (zh #[O a1 a2 a3,O a4 a5 a6]) l:=by
 have hN:=Be hf
 have hA:=An hf
 obtain ⟨v1,v2,rfl,ho1,ho2,-⟩:=hf
 obtain ⟨y1,y2,y3,rfl⟩:=AG ho1
 obtain ⟨y4,y5,y6,rfl⟩:=AG ho2
 exact ⟨_,_,_,_,_,_,rfl,hA,hl,BR (A0 x) hb (fun k hk=>(h.xlt k hk).2) hN⟩
theorem Hh:(∀ (u v:Value) (w:World),(Instr.field 50 (zh #[u,v]) 0).run Tryz.prog w=.ok u w)/\∀ (u v:Value) (w:World),(Instr.field 50 (zh #[u,v]) 1).run Tryz.prog w=.ok v w:=
 ⟨fun u v w=>by simp [Instr.field,run_underlying Tryz.underlying50,go_sem,Result.andThen,asAgg],fun u v w=>by simp [Instr.field,run_underlying Tryz.underlying50,go_sem,Result.andThen,asAgg]⟩
theorem LE (l k) (n:Nat):(BE l k n).len n:=⟨AO _ _,AO _ _⟩
abbrev OW (x:WX) (W:World) (ek en:Int) (xa:Option Addr) (xl xc:Nat) (p1:Option Addr) (q1 r1:Nat) (p2:Option Addr) (q2 r2:Nat) (Wz:World):Prop:=Wz.cell? ⟨x.bw,1,none⟩=some (U zd (x.c.n:Int))/\CE Wz x.bw 2 (O x.c.ga x.c.gn x.c.gc)/\CE Wz x.bw 3 (O x.c.sa x.c.sn x.c.sc)/\CE Wz x.bw 4 (O x.c.ya x.c.yn x.c.yc)/\CE Wz x.bw 5 (O x.c.oa x.c.on x.c.oc)/\CE Wz x.bw 6 (O x.c.va x.c.vn x.c.vc)/\CE Wz x.bw 7 (O x.c.fa x.c.fn x.c.fc)/\CE Wz x.bw 8 (O x.c.ba x.c.bn x.c.bc)/\CE Wz x.bw 9 (O x.c.la x.c.ln x.c.lc)/\CE Wz x.bw 10 (O x.c.ka x.c.kn x.c.kc)/\CE Wz W.heap.size 3 (U zd ek)/\CE Wz W.heap.size 4 (U zd en)/\CE Wz W.heap.size 5 (O xa xl xc)/\CE Wz (W.heap.size+1) 0 (O p1 q1 r1)/\CE Wz (W.heap.size+1) 1 (O p2 q2 r2)
abbrev OV (x:WX) (by0 oy:Nat) (W:World) (jo:Nat) (pa1:Option Addr) (pn1 pc1:Nat) (pa2:Option Addr) (pn2 pc2:Nat) (Wz:World):Prop:=Wz.cell? ⟨x.bw,1,none⟩=some (U zd (x.c.n:Int))/\CE Wz x.bw 2 (O x.c.ga x.c.gn x.c.gc)/\CE Wz x.bw 3 (O x.c.sa x.c.sn x.c.sc)/\CE Wz x.bw 4 (O (some ⟨by0,oy,none⟩) x.c.yn x.c.yc)/\CE Wz x.bw 5 (O x.c.oa x.c.on x.c.oc)/\CE Wz x.bw 6 (O x.c.va x.c.vn x.c.vc)/\CE Wz x.bw 7 (O x.c.fa x.c.fn x.c.fc)/\CE Wz x.bw 8 (O x.c.ba x.c.bn x.c.bc)/\CE Wz x.bw 9 (O x.c.la x.c.ln x.c.lc)/\CE Wz x.bw 10 (O x.c.ka x.c.kn x.c.kc)/\CE Wz W.heap.size 2 (U zd (jo:Int))/\CE Wz by0 (oy+jo*2) (O pa1 pn1 pc1)/\CE Wz by0 (oy+jo*2+1) (O pa2 pn2 pc2)
abbrev Ki (x:WX) (by0 oy:Nat) (W:World) (jv:Nat) (p1:Option Addr) (q1 r1:Nat) (p2:Option Addr) (q2 r2 bc:Nat) (c1:Option Addr) (c2 c3:Nat) (c4:Option Addr) (c5 c6:Nat) (Wz:World):Prop:=Wz.cell? ⟨x.bw,1,none⟩=some (U zd (x.c.n:Int))/\CE Wz x.bw 2 (O x.c.ga x.c.gn x.c.gc)/\CE Wz x.bw 3 (O x.c.sa x.c.sn x.c.sc)/\CE Wz x.bw 4 (O (some ⟨by0,oy,none⟩) x.c.yn x.c.yc)/\CE Wz x.bw 5 (O x.c.oa x.c.on x.c.oc)/\CE Wz x.bw 6 (O x.c.va x.c.vn x.c.vc)/\CE Wz x.bw 7 (O x.c.fa x.c.fn x.c.fc)/\CE Wz x.bw 8 (O x.c.ba x.c.bn x.c.bc)/\CE Wz x.bw 9 (O x.c.la x.c.ln x.c.lc)/\CE Wz x.bw 10 (O x.c.ka x.c.kn x.c.kc)/\CE Wz W.heap.size 1 (U zd (jv:Int))/\CE Wz (W.heap.size+1) 0 (O p1 q1 r1)/\CE Wz (W.heap.size+1) 1 (O p2 q2 r2)/\CE Wz bc 0 (O c1 c2 c3)/\CE Wz bc 1 (O c4 c5 c6)
abbrev OU (x:WX) (by0 oy:Nat) (W:World) (jo bz:Nat) (o1:Option Addr) (o2 o3:Nat) (o4:Option Addr) (o5 o6:Nat) (pa1:Option Addr) (pn1 pc1:Nat) (pa2:Option Addr) (pn2 pc2:Nat) (Wz:World):Prop:=Wz.cell? ⟨x.bw,1,none⟩=some (U zd (x.c.n:Int))/\CE Wz x.bw 2 (O x.c.ga x.c.gn x.c.gc)/\CE Wz x.bw 3 (O x.c.sa x.c.sn x.c.sc)/\CE Wz x.bw 4 (O x.c.ya x.c.yn x.c.yc)/\CE Wz x.bw 5 (O (some ⟨by0,oy,none⟩) x.c.on x.c.oc)/\CE Wz x.bw 6 (O x.c.va x.c.vn x.c.vc)/\CE Wz x.bw 7 (O x.c.fa x.c.fn x.c.fc)/\CE Wz x.bw 8 (O x.c.ba x.c.bn x.c.bc)/\CE Wz x.bw 9 (O x.c.la x.c.ln x.c.lc)/\CE Wz x.bw 10 (O x.c.ka x.c.kn x.c.kc)/\CE Wz W.heap.size 2 (U zd (jo:Int))/\CE Wz bz 0 (O o1 o2 o3)/\CE Wz bz 1 (O o4 o5 o6)/\CE Wz by0 (oy+jo*2) (O pa1 pn1 pc1)/\CE Wz by0 (oy+jo*2+1) (O pa2 pn2 pc2)
theorem Qf (x) (w0:World) (K kf:Nat) (gs ls ms vs fs) (S:WtS x w0 K kf gs ls ms vs fs) (s:WSt) (pv:Value) (W:World) (h:WtI x w0 s pv W) (hvl:s.vs.length=vs.length) (a:Int) (k:Nat) (cs:List Value) (d) (v:Value) (p) (funcs:Int) (hrs:RS w0 K (k+1) cs d) (hfn:funcs<=fs.length) (hok:Cq K vs.length ls.length ms.length funcs fs d) (hp:Ar x.c.n (XW x) W v p) (hk6:Ag d<=6) :
  Calls Tryz.prog 122 #[zi (some ⟨x.bw,0,none⟩),.agg cs.toArray,U zd a,v] W fun e W'=>e=zj (zg (doX (A7 x K gs ls ms vs fs) s a d p).1)/\WtI x w0 (doX (A7 x K gs ls ms vs fs) s a d p).2 pv W'/\FrW (XV x) W W':=by
 obtain ⟨p1,q1,r1,p2,q2,r2,rfl⟩:=hp.form
 obtain ⟨ek,en,xa,xl,xc,aa,ac,ta,tc,ea,ec,rfl,i0,i1,i2,hX,hA,hT,hE,-,-,-⟩:=hrs.form
 have hrs':=hrs
 obtain ⟨kd,hkd⟩:=nm (Ag d)
 obtain ⟨vr,hvr⟩:=nm (Ao d)
 obtain ⟨ot,hot⟩:=nm (Ae d)
 obtain ⟨al,hal⟩:=nm ((Ah d).length)
 obtain ⟨tl,htl⟩:=nm ((Ai d).length)
 obtain ⟨el,hel⟩:=nm ((Al d).length)
 rw [<-hkd,<-hvr,<-hot,<-hal,<-htl,<-hel] at hrs' ⊢
 obtain ⟨R,hR⟩:=nm (doX (A7 x K gs ls ms vs fs) s a d p)
 rw [<-hR]
 have HR:=Aa hR
 obtain ⟨al0,hall⟩:=nm (CN (A7 x K gs ls ms vs fs) s p (Ap d))
 have HAX:Hx (CN (A7 x K gs ls ms vs fs) s p (Ap d)=al0):=hall.symm
 obtain ⟨V1,hV1⟩:=nm (((W.alloc (ze #[U zd kd,U zd vr,U zd ot,U zd ek,U zd en,O xa xl xc,O aa al ac,O ta tl tc,O ea el ec] 130)).alloc (ze #[O p1 q1 r1,O p2 q2 r2] 50)))
 have hb1:Ov W V1:=by rw [hV1];exact (bA W _).alloc (by simp) _
 have rowS:Ad [U zd kd,U zd vr,U zd ot,U zd ek,U zd en,O xa xl xc,O aa al ac,O ta tl tc,O ea el ec] V1 W.heap.size:=by rw [hV1];exact (Ad.new _ _ _).over (bA _ _)
 have rowP:Ad [O p1 q1 r1,O p2 q2 r2] V1 (W.heap.size+1):=by
  rw [hV1]
  have r:=Ad.new [O p1 q1 r1,O p2 q2 r2] 50 (W.alloc (ze #[U zd kd,U zd vr,U zd ot,U zd ek,U zd en,O xa xl xc,O aa al ac,O ta tl tc,O ea el ec] 130))
  simpa using r
 have HU1:=Aa rowS
 have HW1:=Aa rowP
 have h1:=h.over hb1
 have HI1:=Aa h1
 have HP1:=Aa (hp.over (A0 x) hb1)
 have HF1:=Aa (FrW.of_below (Bl x) hb1)
 have HSZ:Hx (V1.heap.size=W.heap.size+1+1):=by rw [hV1];exact Aa (by simp)
 have HNW:Hx (∀ q,W.heap.size<=q->¬ XV x V1 q):=fun q hq e=>by have:=(h.vlt _ ((Bl x).below _ _ hb1 _ e)).2;omega
 have HSS:=Aa S
 have HVL:=Aa hvl
 have HVR:=Aa hvr
 have HOT:=Aa hot
 have HRS:=Aa hrs'
 have HOK:=Aa hok
 have HFN:=Aa hfn
 have HV:Hx ((Ag d=1\/Ag d=2\/Ag d=3\/Ag d=5\/Ag d=6)->0<=Ao d/\Ao d < vs.length):=hok.2.1
 have HIV:Hx (x.bw < V1.heap.size):=h1.lo.2
 have HBV:Hx (Ov V1 V1.drew):=(bD _)
 have hkr:kd=1\/kd=2\/kd=3\/kd=4\/kd=5\/kd=6:=by have:=hok.1;omega
 have KW:Hx (∀ (W2:World),Ov V1 W2->Calls Tryz.prog 103 #[(zh #[U zd (x.c.n:Int),O x.c.ga x.c.gn x.c.gc,O x.c.sa x.c.sn x.c.sc,O x.c.ya x.c.yn x.c.yc,O x.c.oa x.c.on x.c.oc,O x.c.va x.c.vn x.c.vc,O x.c.fa x.c.fn x.c.fc,O x.c.ba x.c.bn x.c.bc,O x.c.la x.c.ln x.c.lc,O x.c.ka x.c.kn x.c.kc]),zh #[O p1 q1 r1,O p2 q2 r2],zh #[U zd ek,U zd en,O xa xl xc]] W2 fun e w'=>(∃ p1 q1 r1 p2 q2 r2,e=zj (zh #[O p1 q1 r1,O p2 q2 r2])/\Ar x.c.n (XW x) w' (zh #[O p1 q1 r1,O p2 q2 r2]) al0)/\Ov W2 w'):=fun W2 hb2=>by
  have h2:=h1.over hb2
  rw [hall]
  exact CU x.c S.n1 S.n6 gs s.vs (XW x) (A0 x) _ p K _ (Ap d) W2 (Af S.gr h2.below) S.chk h2.lev.levs ((hp.over (A0 x) hb1).over (A0 x) hb2) (by rw [hvl];exact S.v16) (fun k hk=>(h2.xlt k hk).2) (hX.over h2.below) (by rw [hvl];exact A8 hok)
 have HSV:Hx (∀ W2,Ov V1 W2->OW x W ek en xa xl xc p1 q1 r1 p2 q2 r2 W2):=fun W2 hb2=>by
  have h2:=h1.over hb2
  exact ⟨h2.cw (j:=0) rfl,h2.cw (j:=1) rfl,h2.cw (j:=2) rfl,h2.cw (j:=3) rfl,h2.cw (j:=4) rfl,h2.cw (j:=5) rfl,h2.cw (j:=6) rfl,h2.cw (j:=7) rfl,h2.cw (j:=8) rfl,h2.cw (j:=9) rfl,(rowS.over hb2) 3 _ rfl,(rowS.over hb2) 4 _ rfl,(rowS.over hb2) 5 _ rfl,(rowP.over hb2) 0 _ rfl,(rowP.over hb2) 1 _ rfl⟩
 have HKD:=Aa hkd
 clear hX hA hT hE hrs hrs' h hp rowS rowP hb1 hok hvl hfn h1 S hkd hvr hot hal htl hel i0 i1 i2 hR hall hk6
 go_enter Tryz.func122,Tryz.ntmps122
 go_wp2_with fail
 rw [<-hV1]
 clear hV1
 refine CC (fun act2 Wn=>∃ (bq:Nat) (x11 x12 x13 x14 x15 x16 x17 x18:Value) (o1:Option Addr) (o2 o3:Nat) (o4:Option Addr) (o5 o6:Nat),act2={ tmps:=#[zi (some ⟨x.bw,0,none⟩),zh #[U zd kd,U zd vr,U zd ot,U zd ek,U zd en,O xa xl xc,O aa al ac,O ta tl tc,O ea el ec],U zd a,zh #[O p1 q1 r1,O p2 q2 r2],undef,zi (some ⟨W.heap.size,0,none⟩),undef,zi (some ⟨W.heap.size+1,0,none⟩),zg false,zi (some ⟨bq,0,none⟩),undef,x11,x12,x13,x14,x15,x16,x17,x18,undef,undef,undef,undef,undef,undef,undef,undef,undef,undef,undef,undef,undef,undef,undef,undef,undef,undef,undef,undef,undef,undef,undef,undef,undef,undef,undef,undef,undef,undef,undef,undef,undef,undef,undef,undef,undef,undef,undef,undef,undef,undef,undef,undef,undef,undef,undef,undef,undef,undef,undef,undef,undef,undef,undef,undef,undef,undef,undef,undef,undef,undef,undef,undef,undef,undef,undef,undef,undef,undef,undef,undef,undef,undef,undef,undef,undef,undef,undef,undef,undef,undef,undef,undef,undef,undef,undef,undef,undef,undef,undef,undef,undef,undef,undef,undef,undef,undef,undef,undef,undef,undef,undef,undef,undef,undef,undef,undef,undef,undef,undef,undef,undef,undef,undef],defers:=[] }/\Ov V1 Wn/\Ad [O o1 o2 o3,O o4 o5 o6] Wn bq/\(Wn.frozen? ⟨bq,0,none⟩=false/\Wn.frozen? ⟨bq,1,none⟩=false)/\Ar x.c.n (XW x) Wn (zh #[O o1 o2 o3,O o4 o5 o6]) al0/\V1.heap.size<=bq/\bq < Wn.heap.size) ?_ ?_
 ·refine gS (OW x W ek en xa xl xc p1 q1 r1 p2 q2 r2) (HSV.o _ HBV.o) fun hHeld=>?_
  refine kT 0 ?_
  refine kT 1 ?_
  refine kT 2 ?_
  refine kT 3 ?_
  refine kT 4 ?_
  refine kT 5 ?_
  refine kT 6 ?_
  refine rdB 7 8 rfl (fun K hK=>?_) rfl fun K hK=>?_
  ·go_simp
   refine (KW.o _ HBV.o).mono ?_
   rintro e W3 ⟨⟨o1,o2,o3,o4,o5,o6,rfl,hL3⟩,hb3⟩
   have HB3:=Aa (Ac HBV.o hb3)
   have HL3:=Aa hL3
   clear hL3 hb3
   go_simp
   refine xK hK (HSV.o _ HB3.o) fun hHeld=>?_
   clear hK K
   refine rdA 8 rfl fun K hK=>?_
   obtain ⟨W4,hW4⟩:=nm (W3.alloc (ze #[O none 0 0,O none 0 0] 50))
   have hb4:Ov W3 W4:=by rw [hW4];exact bA _ _
   obtain ⟨bq,hq4⟩:∃ b:Nat,b=W3.heap.size:=⟨_,rfl⟩
   have HZ4:Hx (ZB bq W4):=by rw [hq4,hW4];exact Dq _ _
   have HGQ:Hx (V1.heap.size<=bq):=by rw [hq4];exact HB3.o.size
   have HB4:=Aa (Ac HB3.o hb4)
   have HL4:=Aa (HL3.o.over (A0 x) hb4)
   go_simp
   rw [<-hW4,<-hq4]
   clear hb4 hW4 hq4
   refine xK hK (HSV.o _ HB4.o) fun hHeld=>?_
   clear hK K
   have d0:=HZ4.o.c0
   have d1:=HZ4.o.c1
   have z0:=HZ4.o.z0
   have z1:=HZ4.o.z1
   obtain ⟨W9,hW9⟩:=nm (Bp W4 bq (O o1 o2 o3) (O o4 o5 o6))
   have HB9:Hx (Ov V1 W9):=by rw [hW9];exact BQ HB4.o HGQ.o _ _
   have HR9:Hx (Ad [O o1 o2 o3,O o4 o5 o6] W9 bq):=by rw [hW9];exact HZ4.o.fill _ _
   have HL9:Hx (Ar x.c.n (XW x) W9 (zh #[O o1 o2 o3,O o4 o5 o6]) al0):=by rw [hW9];exact CY HL4.o HZ4.o (by have:=HIV.o;have:=HGQ.o;omega) _ _
   have HF9:Hx (W9.frozen? ⟨bq,0,none⟩=false/\W9.frozen? ⟨bq,1,none⟩=false):=by rw [hW9];unfold Bp;exact ⟨by simp [go_sem,z0],by simp [go_sem,z1]⟩
   unfold Bp at hW9
   refine rdA 9 rfl fun K hK=>?_
   go_simp
   rw [<-hW9]
   clear hW9
   refine xK hK (HSV.o _ HB9.o) fun hHeld=>?_
   clear hK K
   refine gE ?_
   exact Bo ⟨bq,_,_,_,_,_,_,_,_,o1,o2,o3,o4,o5,o6,rfl,HB9.o,HR9.o,HF9.o,HL9.o,HGQ.o,bL (HR9.o 0 _ rfl)⟩
  ·obtain ⟨W3,hW3⟩:=nm ((V1.alloc (ze #[O none 0 0,O none 0 0] 50)).drew)
   have hb3:Ov V1 W3:=by rw [hW3];exact (bA _ _).drew
   obtain ⟨bq,hq3⟩:∃ b:Nat,b=V1.heap.size:=⟨_,rfl⟩
   have hz3:ZB bq W3:=by rw [hq3,hW3];exact Hp (Dq _ _)
   have HGQ:Hx (V1.heap.size<=bq):=by rw [hq3];exact Nat.le_refl _
   have HB3:=Aa hb3
   have HZ3:=Aa hz3
   go_simp
   rw [<-hW3,<-hq3]
   clear hb3 hW3 hq3 hz3
   refine xK hK (HSV.o _ HB3.o) fun hHeld=>?_
   clear hK K
   refine rdA 7 rfl fun K hK=>?_
   go_simp
   refine (KW.o _ HB3.o).mono ?_
   rintro e W4 ⟨⟨o1,o2,o3,o4,o5,o6,rfl,hL4⟩,hb4⟩
   have HB4:=Aa (Ac HB3.o hb4)
   have HZ4:=Aa (HZ3.o.over hb4)
   have HL4:=Aa hL4
   clear hL4 hb4
   go_simp
   refine xK hK (HSV.o _ HB4.o) fun hHeld=>?_
   clear hK K
   have d0:=HZ4.o.c0
   have d1:=HZ4.o.c1
   have z0:=HZ4.o.z0
   have z1:=HZ4.o.z1
   obtain ⟨W9,hW9⟩:=nm (Bp W4 bq (O o1 o2 o3) (O o4 o5 o6))
   have HB9:Hx (Ov V1 W9):=by rw [hW9];exact BQ HB4.o HGQ.o _ _
   have HR9:Hx (Ad [O o1 o2 o3,O o4 o5 o6] W9 bq):=by rw [hW9];exact HZ4.o.fill _ _
   have HL9:Hx (Ar x.c.n (XW x) W9 (zh #[O o1 o2 o3,O o4 o5 o6]) al0):=by rw [hW9];exact CY HL4.o HZ4.o (by have:=HIV.o;have:=HGQ.o;omega) _ _
   have HF9:Hx (W9.frozen? ⟨bq,0,none⟩=false/\W9.frozen? ⟨bq,1,none⟩=false):=by rw [hW9];unfold Bp;exact ⟨by simp [go_sem,z0],by simp [go_sem,z1]⟩
   unfold Bp at hW9
   refine rdA 9 rfl fun K hK=>?_
   go_simp
   rw [<-hW9]
   clear hW9
   refine xK hK (HSV.o _ HB9.o) fun hHeld=>?_
   clear hK K
   refine gE ?_
   exact Bo ⟨bq,_,_,_,_,_,_,_,_,o1,o2,o3,o4,o5,o6,rfl,HB9.o,HR9.o,HF9.o,HL9.o,HGQ.o,bL (HR9.o 0 _ rfl)⟩
 rintro act2 V2 ⟨bz,x11,x12,x13,x14,x15,x16,x17,x18,o1,o2,o3,o4,o5,o6,rfl,hB2,hrq,hzq,hLq,hq0,hq1⟩
 have HBV2:=Aa hB2
 have HI2:=Aa (HI1.o.over hB2)
 have HF2:=Aa (HF1.o.trans (FrW.of_below (Bl x) hB2))
 have HU2:=Aa (HU1.o.over hB2)
 have HW2:=Aa (HW1.o.over hB2)
 have HPL:=Aa (HP1.o.over (A0 x) hB2)
 have HRA:=Aa hrq
 have HZA:=Aa hzq
 have HLA:=Aa hLq
 have HGZ:=Aa hq0
 have HQL:=Aa hq1
 have HNE:Hx (x.bw≠bz):=by unfold Hx;have:=HIV.o;omega
 clear hB2 hrq hzq hLq hq0 hq1 HSV HBV KW
 have hkd:=HKD.o
 rcases hkr with rfl | rfl | rfl | rfl | rfl | rfl
 ·
  obtain ⟨jv,hjv⟩:∃ q:Nat,Ao d=(q:Int):=⟨(Ao d).toNat,by have:=HV.o (by omega);omega⟩
  obtain rfl:vr=(jv:Int):=by rw [HVR.o,hjv]
  have hjv2:jv < vs.length:=by have:=HV.o (by omega);omega
  have HR1:Hx (R=CM (A7 x K gs ls ms vs fs) s p (jv:Int) al0):=by
   rw [HR.o]
   unfold doX
   rw [if_neg (by omega),if_neg (by omega),if_neg (by omega),if_neg (by omega),if_neg (by omega),HAX.o,hjv]
   exact Aa rfl
  have KBec:=Aa (E3 x w0 K kf gs ls ms vs fs HSS.o s pv V2 HI2.o HVL.o _ _ p al0 HPL.o HLA.o jv hjv2)
  obtain ⟨u0,u1,u2,u3,u4,u5,u6,u7,u8⟩:=rc9 HU2.o
  obtain ⟨u10,u11⟩:=rc2 HW2.o
  obtain ⟨u12,u13⟩:=rc2 HRA.o
  clear hjv hjv2 hkd
  go_wp2_with fail
  refine (KBec.o).mono ?_
  rintro e W6 ⟨rfl,hI6,hF6⟩
  have HI6:=Aa hI6
  have HF6:=Aa (HF2.o.trans hF6)
  clear hI6 hF6
  go_wp2_with fail
  go_ret
  exact ⟨by rw [HR1.o];rfl,by rw [HR1.o];exact HI6.o,HF6.o⟩
 ·
  have HR1:Hx (R=Gx (A7 x K gs ls ms vs fs) s p d):=by
   rw [HR.o]
   unfold doX
   rw [if_pos (by omega)]
   exact Aa rfl
  have KC:=Aa (MX x w0 K kf gs ls ms vs fs HSS.o s pv V2 HI2.o HVL.o k _ d _ p funcs HRS.o HFN.o HOK.o HPL.o (by omega))
  obtain ⟨u0,u1,u2,u3,u4,u5,u6,u7,u8⟩:=rc9 HU2.o
  obtain ⟨u10,u11⟩:=rc2 HW2.o
  obtain ⟨u12,u13⟩:=rc2 HRA.o
  clear hkd
  go_wp2_with fail
  refine (KC.o).mono ?_
  rintro e W6 ⟨rfl,hI6,hF6⟩
  have HI6:=Aa hI6
  have HF6:=Aa (HF2.o.trans hF6)
  clear hI6 hF6
  go_wp2_with fail
  go_ret
  exact ⟨by rw [HR1.o];rfl,by rw [HR1.o];exact HI6.o,HF6.o⟩
 ·
  obtain ⟨jv,hjv⟩:∃ q:Nat,Ao d=(q:Int):=⟨(Ao d).toNat,by have:=HV.o (by omega);omega⟩
  obtain rfl:vr=(jv:Int):=by rw [HVR.o,hjv]
  have hjv2:jv < vs.length:=by have:=HV.o (by omega);omega
  have ho2:0<=Ae d/\Ae d < ls.length:=HOK.o.2.2.2.1 (by omega)
  obtain ⟨jo,hjo⟩:∃ q:Nat,Ae d=(q:Int):=⟨(Ae d).toNat,by omega⟩
  obtain ⟨hym,ya',yc',hye,hyc⟩:=HSS.o.ins
  injection hye with y1 y2 y3
  have hjL:jo < ls.length:=by omega
  obtain ⟨by0,oy,hyo,hyel⟩:=hyc (by intro h;rw [h] at hjL;simp at hjL)
  obtain ⟨pr,pw,l0,l1,hpr,hpw⟩:=hyel jo hjL
  obtain ⟨pa1,pn1,pc1,rfl⟩:=Aw hpr
  obtain ⟨pa2,pn2,pc2,rfl⟩:=Aw hpw
  have hya:x.c.ya=some ⟨by0,oy,none⟩:=y1.trans hyo
  have hyn:x.c.yn=ls.length:=y2
  have hlk:=HSS.o.ichk ls[jo] (List.getElem_mem hjL)
  have hn5:=HSS.o.i5
  have gj1:(jo:Int) < (x.c.yn:Int):=by omega
  have gj2:x.c.yn<=5:=by omega
  have hcv:x.c.v=(zh #[U zd (x.c.n:Int),O x.c.ga x.c.gn x.c.gc,O x.c.sa x.c.sn x.c.sc,O (some ⟨by0,oy,none⟩) x.c.yn x.c.yc,O x.c.oa x.c.on x.c.oc,O x.c.va x.c.vn x.c.vc,O x.c.fa x.c.fn x.c.fc,O x.c.ba x.c.bn x.c.bc,O x.c.la x.c.ln x.c.lc,O x.c.ka x.c.kn x.c.kc]):=by show Value.agg #[U zd (x.c.n:Int),O x.c.ga x.c.gn x.c.gc,O x.c.sa x.c.sn x.c.sc,O x.c.ya x.c.yn x.c.yc,O x.c.oa x.c.on x.c.oc,O x.c.va x.c.vn x.c.vc,O x.c.fa x.c.fn x.c.fc,O x.c.ba x.c.bn x.c.bc,O x.c.la x.c.ln x.c.lc,O x.c.ka x.c.kn x.c.kc]=_;rw [hya]
  obtain ⟨lch,hlch⟩:=nm (Av (Ay gs) x.c.n ls[jo])
  have hlcl:lch.len x.c.n:=by rw [hlch];exact Dx _ _ _
  have KL:Hx (∀ (W3:World),Ov V2 W3->Calls Tryz.prog 114 #[(zh #[U zd (x.c.n:Int),O x.c.ga x.c.gn x.c.gc,O x.c.sa x.c.sn x.c.sc,O (some ⟨by0,oy,none⟩) x.c.yn x.c.yc,O x.c.oa x.c.on x.c.oc,O x.c.va x.c.vn x.c.vc,O x.c.fa x.c.fn x.c.fc,O x.c.ba x.c.bn x.c.bc,O x.c.la x.c.ln x.c.lc,O x.c.ka x.c.kn x.c.kc]),zh #[O pa1 pn1 pc1,O pa2 pn2 pc2]] W3 fun e w'=>(∃ a1 a2 a3 a4 a5 a6,e=zj (zh #[O a1 a2 a3,O a4 a5 a6])/\Ar x.c.n (XW x) w' (zh #[O a1 a2 a3,O a4 a5 a6]) lch)/\Ov W3 w'):=fun W3 hb3=>by
   have h3:=HI2.o.over hb3
   have:=Gb x.c gs (O pa1 pn1 pc1) (O pa2 pn2 pc2) ls[jo] W3 (Af HSS.o.gr h3.below) (Ak hpr h3.below) (Ak hpw h3.below) hlk
   rw [hcv,<-hlch] at this
   refine this.mono fun e w' hh=>?_
   obtain ⟨vj,rfl,hf,hb⟩:=hh
   obtain ⟨a1,a2,a3,a4,a5,a6,rfl,hl⟩:=JL h3 hb hf hlcl
   exact ⟨⟨a1,a2,a3,a4,a5,a6,rfl,hl⟩,hb⟩
  obtain rfl:ot=(jo:Int):=by rw [HOT.o,hjo]
  obtain ⟨fb,hfb⟩:=nm (AE p lch x.c.n)
  have HR3:Hx ((fb=true->R=CM (A7 x K gs ls ms vs fs) s p (jv:Int) (BE lch p x.c.n))/\(fb=false->R=(false,s))):=by
   have e2:(A7 x K gs ls ms vs fs).ins.getD (Ae d).toNat AU=lch:=by
    rw [hlch,hjo]
    unfold A7
    simp [List.getD_eq_getElem?_getD,hjL]
   have e3:R=if fb=true then CM (A7 x K gs ls ms vs fs) s p (jv:Int) (BE lch p x.c.n) else (false,s):=by
    rw [HR.o]
    unfold doX
    rw [if_neg (by omega),if_pos (by omega),e2,hjv,hfb]
    rfl
   exact ⟨fun ht=>by rw [e3,if_pos ht],fun ht=>by rw [e3,ht];rfl⟩
  have HSV:Hx (∀ W3,Ov V2 W3->OV x by0 oy W jo pa1 pn1 pc1 pa2 pn2 pc2 W3):=fun W3 hb3=>by
   have h3:=HI2.o.over hb3
   exact ⟨h3.cw (j:=0) rfl,h3.cw (j:=1) rfl,h3.cw (j:=2) rfl,by rw [<-hya];exact h3.cw (j:=3) rfl,h3.cw (j:=4) rfl,h3.cw (j:=5) rfl,h3.cw (j:=6) rfl,h3.cw (j:=7) rfl,h3.cw (j:=8) rfl,h3.cw (j:=9) rfl,(HU2.o.over hb3) 2 _ rfl,Ab h3.below _ _ l0,Ab h3.below _ _ l1⟩
  have HYA:=Aa hya
  have HJV2:=Aa hjv2
  have HBV:Hx (Ov V2 V2.drew):=(bD _)
  have HIV2:Hx (x.bw < V2.heap.size):=HI2.o.lo.2
  have HCV:=Aa hcv
  have HFB:=Aa hfb
  have HLCL:=Aa hlcl
  obtain ⟨u0,u1,u2,u3,u4,u5,u6,u7,u8⟩:=rc9 HU2.o
  obtain ⟨u10,u11⟩:=rc2 HW2.o
  obtain ⟨u12,u13⟩:=rc2 HRA.o
  clear hkd hya hyn l0 l1 hjv hjv2 ho2 hfb hlch hlcl hcv hjo hym hyc y1 y2 y3 hjL hyo hyel hpr hpw hlk hn5
  go_wp2_with fail
  refine CC (fun act2 Wn=>∃ (bq:Nat) (x29 x30 x31 x32 x33 x34 x35 x36 x37 x38 x39 x40 x41 x42 x43:Value) (o1:Option Addr) (o2 o3:Nat) (o4:Option Addr) (o5 o6:Nat),act2={ tmps:=#[zi (some ⟨x.bw,0,none⟩),zh #[U zd 3,U zd (jv:Int),U zd (jo:Int),U zd ek,U zd en,O xa xl xc,O aa al ac,O ta tl tc,O ea el ec],U zd a,zh #[O p1 q1 r1,O p2 q2 r2],undef,zi (some ⟨W.heap.size,0,none⟩),undef,zi (some ⟨W.heap.size+1,0,none⟩),zg false,zi (some ⟨bz,0,none⟩),zi (some ⟨bq,0,none⟩),x11,x12,x13,x14,x15,x16,x17,x18,zi (some ⟨W.heap.size,0,none⟩),U zd 3,zg false,zg false,undef,undef,undef,undef,zg true,zg true,x29,x30,x31,x32,x33,x34,x35,x36,x37,x38,x39,x40,x41,x42,x43,undef,undef,undef,undef,undef,undef,undef,undef,undef,undef,undef,undef,undef,undef,undef,undef,undef,undef,undef,undef,undef,undef,undef,undef,undef,undef,undef,undef,undef,undef,undef,undef,undef,undef,undef,undef,undef,undef,undef,undef,undef,undef,undef,undef,undef,undef,undef,undef,undef,undef,undef,undef,undef,undef,undef,undef,undef,undef,undef,undef,undef,undef,undef,undef,undef,undef,undef,undef,undef,undef,undef,undef,undef,undef,undef,undef,undef,undef,undef,undef,undef,undef,undef,undef,undef,undef,undef,undef,undef,undef],defers:=[] }/\Ov V2 Wn/\Ad [O o1 o2 o3,O o4 o5 o6] Wn bq/\(Wn.frozen? ⟨bq,0,none⟩=false/\Wn.frozen? ⟨bq,1,none⟩=false)/\Ar x.c.n (XW x) Wn (zh #[O o1 o2 o3,O o4 o5 o6]) lch/\V2.heap.size<=bq/\bq < Wn.heap.size) ?_ ?_
  ·refine gS (OV x by0 oy W jo pa1 pn1 pc1 pa2 pn2 pc2) (HSV.o _ HBV.o) fun hHeld=>?_
   refine kT 0 ?_
   refine kT 1 ?_
   refine kT 2 ?_
   refine kT 3 ?_
   refine kT 4 ?_
   refine kT 5 ?_
   refine kT 6 ?_
   refine kT 7 ?_
   refine kT 8 ?_
   refine kT 9 ?_
   refine kT 10 ?_
   refine kT 11 ?_
   refine kT 12 ?_
   refine kT 13 ?_
   refine rdB 14 15 rfl (fun K hK=>?_) rfl fun K hK=>?_
   ·go_simp
    refine (KL.o _ HBV.o).mono ?_
    rintro e W3 ⟨⟨o1,o2,o3,o4,o5,o6,rfl,hL3⟩,hb3⟩
    have HB3:=Aa (Ac HBV.o hb3)
    have HL3:=Aa hL3
    clear hL3 hb3
    go_simp
    refine xK hK (HSV.o _ HB3.o) fun hHeld=>?_
    clear hK K
    refine rdA 15 rfl fun K hK=>?_
    obtain ⟨W4,hW4⟩:=nm (W3.alloc (ze #[O none 0 0,O none 0 0] 50))
    have hb4:Ov W3 W4:=by rw [hW4];exact bA _ _
    obtain ⟨bq,hq4⟩:∃ b:Nat,b=W3.heap.size:=⟨_,rfl⟩
    have HZ4:Hx (ZB bq W4):=by rw [hq4,hW4];exact Dq _ _
    have HGQ:Hx (V2.heap.size<=bq):=by rw [hq4];exact HB3.o.size
    have HB4:=Aa (Ac HB3.o hb4)
    have HL4:=Aa (HL3.o.over (A0 x) hb4)
    go_simp
    rw [<-hW4,<-hq4]
    clear hb4 hW4 hq4
    refine xK hK (HSV.o _ HB4.o) fun hHeld=>?_
    clear hK K
    have d0:=HZ4.o.c0
    have d1:=HZ4.o.c1
    have z0:=HZ4.o.z0
    have z1:=HZ4.o.z1
    obtain ⟨W9,hW9⟩:=nm (Bp W4 bq (O o1 o2 o3) (O o4 o5 o6))
    have HB9:Hx (Ov V2 W9):=by rw [hW9];exact BQ HB4.o HGQ.o _ _
    have HR9:Hx (Ad [O o1 o2 o3,O o4 o5 o6] W9 bq):=by rw [hW9];exact HZ4.o.fill _ _
    have HL9:Hx (Ar x.c.n (XW x) W9 (zh #[O o1 o2 o3,O o4 o5 o6]) lch):=by rw [hW9];exact CY HL4.o HZ4.o (by have:=HIV2.o;have:=HGQ.o;omega) _ _
    have HF9:Hx (W9.frozen? ⟨bq,0,none⟩=false/\W9.frozen? ⟨bq,1,none⟩=false):=by rw [hW9];unfold Bp;exact ⟨by simp [go_sem,z0],by simp [go_sem,z1]⟩
    unfold Bp at hW9
    refine rdA 16 rfl fun K hK=>?_
    go_simp
    rw [<-hW9]
    clear hW9
    refine xK hK (HSV.o _ HB9.o) fun hHeld=>?_
    clear hK K
    refine gE ?_
    exact Bo ⟨bq,_,_,_,_,_,_,_,_,_,_,_,_,_,_,_,o1,o2,o3,o4,o5,o6,rfl,HB9.o,HR9.o,HF9.o,HL9.o,HGQ.o,bL (HR9.o 0 _ rfl)⟩
   ·obtain ⟨W3,hW3⟩:=nm ((V2.alloc (ze #[O none 0 0,O none 0 0] 50)).drew)
    have hb3:Ov V2 W3:=by rw [hW3];exact (bA _ _).drew
    obtain ⟨bq,hq3⟩:∃ b:Nat,b=V2.heap.size:=⟨_,rfl⟩
    have hz3:ZB bq W3:=by rw [hq3,hW3];exact Hp (Dq _ _)
    have HGQ:Hx (V2.heap.size<=bq):=by rw [hq3];exact Nat.le_refl _
    have HB3:=Aa hb3
    have HZ3:=Aa hz3
    go_simp
    rw [<-hW3,<-hq3]
    clear hb3 hW3 hq3 hz3
    refine xK hK (HSV.o _ HB3.o) fun hHeld=>?_
    clear hK K
    refine rdA 14 rfl fun K hK=>?_
    go_simp
    refine (KL.o _ HB3.o).mono ?_
    rintro e W4 ⟨⟨o1,o2,o3,o4,o5,o6,rfl,hL4⟩,hb4⟩
    have HB4:=Aa (Ac HB3.o hb4)
    have HZ4:=Aa (HZ3.o.over hb4)
    have HL4:=Aa hL4
    clear hL4 hb4
    go_simp
    refine xK hK (HSV.o _ HB4.o) fun hHeld=>?_
    clear hK K
    have d0:=HZ4.o.c0
    have d1:=HZ4.o.c1
    have z0:=HZ4.o.z0
    have z1:=HZ4.o.z1
    obtain ⟨W9,hW9⟩:=nm (Bp W4 bq (O o1 o2 o3) (O o4 o5 o6))
    have HB9:Hx (Ov V2 W9):=by rw [hW9];exact BQ HB4.o HGQ.o _ _
    have HR9:Hx (Ad [O o1 o2 o3,O o4 o5 o6] W9 bq):=by rw [hW9];exact HZ4.o.fill _ _
    have HL9:Hx (Ar x.c.n (XW x) W9 (zh #[O o1 o2 o3,O o4 o5 o6]) lch):=by rw [hW9];exact CY HL4.o HZ4.o (by have:=HIV2.o;have:=HGQ.o;omega) _ _
    have HF9:Hx (W9.frozen? ⟨bq,0,none⟩=false/\W9.frozen? ⟨bq,1,none⟩=false):=by rw [hW9];unfold Bp;exact ⟨by simp [go_sem,z0],by simp [go_sem,z1]⟩
    unfold Bp at hW9
    refine rdA 16 rfl fun K hK=>?_
    go_simp
    rw [<-hW9]
    clear hW9
    refine xK hK (HSV.o _ HB9.o) fun hHeld=>?_
    clear hK K
    refine gE ?_
    exact Bo ⟨bq,_,_,_,_,_,_,_,_,_,_,_,_,_,_,_,o1,o2,o3,o4,o5,o6,rfl,HB9.o,HR9.o,HF9.o,HL9.o,HGQ.o,bL (HR9.o 0 _ rfl)⟩
  rintro act3 W7 ⟨bc,x29,x30,x31,x32,x33,x34,x35,x36,x37,x38,x39,x40,x41,x42,x43,c1,c2,c3,c4,c5,c6,rfl,hB3,hrc,-,hLc,hc0,hc1⟩
  have HI3:=Aa (HI2.o.over hB3)
  have HF3:=Aa (HF2.o.trans (FrW.of_below (Bl x) hB3))
  have HU3:=Aa (HU2.o.over hB3)
  have HW3:=Aa (HW2.o.over hB3)
  have HP3:=Aa (HPL.o.over (A0 x) hB3)
  have HRC:=Aa hrc
  have HLC:=Aa hLc
  have HS7b:Hx (∀ W8,WtI x w0 (CM (A7 x K gs ls ms vs fs) s p (jv:Int) (BE lch p x.c.n)).2 pv W8->FrW (XV x) W7 W8->Ki x by0 oy W jv p1 q1 r1 p2 q2 r2 bc c1 c2 c3 c4 c5 c6 W8):=fun W8 h8 hf8=>by
   have hlt:∀ q,V1.heap.size<=q->¬ XV x W7 q:=fun q hq e=>by have:=(HI1.o.vlt _ ((Bl x).below _ _ (Ac HBV2.o hB3) _ e)).2;omega
   exact ⟨h8.cw (j:=0) rfl,h8.cw (j:=1) rfl,h8.cw (j:=2) rfl,by rw [<-HYA.o];exact h8.cw (j:=3) rfl,h8.cw (j:=4) rfl,h8.cw (j:=5) rfl,h8.cw (j:=6) rfl,h8.cw (j:=7) rfl,h8.cw (j:=8) rfl,h8.cw (j:=9) rfl,hf8.row HU3.o (HNW.o _ (Nat.le_refl _) ∘ (Bl x).below _ _ (Ac HBV2.o hB3) _) 1 _ rfl,hf8.row HW3.o (HNW.o _ (by omega) ∘ (Bl x).below _ _ (Ac HBV2.o hB3) _) 0 _ rfl,hf8.row HW3.o (HNW.o _ (by omega) ∘ (Bl x).below _ _ (Ac HBV2.o hB3) _) 1 _ rfl,hf8.row hrc (hlt _ (Nat.le_trans HBV2.o.size hc0)) 0 _ rfl,hf8.row hrc (hlt _ (Nat.le_trans HBV2.o.size hc0)) 1 _ rfl⟩
  have HS7:Hx (∀ W8,Ov W7 W8->Ki x by0 oy W jv p1 q1 r1 p2 q2 r2 bc c1 c2 c3 c4 c5 c6 W8):=fun W8 hb8=>by
   have h8:=HI3.o.over hb8
   exact ⟨h8.cw (j:=0) rfl,h8.cw (j:=1) rfl,h8.cw (j:=2) rfl,by rw [<-HYA.o];exact h8.cw (j:=3) rfl,h8.cw (j:=4) rfl,h8.cw (j:=5) rfl,h8.cw (j:=6) rfl,h8.cw (j:=7) rfl,h8.cw (j:=8) rfl,h8.cw (j:=9) rfl,(HU3.o.over hb8) 1 _ rfl,(HW3.o.over hb8) 0 _ rfl,(HW3.o.over hb8) 1 _ rfl,(hrc.over hb8) 0 _ rfl,(hrc.over hb8) 1 _ rfl⟩
  have KF:Hx (∀ (W8:World),Ov W7 W8->Calls Tryz.prog 57 #[(zh #[U zd (x.c.n:Int),O x.c.ga x.c.gn x.c.gc,O x.c.sa x.c.sn x.c.sc,O (some ⟨by0,oy,none⟩) x.c.yn x.c.yc,O x.c.oa x.c.on x.c.oc,O x.c.va x.c.vn x.c.vc,O x.c.fa x.c.fn x.c.fc,O x.c.ba x.c.bn x.c.bc,O x.c.la x.c.ln x.c.lc,O x.c.ka x.c.kn x.c.kc]),zh #[O p1 q1 r1,O p2 q2 r2],zh #[O c1 c2 c3,O c4 c5 c6]] W8 fun e w'=>e=zj (zg fb)/\Ov W8 w'):=fun W8 hb8=>by
   have h8:=HI3.o.over hb8
   have ha:=HP3.o.over (A0 x) hb8
   have hb:=HLC.o.over (A0 x) hb8
   have:=DB x.c gs _ _ _ _ W8 (Af HSS.o.gr h8.below) HSS.o.chk ha.at_ ha.len hb.at_ hb.len
   rw [HCV.o,<-HFB.o] at this
   exact this
  have KJ:Hx (∀ (W8:World),Ov W7 W8->Calls Tryz.prog 58 #[(zh #[U zd (x.c.n:Int),O x.c.ga x.c.gn x.c.gc,O x.c.sa x.c.sn x.c.sc,O (some ⟨by0,oy,none⟩) x.c.yn x.c.yc,O x.c.oa x.c.on x.c.oc,O x.c.va x.c.vn x.c.vc,O x.c.fa x.c.fn x.c.fc,O x.c.ba x.c.bn x.c.bc,O x.c.la x.c.ln x.c.lc,O x.c.ka x.c.kn x.c.kc]),zh #[O c1 c2 c3,O c4 c5 c6],zh #[O p1 q1 r1,O p2 q2 r2]] W8 fun e w'=>(∃ a1 a2 a3 a4 a5 a6,e=zj (zh #[O a1 a2 a3,O a4 a5 a6])/\Ar x.c.n (XW x) w' (zh #[O a1 a2 a3,O a4 a5 a6]) (BE lch p x.c.n))/\Ov W8 w'):=fun W8 hb8=>by
   have h8:=HI3.o.over hb8
   have ha:=HP3.o.over (A0 x) hb8
   have hb:=HLC.o.over (A0 x) hb8
   have:=Pl x.c gs _ _ _ _ W8 (Af HSS.o.gr h8.below) HSS.o.chk hb.at_ hb.len ha.at_ ha.len
   rw [HCV.o] at this
   refine this.mono fun e w' hh=>?_
   obtain ⟨vj,rfl,hf,hbb⟩:=hh
   obtain ⟨a1,a2,a3,a4,a5,a6,rfl,hl⟩:=JL h8 hbb hf (LE _ _ _)
   exact ⟨⟨a1,a2,a3,a4,a5,a6,rfl,hl⟩,hbb⟩
  have KBec:Hx (∀ (W8:World) {y:Value},Ov W7 W8->Ar x.c.n (XW x) W8 y (BE lch p x.c.n)->Calls Tryz.prog 121 #[zi (some ⟨x.bw,0,none⟩),zh #[O p1 q1 r1,O p2 q2 r2],U zd (jv:Int),y] W8 fun e W'=>e=zj (zg (CM (A7 x K gs ls ms vs fs) s p (jv:Int) (BE lch p x.c.n)).1)/\WtI x w0 (CM (A7 x K gs ls ms vs fs) s p (jv:Int) (BE lch p x.c.n)).2 pv W'/\FrW (XV x) W8 W'):=fun W8 y hb8 hy=>E3 x w0 K kf gs ls ms vs fs HSS.o s pv W8 (HI3.o.over hb8) HVL.o _ _ p _ (HP3.o.over (A0 x) hb8) hy jv HJV2.o
  have HB7:Hx (Ov W7 W7.drew):=(bD _)
  clear hB3 hrc hLc hc0 hc1 u0 u1 u2 u3 u4 u5 u6 u7 u8 u10 u11 u12 u13 HSV HBV
  cases fb with
  | false=>
   go_wp2_with fail
   refine gS (Ki x by0 oy W jv p1 q1 r1 p2 q2 r2 bc c1 c2 c3 c4 c5 c6) (HS7.o _ HB7.o) fun hHeld=>?_
   refine kT 0 ?_
   refine kT 1 ?_
   refine kT 2 ?_
   refine kT 3 ?_
   refine kT 4 ?_
   refine kT 5 ?_
   refine rdA 6 rfl fun K hK=>?_
   go_simp
   refine (KF.o _ HB7.o).mono ?_
   rintro e W8 ⟨rfl,hb8⟩
   have HB8:=Aa (Ac HB7.o hb8)
   clear hb8
   go_simp
   refine xK hK (HS7.o _ HB8.o) fun hHeld=>?_
   clear hK K
   refine kT 7 ?_
   refine kU 8 ?_
   refine kU 9 ?_
   refine kU 10 ?_
   refine kU 11 ?_
   refine kU 12 ?_
   refine kU 13 ?_
   refine kU 14 ?_
   refine kU 15 ?_
   refine kU 16 ?_
   refine kU 17 ?_
   refine kU 18 ?_
   refine kU 19 ?_
   refine kT 20 ?_
   refine kT 21 ?_
   refine gE ?_
   go_wp2_with fail
   go_ret
   exact ⟨by rw [HR3.o.2 (by first | rfl | trivial)];first | rfl | simp,by rw [HR3.o.2 (by first | rfl | trivial)];exact HI3.o.over HB8.o,HF3.o.trans (FrW.of_below (Bl x) HB8.o)⟩
  | true=>
   go_wp2_with fail
   refine gS (Ki x by0 oy W jv p1 q1 r1 p2 q2 r2 bc c1 c2 c3 c4 c5 c6) (HS7.o _ HB7.o) fun hHeld=>?_
   refine kT 0 ?_
   refine kT 1 ?_
   refine kT 2 ?_
   refine kT 3 ?_
   refine kT 4 ?_
   refine kT 5 ?_
   refine rdA 6 rfl fun K hK=>?_
   go_simp
   refine (KF.o _ HB7.o).mono ?_
   rintro e W8 ⟨rfl,hb8⟩
   have HB8:=Aa (Ac HB7.o hb8)
   clear hb8
   go_simp
   refine xK hK (HS7.o _ HB8.o) fun hHeld=>?_
   clear hK K
   refine kT 7 ?_
   refine kT 8 ?_
   refine kT 9 ?_
   refine kT 10 ?_
   refine kT 11 ?_
   refine kT 12 ?_
   refine kT 13 ?_
   refine kT 14 ?_
   refine kT 15 ?_
   refine kT 16 ?_
   refine kT 17 ?_
   refine rdA 18 rfl fun K hK=>?_
   go_simp
   refine (KJ.o _ HB8.o).mono ?_
   rintro e W9 ⟨⟨j1,j2,j3,j4,j5,j6,rfl,hL9⟩,hb9⟩
   have HB9:=Aa (Ac HB8.o hb9)
   have HL9:=Aa hL9
   clear hL9 hb9
   go_simp
   refine xK hK (HS7.o _ HB9.o) fun hHeld=>?_
   clear hK K
   refine rdA 19 rfl fun K hK=>?_
   go_simp
   refine (KBec.o _ HB9.o HL9.o).mono ?_
   rintro e W10 ⟨rfl,hI10,hF10⟩
   have HI10:=Aa hI10
   have HF10:=Aa hF10
   have HS10:=Aa (HS7b.o W10 HI10.o (FrW.trans (FrW.of_below (Bl x) HB9.o) hF10))
   clear hI10 hF10
   go_simp
   refine xK hK (HS10.o) fun hHeld=>?_
   clear hK K
   refine kT 20 ?_
   refine kT 21 ?_
   refine gE ?_
   go_wp2_with fail
   go_ret
   exact ⟨by rw [HR3.o.1 (by first | rfl | trivial)];first | rfl | simp,by rw [HR3.o.1 (by first | rfl | trivial)];exact HI10.o,(HF3.o.trans (FrW.of_below (Bl x) HB9.o)).trans HF10.o⟩
 ·
  have ho2:0<=Ae d/\Ae d < ms.length:=HOK.o.2.2.2.2.2.2 (by omega)
  obtain ⟨jo,hjo⟩:∃ q:Nat,Ae d=(q:Int):=⟨(Ae d).toNat,by omega⟩
  obtain ⟨hym,ya',yc',hye,hyc⟩:=HSS.o.outs
  injection hye with y1 y2 y3
  have hjL:jo < ms.length:=by omega
  obtain ⟨by0,oy,hyo,hyel⟩:=hyc (by intro h;rw [h] at hjL;simp at hjL)
  obtain ⟨pr,pw,l0,l1,hpr,hpw⟩:=hyel jo hjL
  obtain ⟨pa1,pn1,pc1,rfl⟩:=Aw hpr
  obtain ⟨pa2,pn2,pc2,rfl⟩:=Aw hpw
  have hya:x.c.oa=some ⟨by0,oy,none⟩:=y1.trans hyo
  have hyn:x.c.on=ms.length:=y2
  have hlk:=HSS.o.ochk ms[jo] (List.getElem_mem hjL)
  have hn5:=HSS.o.o5
  have gj1:(jo:Int) < (x.c.on:Int):=by omega
  have gj2:x.c.on<=5:=by omega
  have hcv:x.c.v=(zh #[U zd (x.c.n:Int),O x.c.ga x.c.gn x.c.gc,O x.c.sa x.c.sn x.c.sc,O x.c.ya x.c.yn x.c.yc,O (some ⟨by0,oy,none⟩) x.c.on x.c.oc,O x.c.va x.c.vn x.c.vc,O x.c.fa x.c.fn x.c.fc,O x.c.ba x.c.bn x.c.bc,O x.c.la x.c.ln x.c.lc,O x.c.ka x.c.kn x.c.kc]):=by show Value.agg #[U zd (x.c.n:Int),O x.c.ga x.c.gn x.c.gc,O x.c.sa x.c.sn x.c.sc,O x.c.ya x.c.yn x.c.yc,O x.c.oa x.c.on x.c.oc,O x.c.va x.c.vn x.c.vc,O x.c.fa x.c.fn x.c.fc,O x.c.ba x.c.bn x.c.bc,O x.c.la x.c.ln x.c.lc,O x.c.ka x.c.kn x.c.kc]=_;rw [hya]
  obtain ⟨lch,hlch⟩:=nm (Av (Ay gs) x.c.n ms[jo])
  have hlcl:lch.len x.c.n:=by rw [hlch];exact Dx _ _ _
  have KL:Hx (∀ (W3:World),Ov V2 W3->Calls Tryz.prog 114 #[(zh #[U zd (x.c.n:Int),O x.c.ga x.c.gn x.c.gc,O x.c.sa x.c.sn x.c.sc,O x.c.ya x.c.yn x.c.yc,O (some ⟨by0,oy,none⟩) x.c.on x.c.oc,O x.c.va x.c.vn x.c.vc,O x.c.fa x.c.fn x.c.fc,O x.c.ba x.c.bn x.c.bc,O x.c.la x.c.ln x.c.lc,O x.c.ka x.c.kn x.c.kc]),zh #[O pa1 pn1 pc1,O pa2 pn2 pc2]] W3 fun e w'=>(∃ a1 a2 a3 a4 a5 a6,e=zj (zh #[O a1 a2 a3,O a4 a5 a6])/\Ar x.c.n (XW x) w' (zh #[O a1 a2 a3,O a4 a5 a6]) lch)/\Ov W3 w'):=fun W3 hb3=>by
   have h3:=HI2.o.over hb3
   have:=Gb x.c gs (O pa1 pn1 pc1) (O pa2 pn2 pc2) ms[jo] W3 (Af HSS.o.gr h3.below) (Ak hpr h3.below) (Ak hpw h3.below) hlk
   rw [hcv,<-hlch] at this
   refine this.mono fun e w' hh=>?_
   obtain ⟨vj,rfl,hf,hb⟩:=hh
   obtain ⟨a1,a2,a3,a4,a5,a6,rfl,hl⟩:=JL h3 hb hf hlcl
   exact ⟨⟨a1,a2,a3,a4,a5,a6,rfl,hl⟩,hb⟩
  obtain rfl:ot=(jo:Int):=by rw [HOT.o,hjo]
  obtain ⟨fb,hfb⟩:=nm (AE al0 lch x.c.n)
  have HR4:Hx (R=(fb,s)):=by
   have e2:(A7 x K gs ls ms vs fs).outs.getD (Ae d).toNat AU=lch:=by
    rw [hlch,hjo]
    unfold A7
    simp [List.getD_eq_getElem?_getD,hjL]
   rw [HR.o]
   unfold doX
   rw [if_neg (by omega),if_neg (by omega),if_pos (by omega),e2,HAX.o,hfb]
   exact Aa rfl
  have KF:Hx (∀ (W8:World) {y:Value},Ov V2 W8->Ar x.c.n (XW x) W8 y lch->Calls Tryz.prog 57 #[(zh #[U zd (x.c.n:Int),O x.c.ga x.c.gn x.c.gc,O x.c.sa x.c.sn x.c.sc,O x.c.ya x.c.yn x.c.yc,O (some ⟨by0,oy,none⟩) x.c.on x.c.oc,O x.c.va x.c.vn x.c.vc,O x.c.fa x.c.fn x.c.fc,O x.c.ba x.c.bn x.c.bc,O x.c.la x.c.ln x.c.lc,O x.c.ka x.c.kn x.c.kc]),zh #[O o1 o2 o3,O o4 o5 o6],y] W8 fun e w'=>e=zj (zg fb)/\Ov W8 w'):=fun W8 y hb8 hy=>by
   have h8:=HI2.o.over hb8
   have ha:=HLA.o.over (A0 x) hb8
   have:=DB x.c gs _ y _ _ W8 (Af HSS.o.gr h8.below) HSS.o.chk ha.at_ ha.len hy.at_ hy.len
   rw [hcv,<-hfb] at this
   exact this
  have HS7:Hx (∀ W3,Ov V2 W3->OU x by0 oy W jo bz o1 o2 o3 o4 o5 o6 pa1 pn1 pc1 pa2 pn2 pc2 W3):=fun W3 hb3=>by
   have h3:=HI2.o.over hb3
   exact ⟨h3.cw (j:=0) rfl,h3.cw (j:=1) rfl,h3.cw (j:=2) rfl,h3.cw (j:=3) rfl,by rw [<-hya];exact h3.cw (j:=4) rfl,h3.cw (j:=5) rfl,h3.cw (j:=6) rfl,h3.cw (j:=7) rfl,h3.cw (j:=8) rfl,h3.cw (j:=9) rfl,(HU2.o.over hb3) 2 _ rfl,(HRA.o.over hb3) 0 _ rfl,(HRA.o.over hb3) 1 _ rfl,Ab h3.below _ _ l0,Ab h3.below _ _ l1⟩
  have HB7:Hx (Ov V2 V2.drew):=(bD _)
  obtain ⟨u0,u1,u2,u3,u4,u5,u6,u7,u8⟩:=rc9 HU2.o
  obtain ⟨u10,u11⟩:=rc2 HW2.o
  obtain ⟨u12,u13⟩:=rc2 HRA.o
  clear hkd hya hyn l0 l1 ho2 hfb hlch hlcl hcv hjo hym hyc y1 y2 y3 hjL hyo hyel hpr hpw hlk hn5
  go_wp2_with fail
  refine gS (OU x by0 oy W jo bz o1 o2 o3 o4 o5 o6 pa1 pn1 pc1 pa2 pn2 pc2) (HS7.o _ HB7.o) fun hHeld=>?_
  refine kT 0 ?_
  refine kT 1 ?_
  refine kT 2 ?_
  refine kT 3 ?_
  refine kT 4 ?_
  refine kT 5 ?_
  refine kT 6 ?_
  refine kT 7 ?_
  refine kT 8 ?_
  refine kT 9 ?_
  refine kT 10 ?_
  refine kT 11 ?_
  refine kT 12 ?_
  refine kT 13 ?_
  refine kT 14 ?_
  refine kT 15 ?_
  refine kT 16 ?_
  refine kT 17 ?_
  refine kT 18 ?_
  refine rdA 19 rfl fun K hK=>?_
  go_simp
  refine (KL.o _ HB7.o).mono ?_
  rintro e W8 ⟨⟨c1,c2,c3,c4,c5,c6,rfl,hL8⟩,hb8⟩
  have HB8:=Aa (Ac HB7.o hb8)
  have HL8:=Aa hL8
  clear hL8 hb8
  go_simp
  refine xK hK (HS7.o _ HB8.o) fun hHeld=>?_
  clear hK K
  refine rdA 20 rfl fun K hK=>?_
  go_simp
  refine (KF.o _ HB8.o HL8.o).mono ?_
  rintro e W9 ⟨rfl,hb9⟩
  have HB9:=Aa (Ac HB8.o hb9)
  clear hb9
  go_simp
  refine xK hK (HS7.o _ HB9.o) fun hHeld=>?_
  clear hK K
  refine kT 21 ?_
  refine gE ?_
  go_wp2_with fail
  go_ret
  exact ⟨by rw [HR4.o];rfl,by rw [HR4.o];exact HI2.o.over HB9.o,HF2.o.trans (FrW.of_below (Bl x) HB9.o)⟩
 ·
  obtain ⟨jv,hjv⟩:∃ q:Nat,Ao d=(q:Int):=⟨(Ao d).toNat,by have:=HV.o (by omega);omega⟩
  obtain rfl:vr=(jv:Int):=by rw [HVR.o,hjv]
  obtain ⟨u0,u1,u2,u3,u4,u5,u6,u7,u8⟩:=rc9 HU2.o
  obtain ⟨u10,u11⟩:=rc2 HW2.o
  obtain ⟨u12,u13⟩:=rc2 HRA.o
  have hjv2:jv < vs.length:=by have:=HV.o (by omega);omega
  have KBd:Hx (∀ (W3:World),Ov V2 W3->Calls Tryz.prog 188 #[zi (some ⟨x.bw,0,none⟩),U zd (jv:Int)] W3 fun e W'=>∃ a1 a2 a3 a4 a5 a6,e=zj (zh #[O a1 a2 a3,O a4 a5 a6])/\Ar x.c.n (XW x) W' (zh #[O a1 a2 a3,O a4 a5 a6]) (Av (Ay gs) x.c.n vs[jv].2)/\Ov W3 W'):=fun W3 hb3=>J6 x w0 K kf gs ls ms vs fs HSS.o s pv W3 (HI2.o.over hb3) jv hjv2
  obtain ⟨tb,htb⟩:=nm ((vs[jv].1 && !x.fl.any (fun f=>decide (f.1=a) && (decide (f.2=6) || decide (f.2=7)))))
  have KT:Hx (∀ (W3:World),WtI x w0 s pv W3->Calls Tryz.prog 189 #[zi (some ⟨x.bw,0,none⟩),zh #[U zd 5,U zd (jv:Int),U zd ot,U zd ek,U zd en,O xa xl xc,O aa al ac,O ta tl tc,O ea el ec],U zd a] W3 fun e W'=>e=zj (zg tb)/\Ov W3 W'):=fun W3 h3=>by
   rw [htb]
   exact IZ x w0 K kf gs ls ms vs fs HSS.o s pv W3 h3 a 5 ot ek en xa xl xc aa al ac ta tl tc ea el ec jv hjv2
  obtain ⟨lb,hlb⟩:=nm (Av (Ay gs) x.c.n vs[jv].2)
  have HRT:Hx ((tb=true->R=CM (A7 x K gs ls ms vs fs) s p (jv:Int) ⟨lb.r,al0.w⟩)/\(tb=false->R=(false,s))):=by
   have e1:GW (A7 x K gs ls ms vs fs) a d=tb:=by
    rw [htb]
    unfold GW A7
    rw [hjv]
    simp [List.getD_eq_getElem?_getD,hjv2]
   have e2:(A7 x K gs ls ms vs fs).bound.getD (Ao d).toNat AU=lb:=by
    rw [hlb,hjv]
    unfold A7
    simp [List.getD_eq_getElem?_getD,hjv2]
   have e3:R=if tb=true then CM (A7 x K gs ls ms vs fs) s p (jv:Int) ⟨lb.r,al0.w⟩ else (false,s):=by
    rw [HR.o]
    unfold doX
    rw [if_neg (by omega),if_neg (by omega),if_neg (by omega),if_pos (by omega),e1,e2,HAX.o,hjv]
   exact ⟨fun ht=>by rw [e3,if_pos ht],fun ht=>by rw [e3,ht];rfl⟩
  rw [<-hlb] at KBd
  have f0:=HZA.o.1
  have f1:=HZA.o.2
  have hfd:=Hh
  clear htb hlb hjv hkd
  go_wp2_with fail
  refine (KBd.o _ (Below.refl _ _)).mono ?_
  rintro e W3 ⟨b1,b2,b3,b4,b5,b6,rfl,hL3,hb3⟩
  have rb:=(HRA.o.over hb3)
  obtain ⟨k0,k1⟩:=rc2 rb
  have f0:=((Am hb3).2 _ 0 HQL.o).trans f0
  have f1:=((Am hb3).2 _ 1 HQL.o).trans f1
  have hmx:=hL3.mix (HLA.o.over (A0 x) hb3)
  have hne:=HNE.o
  have hL4:Ar x.c.n (XW x) (W3.setCell ⟨bz,0,none⟩ (O b1 b2 b3)) (zh #[O b1 b2 b3,O o4 o5 o6]) ⟨lb.r,al0.w⟩:=Cl hmx k0 hne _
  have hP4:=Cl (HPL.o.over (A0 x) hb3) k0 hne (O b1 b2 b3)
  have hB4:Ov V1 (W3.setCell ⟨bz,0,none⟩ (O b1 b2 b3)):=(HBV2.o.trans (hb3.mono HBV2.o.size)).setCell (p:=⟨bz,0,none⟩) HGZ.o _
  have rb4:Ad [O b1 b2 b3,O o4 o5 o6] (W3.setCell ⟨bz,0,none⟩ (O b1 b2 b3)) bz:=by
   have r:=Bv (j:=0) (v:=O b1 b2 b3) rb (by simp)
   simpa using r
  obtain ⟨W4,hW4⟩:=nm (W3.setCell ⟨bz,0,none⟩ (O b1 b2 b3))
  rw [<-hW4] at hL4 hP4 hB4 rb4
  have HB4:=Aa hB4
  have HL4:=Aa hL4
  have HP4:=Aa hP4
  have HI4:=Aa (HI1.o.over hB4)
  have HR4:=Aa rb4
  have HU4:=Aa (HU1.o.over hB4)
  have HV4:=Aa (HW1.o.over hB4)
  have hUU:=HU2.o.over hb3
  have hWW:=HW2.o.over hb3
  obtain ⟨m0,m1,m2,m3,m4,m5,m6,m7,m8⟩:=rc9 hUU
  obtain ⟨m10,m11⟩:=rc2 hWW
  have hnb1:W.heap.size≠bz:=by have:=HGZ.o;have:=HSZ.o;omega
  have hnb2:W.heap.size+1≠bz:=by have:=HGZ.o;have:=HSZ.o;omega
  have hnb3:=Ne.symm hnb1
  have hnb4:=Ne.symm hnb2
  clear hL4 hP4 hB4 rb4 hmx hne hL3 hb3 rb hUU hWW
  go_wp2_with fail
  rw [<-hW4]
  clear hW4 k0 k1 f0 f1
  refine (KT.o _ HI4.o).mono ?_
  rintro e W5 ⟨rfl,hb5⟩
  have HI5:=Aa (HI4.o.over hb5)
  have HF5:=Aa (HF1.o.trans (FrW.of_below (Bl x) (Ac HB4.o hb5)))
  have HU5:=Aa (HU4.o.over hb5)
  have HV5:=Aa (HV4.o.over hb5)
  have HR5:=Aa (HR4.o.over hb5)
  have HL5:=Aa (HL4.o.over (A0 x) hb5)
  have HP5:=Aa (HP4.o.over (A0 x) hb5)
  clear hb5 m0 m1 m2 m3 m4 m5 m6 m7 m8 m10 m11 hnb1 hnb2 hnb3 hnb4
  cases tb with
  | false=>
   go_wp2_with fail
   go_ret
   exact ⟨by rw [HRT.o.2 (by first | rfl | trivial)];first | rfl | simp,by rw [HRT.o.2 (by first | rfl | trivial)];exact HI5.o,HF5.o⟩
  | true=>
   have m1:=HU5.o 1 _ rfl
   obtain ⟨m10,m11⟩:=rc2 HV5.o
   obtain ⟨m12,m13⟩:=rc2 HR5.o
   have KBec:=Aa (E3 x w0 K kf gs ls ms vs fs HSS.o s pv W5 HI5.o HVL.o _ _ p ⟨lb.r,al0.w⟩ HP5.o HL5.o jv hjv2)
   clear hjv2
   go_wp2_with fail
   refine (KBec.o).mono ?_
   rintro e W6 ⟨rfl,hI6,hF6⟩
   have HI6:=Aa hI6
   have HF6:=Aa (HF5.o.trans hF6)
   clear hI6 hF6
   go_wp2_with fail
   go_ret
   exact ⟨by rw [HRT.o.1 (by first | rfl | trivial)];first | rfl | simp,by rw [HRT.o.1 (by first | rfl | trivial)];exact HI6.o,HF6.o⟩
 ·
  obtain ⟨jv,hjv⟩:∃ q:Nat,Ao d=(q:Int):=⟨(Ao d).toNat,by have:=HV.o (by omega);omega⟩
  obtain rfl:vr=(jv:Int):=by rw [HVR.o,hjv]
  obtain ⟨u0,u1,u2,u3,u4,u5,u6,u7,u8⟩:=rc9 HU2.o
  obtain ⟨u10,u11⟩:=rc2 HW2.o
  obtain ⟨u12,u13⟩:=rc2 HRA.o
  have hjv2:jv < vs.length:=by have:=HV.o (by omega);omega
  have KBd:Hx (∀ (W3:World),Ov V2 W3->Calls Tryz.prog 188 #[zi (some ⟨x.bw,0,none⟩),U zd (jv:Int)] W3 fun e W'=>∃ a1 a2 a3 a4 a5 a6,e=zj (zh #[O a1 a2 a3,O a4 a5 a6])/\Ar x.c.n (XW x) W' (zh #[O a1 a2 a3,O a4 a5 a6]) (Av (Ay gs) x.c.n vs[jv].2)/\Ov W3 W'):=fun W3 hb3=>J6 x w0 K kf gs ls ms vs fs HSS.o s pv W3 (HI2.o.over hb3) jv hjv2
  obtain ⟨tb,htb⟩:=nm ((vs[jv].1 && !x.fl.any (fun f=>decide (f.1=a) && (decide (f.2=6) || decide (f.2=7)))))
  have KT:Hx (∀ (W3:World),WtI x w0 s pv W3->Calls Tryz.prog 189 #[zi (some ⟨x.bw,0,none⟩),zh #[U zd 6,U zd (jv:Int),U zd ot,U zd ek,U zd en,O xa xl xc,O aa al ac,O ta tl tc,O ea el ec],U zd a] W3 fun e W'=>e=zj (zg tb)/\Ov W3 W'):=fun W3 h3=>by
   rw [htb]
   exact IZ x w0 K kf gs ls ms vs fs HSS.o s pv W3 h3 a 6 ot ek en xa xl xc aa al ac ta tl tc ea el ec jv hjv2
  obtain ⟨lb,hlb⟩:=nm (Av (Ay gs) x.c.n vs[jv].2)
  have HRT:Hx ((tb=true->R=CM (A7 x K gs ls ms vs fs) s p (jv:Int) ⟨al0.r,lb.w⟩)/\(tb=false->R=(false,s))):=by
   have e1:GW (A7 x K gs ls ms vs fs) a d=tb:=by
    rw [htb]
    unfold GW A7
    rw [hjv]
    simp [List.getD_eq_getElem?_getD,hjv2]
   have e2:(A7 x K gs ls ms vs fs).bound.getD (Ao d).toNat AU=lb:=by
    rw [hlb,hjv]
    unfold A7
    simp [List.getD_eq_getElem?_getD,hjv2]
   have e3:R=if tb=true then CM (A7 x K gs ls ms vs fs) s p (jv:Int) ⟨al0.r,lb.w⟩ else (false,s):=by
    rw [HR.o]
    unfold doX
    rw [if_neg (by omega),if_neg (by omega),if_neg (by omega),if_neg (by omega),if_pos (by omega),e1,e2,HAX.o,hjv]
   exact ⟨fun ht=>by rw [e3,if_pos ht],fun ht=>by rw [e3,ht];rfl⟩
  rw [<-hlb] at KBd
  have f0:=HZA.o.1
  have f1:=HZA.o.2
  have hfd:=Hh
  clear htb hlb hjv hkd
  go_wp2_with fail
  refine (KBd.o _ (Below.refl _ _)).mono ?_
  rintro e W3 ⟨b1,b2,b3,b4,b5,b6,rfl,hL3,hb3⟩
  have rb:=(HRA.o.over hb3)
  obtain ⟨k0,k1⟩:=rc2 rb
  have f0:=((Am hb3).2 _ 0 HQL.o).trans f0
  have f1:=((Am hb3).2 _ 1 HQL.o).trans f1
  have hmx:=(HLA.o.over (A0 x) hb3).mix hL3
  have hne:=HNE.o
  have hL4:Ar x.c.n (XW x) (W3.setCell ⟨bz,1,none⟩ (O b4 b5 b6)) (zh #[O o1 o2 o3,O b4 b5 b6]) ⟨al0.r,lb.w⟩:=Cl hmx k1 hne _
  have hP4:=Cl (HPL.o.over (A0 x) hb3) k1 hne (O b4 b5 b6)
  have hB4:Ov V1 (W3.setCell ⟨bz,1,none⟩ (O b4 b5 b6)):=(HBV2.o.trans (hb3.mono HBV2.o.size)).setCell (p:=⟨bz,1,none⟩) HGZ.o _
  have rb4:Ad [O o1 o2 o3,O b4 b5 b6] (W3.setCell ⟨bz,1,none⟩ (O b4 b5 b6)) bz:=by
   have r:=Bv (j:=1) (v:=O b4 b5 b6) rb (by simp)
   simpa using r
  obtain ⟨W4,hW4⟩:=nm (W3.setCell ⟨bz,1,none⟩ (O b4 b5 b6))
  rw [<-hW4] at hL4 hP4 hB4 rb4
  have HB4:=Aa hB4
  have HL4:=Aa hL4
  have HP4:=Aa hP4
  have HI4:=Aa (HI1.o.over hB4)
  have HR4:=Aa rb4
  have HU4:=Aa (HU1.o.over hB4)
  have HV4:=Aa (HW1.o.over hB4)
  have hUU:=HU2.o.over hb3
  have hWW:=HW2.o.over hb3
  obtain ⟨m0,m1,m2,m3,m4,m5,m6,m7,m8⟩:=rc9 hUU
  obtain ⟨m10,m11⟩:=rc2 hWW
  have hnb1:W.heap.size≠bz:=by have:=HGZ.o;have:=HSZ.o;omega
  have hnb2:W.heap.size+1≠bz:=by have:=HGZ.o;have:=HSZ.o;omega
  have hnb3:=Ne.symm hnb1
  have hnb4:=Ne.symm hnb2
  clear hL4 hP4 hB4 rb4 hmx hne hL3 hb3 rb hUU hWW
  go_wp2_with fail
  rw [<-hW4]
  clear hW4 k0 k1 f0 f1
  refine (KT.o _ HI4.o).mono ?_
  rintro e W5 ⟨rfl,hb5⟩
  have HI5:=Aa (HI4.o.over hb5)
  have HF5:=Aa (HF1.o.trans (FrW.of_below (Bl x) (Ac HB4.o hb5)))
  have HU5:=Aa (HU4.o.over hb5)
  have HV5:=Aa (HV4.o.over hb5)
  have HR5:=Aa (HR4.o.over hb5)
  have HL5:=Aa (HL4.o.over (A0 x) hb5)
  have HP5:=Aa (HP4.o.over (A0 x) hb5)
  clear hb5 m0 m1 m2 m3 m4 m5 m6 m7 m8 m10 m11 hnb1 hnb2 hnb3 hnb4
  cases tb with
  | false=>
   go_wp2_with fail
   go_ret
   exact ⟨by rw [HRT.o.2 (by first | rfl | trivial)];first | rfl | simp,by rw [HRT.o.2 (by first | rfl | trivial)];exact HI5.o,HF5.o⟩
  | true=>
   have m1:=HU5.o 1 _ rfl
   obtain ⟨m10,m11⟩:=rc2 HV5.o
   obtain ⟨m12,m13⟩:=rc2 HR5.o
   have KBec:=Aa (E3 x w0 K kf gs ls ms vs fs HSS.o s pv W5 HI5.o HVL.o _ _ p ⟨al0.r,lb.w⟩ HP5.o HL5.o jv hjv2)
   clear hjv2
   go_wp2_with fail
   refine (KBec.o).mono ?_
   rintro e W6 ⟨rfl,hI6,hF6⟩
   have HI6:=Aa hI6
   have HF6:=Aa (HF5.o.trans hF6)
   clear hI6 hF6
   go_wp2_with fail
   go_ret
   exact ⟨by rw [HRT.o.1 (by first | rfl | trivial)];first | rfl | simp,by rw [HRT.o.1 (by first | rfl | trivial)];exact HI6.o,HF6.o⟩
abbrev OT (x:WX) (g pl cap:Nat) (W:World) (dp:Nat) (kd vr ot ek en:Int) (xa:Option Addr) (xl xc:Nat) (aa:Option Addr) (al ac:Nat) (ta:Option Addr) (tl tc:Nat) (ea:Option Addr) (el ec:Nat) (p1:Option Addr) (q1 r1:Nat) (p2:Option Addr) (q2 r2:Nat) (Wz:World):Prop:=Wz.cell? ⟨x.bw,11,none⟩=some (O (some ⟨g,0,none⟩) pl cap)/\CE Wz W.heap.size 2 (U zd (dp:Int))/\CE Wz W.heap.size 3 (U zd kd)/\CE Wz W.heap.size 4 (U zd vr)/\CE Wz W.heap.size 5 (U zd ot)/\CE Wz W.heap.size 6 (U zd ek)/\CE Wz W.heap.size 7 (U zd en)/\CE Wz W.heap.size 8 (O xa xl xc)/\CE Wz W.heap.size 9 (O aa al ac)/\CE Wz W.heap.size 10 (O ta tl tc)/\CE Wz W.heap.size 11 (O ea el ec)/\CE Wz g (dp*2) (O p1 q1 r1)/\CE Wz g (dp*2+1) (O p2 q2 r2)
abbrev Kh (x:WX) (W:World) (dp bp:Nat) (p1:Option Addr) (q1 r1:Nat) (p2:Option Addr) (q2 r2 bs:Nat) (ek en:Int) (xa:Option Addr) (xl xc:Nat) (Wz:World):Prop:=Wz.cell? ⟨x.bw,1,none⟩=some (U zd (x.c.n:Int))/\CE Wz x.bw 2 (O x.c.ga x.c.gn x.c.gc)/\CE Wz x.bw 3 (O x.c.sa x.c.sn x.c.sc)/\CE Wz x.bw 4 (O x.c.ya x.c.yn x.c.yc)/\CE Wz x.bw 5 (O x.c.oa x.c.on x.c.oc)/\CE Wz x.bw 6 (O x.c.va x.c.vn x.c.vc)/\CE Wz x.bw 7 (O x.c.fa x.c.fn x.c.fc)/\CE Wz x.bw 8 (O x.c.ba x.c.bn x.c.bc)/\CE Wz x.bw 9 (O x.c.la x.c.ln x.c.lc)/\CE Wz x.bw 10 (O x.c.ka x.c.kn x.c.kc)/\CE Wz W.heap.size 2 (U zd (dp:Int))/\CE Wz bp 0 (O p1 q1 r1)/\CE Wz bp 1 (O p2 q2 r2)/\CE Wz bs 3 (U zd ek)/\CE Wz bs 4 (U zd en)/\CE Wz bs 5 (O xa xl xc)
abbrev Me (x:WX) (W:World) (dp bs:Nat) (ek en:Int) (xa:Option Addr) (xl xc:Nat) (Wz:World):Prop:=Wz.cell? ⟨x.bw,1,none⟩=some (U zd (x.c.n:Int))/\CE Wz x.bw 2 (O x.c.ga x.c.gn x.c.gc)/\CE Wz x.bw 3 (O x.c.sa x.c.sn x.c.sc)/\CE Wz x.bw 4 (O x.c.ya x.c.yn x.c.yc)/\CE Wz x.bw 5 (O x.c.oa x.c.on x.c.oc)/\CE Wz x.bw 6 (O x.c.va x.c.vn x.c.vc)/\CE Wz x.bw 7 (O x.c.fa x.c.fn x.c.fc)/\CE Wz x.bw 8 (O x.c.ba x.c.bn x.c.bc)/\CE Wz x.bw 9 (O x.c.la x.c.ln x.c.lc)/\CE Wz x.bw 10 (O x.c.ka x.c.kn x.c.kc)/\CE Wz W.heap.size 2 (U zd (dp:Int))/\CE Wz bs 3 (U zd ek)/\CE Wz bs 4 (U zd en)/\CE Wz bs 5 (O xa xl xc)
abbrev Md (x:WX) (b8 z8 bp:Nat) (p1:Option Addr) (q1 r1:Nat) (p2:Option Addr) (q2 r2 bs jv j:Nat) (rk rn:Int) (ra:Option Addr) (rl rc:Nat) (Wz:World):Prop:=Wz.cell? ⟨x.bw,1,none⟩=some (U zd (x.c.n:Int))/\CE Wz x.bw 2 (O x.c.ga x.c.gn x.c.gc)/\CE Wz x.bw 3 (O x.c.sa x.c.sn x.c.sc)/\CE Wz x.bw 4 (O x.c.ya x.c.yn x.c.yc)/\CE Wz x.bw 5 (O x.c.oa x.c.on x.c.oc)/\CE Wz x.bw 6 (O x.c.va x.c.vn x.c.vc)/\CE Wz x.bw 7 (O (some ⟨b8,z8,none⟩) x.c.fn x.c.fc)/\CE Wz x.bw 8 (O x.c.ba x.c.bn x.c.bc)/\CE Wz x.bw 9 (O x.c.la x.c.ln x.c.lc)/\CE Wz x.bw 10 (O x.c.ka x.c.kn x.c.kc)/\CE Wz bp 0 (O p1 q1 r1)/\CE Wz bp 1 (O p2 q2 r2)/\CE Wz bs 1 (U zd (jv:Int))/\CE Wz bs 2 (U zd (j:Int))/\CE Wz b8 (z8+j*5+2) (U zd rk)/\CE Wz b8 (z8+j*5+3) (U zd rn)/\CE Wz b8 (z8+j*5+4) (O ra rl rc)
theorem Ru (x) (w0:World) (K kf:Nat) (gs ls ms vs fs) (S:WtS x w0 K kf gs ls ms vs fs) (s:WSt) (pv:Value) (W:World) (h:WtI x w0 s pv W) (hvl:s.vs.length=vs.length) (kind:Nat) (a:Int) (dp k:Nat) (cs:List Value) (d) (funcs:Int) (hrs:RS w0 K (k+1) cs d) (hfn:funcs<=fs.length) (hok:Cq K vs.length ls.length ms.length funcs fs d) (hd:dp < s.ps.length) (hd9:dp<=9000) (hps:s.ps.length<=20000)
  (hkind:kind=1\/(kind=2/\Ag d=8/\dp+1 < s.ps.length)\/(kind=3/\Ag d=2)) :
  Calls Tryz.prog 64 #[zi (some ⟨x.bw,0,none⟩),.agg (U zd kind::U zd a::U zd dp::cs).toArray] W fun e W'=>e=zj (zg (obW (A7 x K gs ls ms vs fs) kind a dp d s).1)/\(∃ pv',WtI x w0 (obW (A7 x K gs ls ms vs fs) kind a dp d s).2 pv' W')/\FrW (XV x) W W':=by
 obtain ⟨ek,en,xa,xl,xc,aa,ac,ta,tc,ea,ec,rfl,i0,i1,i2,hX,hA,hT,hE,-,-,-⟩:=hrs.form
 have hrs':=hrs
 obtain ⟨kd,hkd⟩:=nm (Ag d)
 obtain ⟨vr,hvr⟩:=nm (Ao d)
 obtain ⟨ot,hot⟩:=nm (Ae d)
 obtain ⟨al,hal⟩:=nm ((Ah d).length)
 obtain ⟨tl,htl⟩:=nm ((Ai d).length)
 obtain ⟨el,hel⟩:=nm ((Al d).length)
 rw [<-hkd,<-hvr,<-hot,<-hal,<-htl,<-hel] at hrs' ⊢
 obtain ⟨R,hR⟩:=nm (obW (A7 x K gs ls ms vs fs) kind a dp d s)
 rw [<-hR]
 have HR:=Aa hR
 obtain ⟨g,cap,p1,q1,r1,p2,q2,r2,hpv,k0,k1,hlp⟩:=h.pls.cells hd
 subst hpv
 obtain ⟨p,hpp⟩:=nm (s.ps[dp])
 rw [<-hpp] at hlp
 have HPD:Hx (s.ps.getD dp AU=p):=by rw [hpp];exact Aa (by simp [List.getD_eq_getElem?_getD,hd])
 obtain ⟨pl,hpl⟩:=nm s.ps.length
 obtain ⟨V1,hV1⟩:=nm ((W.alloc (ze #[U zd (kind:Int),U zd a,U zd (dp:Int),U zd kd,U zd vr,U zd ot,U zd ek,U zd en,O xa xl xc,O aa al ac,O ta tl tc,O ea el ec] 132)))
 have hb1:Ov W V1:=by rw [hV1];exact bA W _
 have rowM:Ad [U zd (kind:Int),U zd a,U zd (dp:Int),U zd kd,U zd vr,U zd ot,U zd ek,U zd en,O xa xl xc,O aa al ac,O ta tl tc,O ea el ec] V1 W.heap.size:=by rw [hV1];exact Ad.new _ _ _
 have h1:=h.over hb1
 have HU1:=Aa rowM
 have HI1:=Aa h1
 have HLP1:=Aa (hlp.over (A0 x) hb1)
 have HF1:=Aa (FrW.of_below (Bl x) hb1)
 have HW1:Hx (W.heap.size < V1.heap.size):=by rw [hV1];exact Aa (by simp)
 have HNX:Hx (∀ q,W.heap.size<=q->∀ W8,Ov V1 W8->¬ XV x W8 q):=fun q hq W8 hb8 e=>by have:=(h.vlt _ ((Bl x).below _ _ (Ac hb1 hb8) _ e)).2;omega
 have HSS:=Aa S
 have HVL:=Aa hvl
 have HVR:=Aa hvr
 have HOT:=Aa hot
 have HRS:=Aa hrs'
 have HOK:=Aa hok
 have HFN:=Aa hfn
 have HX:=Aa hX
 have HDP:=Aa hd
 have HPS:=Aa hpl
 have HC1:=Aa (Ab hb1 _ _ k0)
 have HC2:=Aa (Ab hb1 _ _ k1)
 have HSV:Hx (∀ W2,Ov V1 W2->OT x g pl cap W dp kd vr ot ek en xa xl xc aa al ac ta tl tc ea el ec p1 q1 r1 p2 q2 r2 W2):=fun W2 hb2=>by
  have h2:=h1.over hb2
  exact ⟨by rw [hpl];exact h2.c11,(rowM.over hb2) 2 _ rfl,(rowM.over hb2) 3 _ rfl,(rowM.over hb2) 4 _ rfl,(rowM.over hb2) 5 _ rfl,(rowM.over hb2) 6 _ rfl,(rowM.over hb2) 7 _ rfl,(rowM.over hb2) 8 _ rfl,(rowM.over hb2) 9 _ rfl,(rowM.over hb2) 10 _ rfl,(rowM.over hb2) 11 _ rfl,Ab hb2 _ _ HC1.o,Ab hb2 _ _ HC2.o⟩
 have hdp1:(dp:Int) < (pl:Int):=by omega
 have hpl2:pl<=20000:=by omega
 have HKD:=Aa hkd
 have HKN:=Aa hkind
 clear hX hA hT hE hrs hrs' h rowM hb1 hok hvl hfn h1 S hkd hvr hot hal htl hel i0 i1 i2 hR hlp hpp hpl hps hd k0 k1
 go_enter Tryz.func64,Tryz.ntmps64
 go_wp2_with fail
 rw [<-hV1]
 clear hV1
 refine CC (fun act2 Wn=>∃ (bp bs:Nat) (x7 x8 x9 x10 x11 x12 x13 x14 x15 x16:Value),act2={ tmps:=#[zi (some ⟨x.bw,0,none⟩),zh #[U zd (kind:Int),U zd a,U zd (dp:Int),U zd kd,U zd vr,U zd ot,U zd ek,U zd en,O xa xl xc,O aa al ac,O ta tl tc,O ea el ec],undef,zi (some ⟨W.heap.size,0,none⟩),zg false,zi (some ⟨bp,0,none⟩),zi (some ⟨bs,0,none⟩),x7,x8,x9,x10,x11,x12,x13,x14,x15,x16,undef,undef,undef,undef,undef,undef,undef,undef,undef,undef,undef,undef,undef,undef,undef,undef,undef,undef,undef,undef,undef,undef,undef,undef,undef,undef,undef,undef,undef,undef,undef,undef,undef,undef,undef,undef,undef,undef,undef,undef,undef,undef,undef,undef,undef,undef,undef,undef,undef,undef,undef,undef,undef,undef,undef,undef,undef,undef,undef,undef,undef,undef,undef,undef,undef,undef,undef,undef,undef,undef,undef,undef,undef,undef,undef,undef,undef],defers:=[] }/\Ov V1 Wn/\Ad [O p1 q1 r1,O p2 q2 r2] Wn bp/\Ad [U zd kd,U zd vr,U zd ot,U zd ek,U zd en,O xa xl xc,O aa al ac,O ta tl tc,O ea el ec] Wn bs/\V1.heap.size<=bp/\V1.heap.size<=bs) ?_ ?_
 ·refine gS (OT x g pl cap W dp kd vr ot ek en xa xl xc aa al ac ta tl tc ea el ec p1 q1 r1 p2 q2 r2) (HSV.o _ (bD _)) fun hHeld=>?_
  refine kT 0 ?_
  refine kT 1 ?_
  refine kT 2 ?_
  refine kT 3 ?_
  refine kT 4 ?_
  refine kT 5 ?_
  refine kT 6 ?_
  refine kT 7 ?_
  refine kT 8 ?_
  refine kT 9 ?_
  refine rdB 10 11 rfl (fun K hK=>?_) rfl fun K hK=>?_
  ·go_simp
   refine xK hK (HSV.o _ ((bA _ _).drew)) fun hHeld=>?_
   clear hK K
   refine rdA 11 rfl fun K hK=>?_
   go_simp
   refine xK hK (HSV.o _ (((bA _ _).alloc (by simp) _).drew)) fun hHeld=>?_
   clear hK K
   refine rdA 12 rfl fun K hK=>?_
   go_simp
   refine xK hK (HSV.o _ (((bA _ _).alloc (by simp) _).drew)) fun hHeld=>?_
   clear hK K
   refine rdA 13 rfl fun K hK=>?_
   go_simp
   refine xK hK (HSV.o _ (((bA _ _).alloc (by simp) _).drew)) fun hHeld=>?_
   clear hK K
   refine gE ?_
   have hb:Ov V1 ((V1.alloc (ze #[O p1 q1 r1,O p2 q2 r2] 50)).alloc (ze #[U zd kd,U zd vr,U zd ot,U zd ek,U zd en,O xa xl xc,O aa al ac,O ta tl tc,O ea el ec] 130)).drew:=((bA _ _).alloc (by simp) _).drew
   have rr1:Ad [O p1 q1 r1,O p2 q2 r2] ((V1.alloc (ze #[O p1 q1 r1,O p2 q2 r2] 50)).alloc (ze #[U zd kd,U zd vr,U zd ot,U zd ek,U zd en,O xa xl xc,O aa al ac,O ta tl tc,O ea el ec] 130)).drew V1.heap.size:=((Ad.new [O p1 q1 r1,O p2 q2 r2] 50 V1).over (bA _ _)).over (bD _)
   have rr2:Ad [U zd kd,U zd vr,U zd ot,U zd ek,U zd en,O xa xl xc,O aa al ac,O ta tl tc,O ea el ec] ((V1.alloc (ze #[O p1 q1 r1,O p2 q2 r2] 50)).alloc (ze #[U zd kd,U zd vr,U zd ot,U zd ek,U zd en,O xa xl xc,O aa al ac,O ta tl tc,O ea el ec] 130)).drew (V1.heap.size+1):=by
    have r:=(Ad.new [U zd kd,U zd vr,U zd ot,U zd ek,U zd en,O xa xl xc,O aa al ac,O ta tl tc,O ea el ec] 130 (V1.alloc (ze #[O p1 q1 r1,O p2 q2 r2] 50))).over (bD _)
    simpa using r
   exact Bo ⟨V1.heap.size,V1.heap.size+1,_,_,_,_,_,_,_,_,_,_,rfl,hb,rr1,rr2,Nat.le_refl _,Nat.le_succ _⟩
  ·go_simp
   refine xK hK (HSV.o _ ((bA _ _).drew)) fun hHeld=>?_
   clear hK K
   refine rdA 10 rfl fun K hK=>?_
   go_simp
   refine xK hK (HSV.o _ (((bA _ _).alloc (by simp) _).drew)) fun hHeld=>?_
   clear hK K
   refine rdA 12 rfl fun K hK=>?_
   go_simp
   refine xK hK (HSV.o _ (((bA _ _).alloc (by simp) _).drew)) fun hHeld=>?_
   clear hK K
   refine rdA 13 rfl fun K hK=>?_
   go_simp
   refine xK hK (HSV.o _ (((bA _ _).alloc (by simp) _).drew)) fun hHeld=>?_
   clear hK K
   refine gE ?_
   have hb:Ov V1 ((V1.alloc (ze #[U zd kd,U zd vr,U zd ot,U zd ek,U zd en,O xa xl xc,O aa al ac,O ta tl tc,O ea el ec] 130)).alloc (ze #[O p1 q1 r1,O p2 q2 r2] 50)).drew:=((bA _ _).alloc (by simp) _).drew
   have rr1:Ad [U zd kd,U zd vr,U zd ot,U zd ek,U zd en,O xa xl xc,O aa al ac,O ta tl tc,O ea el ec] ((V1.alloc (ze #[U zd kd,U zd vr,U zd ot,U zd ek,U zd en,O xa xl xc,O aa al ac,O ta tl tc,O ea el ec] 130)).alloc (ze #[O p1 q1 r1,O p2 q2 r2] 50)).drew V1.heap.size:=((Ad.new [U zd kd,U zd vr,U zd ot,U zd ek,U zd en,O xa xl xc,O aa al ac,O ta tl tc,O ea el ec] 130 V1).over (bA _ _)).over (bD _)
   have rr2:Ad [O p1 q1 r1,O p2 q2 r2] ((V1.alloc (ze #[U zd kd,U zd vr,U zd ot,U zd ek,U zd en,O xa xl xc,O aa al ac,O ta tl tc,O ea el ec] 130)).alloc (ze #[O p1 q1 r1,O p2 q2 r2] 50)).drew (V1.heap.size+1):=by
    have r:=(Ad.new [O p1 q1 r1,O p2 q2 r2] 50 (V1.alloc (ze #[U zd kd,U zd vr,U zd ot,U zd ek,U zd en,O xa xl xc,O aa al ac,O ta tl tc,O ea el ec] 130))).over (bD _)
    simpa using r
   exact Bo ⟨V1.heap.size+1,V1.heap.size,_,_,_,_,_,_,_,_,_,_,rfl,hb,rr2,rr1,Nat.le_succ _,Nat.le_refl _⟩
 rintro act2 V2 ⟨bp,bs,x7,x8,x9,x10,x11,x12,x13,x14,x15,x16,rfl,hB2,hrp,hrs2,hp0,hs0⟩
 have HBV2:=Aa hB2
 have HI2:=Aa (HI1.o.over hB2)
 have HF2:=Aa (HF1.o.trans (FrW.of_below (Bl x) hB2))
 have HU2:=Aa (HU1.o.over hB2)
 have HLP2:=Aa (HLP1.o.over (A0 x) hB2)
 have HRP2:=Aa hrp
 have HRS2:=Aa hrs2
 have HNW:Hx (¬ XV x V2 W.heap.size):=HNX.o _ (Nat.le_refl _) V2 hB2
 have HNP:Hx (¬ XV x V2 bp):=HNX.o _ (by have:=HW1.o;omega) V2 hB2
 have HNS:Hx (¬ XV x V2 bs):=HNX.o _ (by have:=HW1.o;omega) V2 hB2
 clear hB2 hrp hrs2 hp0 hs0 HSV
 have hkd:=HKD.o
 rcases (HKN.o) with rfl | ⟨rfl,hk8,hd2⟩ | ⟨rfl,hk2⟩
 ·
  by_cases hk7:Ag d=7\/Ag d=8
  ·obtain ⟨al0,hall⟩:=nm (CN (A7 x K gs ls ms vs fs) s p (Ap d))
   have HR1:Hx (R=(true,s.enter dp al0)):=by
    rw [HR.o,hall]
    unfold obW
    rw [if_neg (by omega),if_neg (by omega),if_pos hk7,HPD.o]
    exact Aa rfl
   have KW:Hx (∀ (W3:World),Ov V2 W3->Calls Tryz.prog 103 #[(zh #[U zd (x.c.n:Int),O x.c.ga x.c.gn x.c.gc,O x.c.sa x.c.sn x.c.sc,O x.c.ya x.c.yn x.c.yc,O x.c.oa x.c.on x.c.oc,O x.c.va x.c.vn x.c.vc,O x.c.fa x.c.fn x.c.fc,O x.c.ba x.c.bn x.c.bc,O x.c.la x.c.ln x.c.lc,O x.c.ka x.c.kn x.c.kc]),zh #[O p1 q1 r1,O p2 q2 r2],zh #[U zd ek,U zd en,O xa xl xc]] W3 fun e w'=>(∃ p1 q1 r1 p2 q2 r2,e=zj (zh #[O p1 q1 r1,O p2 q2 r2])/\Ar x.c.n (XW x) w' (zh #[O p1 q1 r1,O p2 q2 r2]) al0)/\Ov W3 w'):=fun W3 hb3=>by
    have h3:=HI2.o.over hb3
    have:=CU x.c HSS.o.n1 HSS.o.n6 gs s.vs (XW x) (A0 x) _ p K _ (Ap d) W3 (Af HSS.o.gr h3.below) HSS.o.chk h3.lev.levs (HLP2.o.over (A0 x) hb3) (by rw [HVL.o];exact HSS.o.v16) (fun k hk=>(h3.xlt k hk).2) (HX.o.over h3.below) (by rw [HVL.o];exact A8 HOK.o)
    rw [hall]
    exact this
   have KE:Hx (∀ (W3:World) {y:Value},Ov V2 W3->Ar x.c.n (XW x) W3 y al0->Calls Tryz.prog 120 #[zi (some ⟨x.bw,0,none⟩),U zd (dp:Int),y] W3 fun e W'=>e=zj (zk #[])/\(∃ pv',WtI x w0 (s.enter dp al0) pv' W')/\FrW (XV x) W3 W'):=fun W3 y hb3 hy=>Np x w0 HSS.o.n1 s _ W3 (HI2.o.over hb3) y al0 hy dp HDP.o hd9
   have HSK2:Hx (∀ W8,Ov V2 W8->Kh x W dp bp p1 q1 r1 p2 q2 r2 bs ek en xa xl xc W8):=fun W8 hb8=>by
    have h8:=HI2.o.over hb8
    exact ⟨h8.cw (j:=0) rfl,h8.cw (j:=1) rfl,h8.cw (j:=2) rfl,h8.cw (j:=3) rfl,h8.cw (j:=4) rfl,h8.cw (j:=5) rfl,h8.cw (j:=6) rfl,h8.cw (j:=7) rfl,h8.cw (j:=8) rfl,h8.cw (j:=9) rfl,(HU2.o.over hb8) 2 _ rfl,(HRP2.o.over hb8) 0 _ rfl,(HRP2.o.over hb8) 1 _ rfl,(HRS2.o.over hb8) 3 _ rfl,(HRS2.o.over hb8) 4 _ rfl,(HRS2.o.over hb8) 5 _ rfl⟩
   have HSK:Hx (∀ W8 s8 pv8,WtI x w0 s8 pv8 W8->FrW (XV x) V2 W8->Kh x W dp bp p1 q1 r1 p2 q2 r2 bs ek en xa xl xc W8):=fun W8 s8 pv8 h8 hf8=>by
    exact ⟨h8.cw (j:=0) rfl,h8.cw (j:=1) rfl,h8.cw (j:=2) rfl,h8.cw (j:=3) rfl,h8.cw (j:=4) rfl,h8.cw (j:=5) rfl,h8.cw (j:=6) rfl,h8.cw (j:=7) rfl,h8.cw (j:=8) rfl,h8.cw (j:=9) rfl,hf8.row HU2.o HNW.o 2 _ rfl,hf8.row HRP2.o HNP.o 0 _ rfl,hf8.row HRP2.o HNP.o 1 _ rfl,hf8.row HRS2.o HNS.o 3 _ rfl,hf8.row HRS2.o HNS.o 4 _ rfl,hf8.row HRS2.o HNS.o 5 _ rfl⟩
   have HBd:Hx (Ov V2 V2.drew):=(bD _)
   obtain ⟨u0,u1,u2,u3,u4,u5,u6,u7,u8,u9,u10,u11⟩:=NL HU2.o
   obtain ⟨t0,t1,t2,t3,t4,t5,t6,t7,t8⟩:=rc9 HRS2.o
   obtain ⟨t10,t11⟩:=rc2 HRP2.o
   have hk78:kd=7\/kd=8:=by omega
   clear hall hkd hk7
   rcases hk78 with rfl | rfl
   ·go_wp2_with fail
    refine gS (Kh x W dp bp p1 q1 r1 p2 q2 r2 bs ek en xa xl xc) (HSK2.o _ HBd.o) fun hHeld=>?_
    refine kT 0 ?_
    refine kT 1 ?_
    refine kT 2 ?_
    refine kT 3 ?_
    refine kT 4 ?_
    refine kT 5 ?_
    refine kT 6 ?_
    refine kT 7 ?_
    refine kT 8 ?_
    refine kT 9 ?_
    refine rdA 10 rfl fun K hK=>?_
    go_simp
    refine (KW.o _ HBd.o).mono ?_
    rintro e W6 ⟨⟨o1,o2,o3,o4,o5,o6,rfl,hL6⟩,hb6⟩
    have HB6:=Aa (Ac HBd.o hb6)
    have HL6:=Aa hL6
    clear hL6 hb6
    go_simp
    refine xK hK (HSK2.o _ HB6.o) fun hHeld=>?_
    clear hK K
    refine rdA 11 rfl fun K hK=>?_
    go_simp
    refine (KE.o _ HB6.o HL6.o).mono ?_
    rintro e W7 ⟨rfl,⟨pv7,hI7⟩,hF7⟩
    have HI7:=Aa hI7
    have HF7:=Aa (HF2.o.trans ((FrW.of_below (Bl x) HB6.o).trans hF7))
    have HS7:=Aa (HSK.o W7 _ _ HI7.o ((FrW.of_below (Bl x) HB6.o).trans hF7))
    clear hI7 hF7
    go_simp
    refine xK hK (HS7.o) fun hHeld=>?_
    clear hK K
    refine gE ?_
    go_wp2_with fail
    go_ret
    exact ⟨by rw [HR1.o];rfl,by rw [HR1.o];exact ⟨pv7,HI7.o⟩,HF7.o⟩
   ·go_wp2_with fail
    refine gS (Kh x W dp bp p1 q1 r1 p2 q2 r2 bs ek en xa xl xc) (HSK2.o _ HBd.o) fun hHeld=>?_
    refine kT 0 ?_
    refine kT 1 ?_
    refine kT 2 ?_
    refine kT 3 ?_
    refine kT 4 ?_
    refine kT 5 ?_
    refine kT 6 ?_
    refine kT 7 ?_
    refine kT 8 ?_
    refine kT 9 ?_
    refine rdA 10 rfl fun K hK=>?_
    go_simp
    refine (KW.o _ HBd.o).mono ?_
    rintro e W6 ⟨⟨o1,o2,o3,o4,o5,o6,rfl,hL6⟩,hb6⟩
    have HB6:=Aa (Ac HBd.o hb6)
    have HL6:=Aa hL6
    clear hL6 hb6
    go_simp
    refine xK hK (HSK2.o _ HB6.o) fun hHeld=>?_
    clear hK K
    refine rdA 11 rfl fun K hK=>?_
    go_simp
    refine (KE.o _ HB6.o HL6.o).mono ?_
    rintro e W7 ⟨rfl,⟨pv7,hI7⟩,hF7⟩
    have HI7:=Aa hI7
    have HF7:=Aa (HF2.o.trans ((FrW.of_below (Bl x) HB6.o).trans hF7))
    have HS7:=Aa (HSK.o W7 _ _ HI7.o ((FrW.of_below (Bl x) HB6.o).trans hF7))
    clear hI7 hF7
    go_simp
    refine xK hK (HS7.o) fun hHeld=>?_
    clear hK K
    refine gE ?_
    go_wp2_with fail
    go_ret
    exact ⟨by rw [HR1.o];rfl,by rw [HR1.o];exact ⟨pv7,HI7.o⟩,HF7.o⟩
  ·have hle:Ag d<=6:=by have:=HOK.o.1;omega
   have HR1:Hx (R=doX (A7 x K gs ls ms vs fs) s a d p):=by
    rw [HR.o]
    unfold obW
    rw [if_neg (by omega),if_neg (by omega),if_neg hk7,HPD.o]
    exact Aa rfl
   have KD:=Aa (Qf x w0 K kf gs ls ms vs fs HSS.o s _ V2 HI2.o HVL.o a k _ d _ p funcs HRS.o HFN.o HOK.o HLP2.o hle)
   obtain ⟨u0,u1,u2,u3,u4,u5,u6,u7,u8,u9,u10,u11⟩:=NL HU2.o
   obtain ⟨t0,t1,t2,t3,t4,t5,t6,t7,t8⟩:=rc9 HRS2.o
   obtain ⟨t10,t11⟩:=rc2 HRP2.o
   have hn7:(kd == 7)=false:=by rw [beq_eq_false_iff_ne];omega
   have hn8:(kd == 8)=false:=by rw [beq_eq_false_iff_ne];omega
   clear hkd hk7 hle
   go_wp2_with fail
   refine (KD.o).mono ?_
   rintro e W7 ⟨rfl,hI7,hF7⟩
   have HI7:=Aa hI7
   have HF7:=Aa (HF2.o.trans hF7)
   clear hI7 hF7
   go_wp2_with fail
   go_ret
   exact ⟨by rw [HR1.o];rfl,by rw [HR1.o];exact ⟨_,HI7.o⟩,HF7.o⟩
 ·
  obtain ⟨m1,hm1⟩:=nm (dp+1)
  have hwr:IntKind.i64.wrap ((dp:Int)+1)=(m1:Int):=by rw [IntKind.wrap_i64];omega
  obtain ⟨g',cap',m11,m12,m13,m14,m15,m16,hpv',c0,c1,hlm⟩:=HI2.o.pls.cells (i:=m1) (by omega)
  injection hpv' with e1 e2 e3
  injection e1 with e1
  injection e1 with e1
  subst e1 e3
  clear e2
  have hm2:m1 < s.ps.length:=by omega
  obtain ⟨pm,hpm⟩:=nm (s.ps[m1])
  rw [<-hpm] at hlm
  have hgm:s.ps.getD (dp+1) AU=pm:=by rw [hpm,<-hm1];simp [List.getD_eq_getElem?_getD,hm2]
  obtain ⟨al0,hall⟩:=nm (CN (A7 x K gs ls ms vs fs) s pm (Ap d))
  have HR1:Hx (R=(true,s.enter dp al0)):=by
   rw [HR.o,hall]
   unfold obW
   rw [if_pos rfl,hgm]
   exact Aa rfl
  have HLM:=Aa hlm
  have KW:Hx (∀ (W3:World),Ov V2 W3->Calls Tryz.prog 103 #[(zh #[U zd (x.c.n:Int),O x.c.ga x.c.gn x.c.gc,O x.c.sa x.c.sn x.c.sc,O x.c.ya x.c.yn x.c.yc,O x.c.oa x.c.on x.c.oc,O x.c.va x.c.vn x.c.vc,O x.c.fa x.c.fn x.c.fc,O x.c.ba x.c.bn x.c.bc,O x.c.la x.c.ln x.c.lc,O x.c.ka x.c.kn x.c.kc]),zh #[O m11 m12 m13,O m14 m15 m16],zh #[U zd ek,U zd en,O xa xl xc]] W3 fun e w'=>(∃ p1 q1 r1 p2 q2 r2,e=zj (zh #[O p1 q1 r1,O p2 q2 r2])/\Ar x.c.n (XW x) w' (zh #[O p1 q1 r1,O p2 q2 r2]) al0)/\Ov W3 w'):=fun W3 hb3=>by
   have h3:=HI2.o.over hb3
   have:=CU x.c HSS.o.n1 HSS.o.n6 gs s.vs (XW x) (A0 x) _ pm K _ (Ap d) W3 (Af HSS.o.gr h3.below) HSS.o.chk h3.lev.levs (HLM.o.over (A0 x) hb3) (by rw [HVL.o];exact HSS.o.v16) (fun k hk=>(h3.xlt k hk).2) (HX.o.over h3.below) (by rw [HVL.o];exact A8 HOK.o)
   rw [hall]
   exact this
  have KE:Hx (∀ (W3:World) {y:Value},Ov V2 W3->Ar x.c.n (XW x) W3 y al0->Calls Tryz.prog 120 #[zi (some ⟨x.bw,0,none⟩),U zd (dp:Int),y] W3 fun e W'=>e=zj (zk #[])/\(∃ pv',WtI x w0 (s.enter dp al0) pv' W')/\FrW (XV x) W3 W'):=fun W3 y hb3 hy=>Np x w0 HSS.o.n1 s _ W3 (HI2.o.over hb3) y al0 hy dp HDP.o hd9
  have HSK2:Hx (∀ W8,Ov V2 W8->Me x W dp bs ek en xa xl xc W8):=fun W8 hb8=>by
   have h8:=HI2.o.over hb8
   exact ⟨h8.cw (j:=0) rfl,h8.cw (j:=1) rfl,h8.cw (j:=2) rfl,h8.cw (j:=3) rfl,h8.cw (j:=4) rfl,h8.cw (j:=5) rfl,h8.cw (j:=6) rfl,h8.cw (j:=7) rfl,h8.cw (j:=8) rfl,h8.cw (j:=9) rfl,(HU2.o.over hb8) 2 _ rfl,(HRS2.o.over hb8) 3 _ rfl,(HRS2.o.over hb8) 4 _ rfl,(HRS2.o.over hb8) 5 _ rfl⟩
  have HSK:Hx (∀ W8 s8 pv8,WtI x w0 s8 pv8 W8->FrW (XV x) V2 W8->Me x W dp bs ek en xa xl xc W8):=fun W8 s8 pv8 h8 hf8=>by
   exact ⟨h8.cw (j:=0) rfl,h8.cw (j:=1) rfl,h8.cw (j:=2) rfl,h8.cw (j:=3) rfl,h8.cw (j:=4) rfl,h8.cw (j:=5) rfl,h8.cw (j:=6) rfl,h8.cw (j:=7) rfl,h8.cw (j:=8) rfl,h8.cw (j:=9) rfl,hf8.row HU2.o HNW.o 2 _ rfl,hf8.row HRS2.o HNS.o 3 _ rfl,hf8.row HRS2.o HNS.o 4 _ rfl,hf8.row HRS2.o HNS.o 5 _ rfl⟩
  have HBd:Hx (Ov V2 V2.drew):=(bD _)
  obtain ⟨u0,u1,u2,u3,u4,u5,u6,u7,u8,u9,u10,u11⟩:=NL HU2.o
  obtain ⟨t0,t1,t2,t3,t4,t5,t6,t7,t8⟩:=rc9 HRS2.o
  obtain ⟨t10,t11⟩:=rc2 HRP2.o
  have e11:=HI2.o.c11
  have HPSL:=HPS.o
  rw [<-HPSL] at e11
  have hm3:(m1:Int) < (pl:Int):=by omega
  clear hall hkd hk8 hd2 hm1 hm2 hpm hgm hlm HPSL
  go_wp2_with fail
  refine gS (Me x W dp bs ek en xa xl xc) (HSK2.o _ HBd.o) fun hHeld=>?_
  refine kT 0 ?_
  refine kT 1 ?_
  refine kT 2 ?_
  refine kT 3 ?_
  refine kT 4 ?_
  refine kT 5 ?_
  refine kT 6 ?_
  refine kT 7 ?_
  refine kT 8 ?_
  refine kT 9 ?_
  refine kT 11 ?_
  refine kT 12 ?_
  refine kT 13 ?_
  refine kT 16 ?_
  refine kT 17 ?_
  refine rdA 10 rfl fun K hK=>?_
  go_simp
  refine xK hK (HSK2.o _ HBd.o) fun hHeld=>?_
  clear hK K
  refine kT 14 ?_
  refine rdA 15 rfl fun K hK=>?_
  go_simp
  refine xK hK (HSK2.o _ HBd.o) fun hHeld=>?_
  clear hK K
  refine rdA 18 rfl fun K hK=>?_
  go_simp
  refine (KW.o _ HBd.o).mono ?_
  rintro e W6 ⟨⟨o1,o2,o3,o4,o5,o6,rfl,hL6⟩,hb6⟩
  have HB6:=Aa (Ac HBd.o hb6)
  have HL6:=Aa hL6
  clear hL6 hb6
  go_simp
  refine xK hK (HSK2.o _ HB6.o) fun hHeld=>?_
  clear hK K
  refine rdA 19 rfl fun K hK=>?_
  go_simp
  refine (KE.o _ HB6.o HL6.o).mono ?_
  rintro e W7 ⟨rfl,⟨pv7,hI7⟩,hF7⟩
  have HI7:=Aa hI7
  have HF7:=Aa (HF2.o.trans ((FrW.of_below (Bl x) HB6.o).trans hF7))
  have HS7:=Aa (HSK.o W7 _ _ HI7.o ((FrW.of_below (Bl x) HB6.o).trans hF7))
  clear hI7 hF7
  go_simp
  refine xK hK (HS7.o) fun hHeld=>?_
  clear hK K
  refine gE ?_
  go_wp2_with fail
  go_ret
  exact ⟨by rw [HR1.o];rfl,by rw [HR1.o];exact ⟨pv7,HI7.o⟩,HF7.o⟩
 ·
  have hv2:=HOK.o.2.1 (by omega)
  obtain ⟨jv,hjv⟩:∃ q:Nat,Ao d=(q:Int):=⟨(Ao d).toNat,by omega⟩
  obtain rfl:vr=(jv:Int):=by rw [HVR.o,hjv]
  have hjv2:jv < vs.length:=by omega
  obtain ⟨⟨hj0,hj1⟩,-,-⟩:=HOK.o.2.2.1 hk2
  have hfn:=HFN.o
  obtain ⟨j,hj⟩:∃ j:Nat,Ae d=(j:Int):=⟨(Ae d).toNat,by omega⟩
  obtain rfl:ot=(j:Int):=by rw [HOT.o,hj]
  have hj2:j < fs.length:=by omega
  have hjt:(Ae d).toNat=j:=by omega
  have hfat:Cv fs (Ae d)=fs[j]:=by unfold Cv;rw [hjt];simp [List.getD_eq_getElem?_getD,hj2]
  obtain ⟨hfm,fa',fc',hfe,hfc⟩:=HSS.o.funcs
  injection hfe with y1 y2 y3
  obtain ⟨b8,z8,hfo,hfel⟩:=hfc (by intro h;rw [h] at hj2;simp at hj2)
  obtain ⟨vP,vB,e0,e1,e2,g80,g81,g82,g83,g84,hints,-,hbody,hres⟩:=hfel j hj2
  have hfa:x.c.fa=some ⟨b8,z8,none⟩:=y1.trans hfo
  obtain ⟨ra,rc,hxf⟩:=hres.form
  simp only [List.cons.injEq,and_true] at hxf
  obtain ⟨rfl,rfl,rfl⟩:=hxf
  have hfo5:=HSS.o.body j hj2
  have hck:=hfo5.2.2.2
  obtain ⟨f,hf⟩:=nm (fs[j])
  rw [<-hf] at g82 g83 g84 hres hck hfat
  obtain ⟨rk,hrk⟩:=nm (AK f.res)
  obtain ⟨rn,hrn⟩:=nm (A6 f.res)
  obtain ⟨rl,hrl⟩:=nm ((AX f.res).length)
  rw [<-hrk] at g82 hres
  rw [<-hrn] at g83 hres
  rw [<-hrl] at g84 hres
  obtain ⟨al0,hall⟩:=nm (CN (A7 x K gs ls ms vs fs) s p f.res)
  have HR1:Hx (R=CM (A7 x K gs ls ms vs fs) s p (jv:Int) al0):=by
   rw [HR.o,hall]
   unfold obW
   have e:(A7 x K gs ls ms vs fs).fs=fs:=rfl
   rw [if_neg (by omega),if_pos rfl,HPD.o,e,hfat,hjv]
   exact Aa rfl
  have hcv:x.c.v=(zh #[U zd (x.c.n:Int),O x.c.ga x.c.gn x.c.gc,O x.c.sa x.c.sn x.c.sc,O x.c.ya x.c.yn x.c.yc,O x.c.oa x.c.on x.c.oc,O x.c.va x.c.vn x.c.vc,O (some ⟨b8,z8,none⟩) x.c.fn x.c.fc,O x.c.ba x.c.bn x.c.bc,O x.c.la x.c.ln x.c.lc,O x.c.ka x.c.kn x.c.kc]):=by show Value.agg #[U zd (x.c.n:Int),O x.c.ga x.c.gn x.c.gc,O x.c.sa x.c.sn x.c.sc,O x.c.ya x.c.yn x.c.yc,O x.c.oa x.c.on x.c.oc,O x.c.va x.c.vn x.c.vc,O x.c.fa x.c.fn x.c.fc,O x.c.ba x.c.bn x.c.bc,O x.c.la x.c.ln x.c.lc,O x.c.ka x.c.kn x.c.kc]=_;rw [hfa]
  have KW:Hx (∀ (W3:World),Ov V2 W3->Calls Tryz.prog 103 #[(zh #[U zd (x.c.n:Int),O x.c.ga x.c.gn x.c.gc,O x.c.sa x.c.sn x.c.sc,O x.c.ya x.c.yn x.c.yc,O x.c.oa x.c.on x.c.oc,O x.c.va x.c.vn x.c.vc,O (some ⟨b8,z8,none⟩) x.c.fn x.c.fc,O x.c.ba x.c.bn x.c.bc,O x.c.la x.c.ln x.c.lc,O x.c.ka x.c.kn x.c.kc]),zh #[O p1 q1 r1,O p2 q2 r2],zh #[U zd rk,U zd rn,O ra rl rc]] W3 fun e w'=>(∃ p1 q1 r1 p2 q2 r2,e=zj (zh #[O p1 q1 r1,O p2 q2 r2])/\Ar x.c.n (XW x) w' (zh #[O p1 q1 r1,O p2 q2 r2]) al0)/\Ov W3 w'):=fun W3 hb3=>by
   have h3:=HI2.o.over hb3
   have:=CU x.c HSS.o.n1 HSS.o.n6 gs s.vs (XW x) (A0 x) _ p K _ f.res W3 (Af HSS.o.gr h3.below) HSS.o.chk h3.lev.levs (HLP2.o.over (A0 x) hb3) (by rw [HVL.o];exact HSS.o.v16) (fun k hk=>(h3.xlt k hk).2) (hres.over h3.below) (by rw [HVL.o];exact B0 hck)
   rw [hcv] at this
   rw [hall]
   exact this
  have KE:Hx (∀ (W3:World) {y:Value},Ov V2 W3->Ar x.c.n (XW x) W3 y al0->Calls Tryz.prog 121 #[zi (some ⟨x.bw,0,none⟩),zh #[O p1 q1 r1,O p2 q2 r2],U zd (jv:Int),y] W3 fun e W'=>e=zj (zg (CM (A7 x K gs ls ms vs fs) s p (jv:Int) al0).1)/\WtI x w0 (CM (A7 x K gs ls ms vs fs) s p (jv:Int) al0).2 _ W'/\FrW (XV x) W3 W'):=fun W3 y hb3 hy=>E3 x w0 K kf gs ls ms vs fs HSS.o s _ W3 (HI2.o.over hb3) HVL.o _ _ p al0 (HLP2.o.over (A0 x) hb3) hy jv hjv2
  have HSK2:Hx (∀ W8,Ov V2 W8->Md x b8 z8 bp p1 q1 r1 p2 q2 r2 bs jv j rk rn ra rl rc W8):=fun W8 hb8=>by
   have h8:=HI2.o.over hb8
   exact ⟨h8.cw (j:=0) rfl,h8.cw (j:=1) rfl,h8.cw (j:=2) rfl,h8.cw (j:=3) rfl,h8.cw (j:=4) rfl,h8.cw (j:=5) rfl,by rw [<-hfa];exact h8.cw (j:=6) rfl,h8.cw (j:=7) rfl,h8.cw (j:=8) rfl,h8.cw (j:=9) rfl,(HRP2.o.over hb8) 0 _ rfl,(HRP2.o.over hb8) 1 _ rfl,(HRS2.o.over hb8) 1 _ rfl,(HRS2.o.over hb8) 2 _ rfl,Ab h8.below _ _ g82,Ab h8.below _ _ g83,Ab h8.below _ _ g84⟩
  have HSK:Hx (∀ W8 s8 pv8,WtI x w0 s8 pv8 W8->FrW (XV x) V2 W8->Md x b8 z8 bp p1 q1 r1 p2 q2 r2 bs jv j rk rn ra rl rc W8):=fun W8 s8 pv8 h8 hf8=>by
   exact ⟨h8.cw (j:=0) rfl,h8.cw (j:=1) rfl,h8.cw (j:=2) rfl,h8.cw (j:=3) rfl,h8.cw (j:=4) rfl,h8.cw (j:=5) rfl,by rw [<-hfa];exact h8.cw (j:=6) rfl,h8.cw (j:=7) rfl,h8.cw (j:=8) rfl,h8.cw (j:=9) rfl,hf8.row HRP2.o HNP.o 0 _ rfl,hf8.row HRP2.o HNP.o 1 _ rfl,hf8.row HRS2.o HNS.o 1 _ rfl,hf8.row HRS2.o HNS.o 2 _ rfl,Ab h8.below _ _ g82,Ab h8.below _ _ g83,Ab h8.below _ _ g84⟩
  have HBd:Hx (Ov V2 V2.drew):=(bD _)
  obtain ⟨u0,u1,u2,u3,u4,u5,u6,u7,u8,u9,u10,u11⟩:=NL HU2.o
  obtain ⟨t0,t1,t2,t3,t4,t5,t6,t7,t8⟩:=rc9 HRS2.o
  obtain ⟨t10,t11⟩:=rc2 HRP2.o
  have hjf:(j:Int) < (x.c.fn:Int):=by omega
  have hfn5:x.c.fn<=5:=by have:=HSS.o.f5;omega
  clear hall hkd hk2 hcv hv2 hjv hjv2 hj0 hj1 hfn hj hj2 hjt hfat hfm hfc y1 y2 y3 hfo hfel g80 g81 g82 g83 g84 hints hbody hres hfa hfo5 hck hf hrk hrn hrl
  go_wp2_with fail
  refine gS (Md x b8 z8 bp p1 q1 r1 p2 q2 r2 bs jv j rk rn ra rl rc) (HSK2.o _ HBd.o) fun hHeld=>?_
  refine kT 0 ?_
  refine kT 1 ?_
  refine kT 2 ?_
  refine kT 3 ?_
  refine kT 4 ?_
  refine kT 5 ?_
  refine kT 6 ?_
  refine kT 7 ?_
  refine kT 8 ?_
  refine kT 9 ?_
  refine kT 10 ?_
  refine kT 11 ?_
  refine kT 12 ?_
  refine kT 13 ?_
  refine kT 14 ?_
  refine kT 15 ?_
  refine kT 16 ?_
  refine kT 17 ?_
  refine kT 18 ?_
  refine kT 19 ?_
  refine rdA 20 rfl fun K hK=>?_
  go_simp
  refine (KW.o _ HBd.o).mono ?_
  rintro e W6 ⟨⟨o1,o2,o3,o4,o5,o6,rfl,hL6⟩,hb6⟩
  have HB6:=Aa (Ac HBd.o hb6)
  have HL6:=Aa hL6
  clear hL6 hb6
  go_simp
  refine xK hK (HSK2.o _ HB6.o) fun hHeld=>?_
  clear hK K
  refine rdA 21 rfl fun K hK=>?_
  go_simp
  refine (KE.o _ HB6.o HL6.o).mono ?_
  rintro e W7 ⟨rfl,hI7,hF7⟩
  have HI7:=Aa hI7
  have HF7:=Aa (HF2.o.trans ((FrW.of_below (Bl x) HB6.o).trans hF7))
  have HS7:=Aa (HSK.o W7 _ _ HI7.o ((FrW.of_below (Bl x) HB6.o).trans hF7))
  clear hI7 hF7
  go_simp
  refine xK hK (HS7.o) fun hHeld=>?_
  clear hK K
  refine kT 22 ?_
  refine gE ?_
  go_wp2_with fail
  go_ret
  exact ⟨by rw [HR1.o];rfl,by rw [HR1.o];exact ⟨_,HI7.o⟩,HF7.o⟩
abbrev WX.wy (x:WX) (Y:Nat->Prop):WX:={ x with Y:=Y }
section
variable {x:WX} {w0 W W':World} {s:WSt} {pv:Value} {Y':Nat->Prop}
theorem WtS.wy {K kf:Nat} {gs:List (Int × Int)} {ls ms:List Lab} {vs:List (Bool × Lab)} {fs:List FnD} (S:WtS x w0 K kf gs ls ms vs fs) (Y:Nat->Prop):WtS (x.wy Y) w0 K kf gs ls ms vs fs:=
 ⟨S.n1,S.n6,S.gr,S.chk,S.vars,S.ins,S.outs,S.funcs,S.vchk,S.ichk,S.ochk,S.v16,S.i5,S.o5,S.f5,S.fl,S.body⟩
theorem QP (hbw:W'.heap[x.bw]? = W.heap[x.bw]?) (hs:W.heap.size<=W'.heap.size) {k:Nat} (h:XV (x.wy Y') W' k):XV x W k:=by
 rcases h with e | e | e | ⟨v,hv,e⟩
 ·exact Or.inl (Nat.le_trans hs e)
 ·exact Or.inr (Or.inl e)
 ·exact Or.inr (Or.inr (Or.inl e))
 ·exact Or.inr (Or.inr (Or.inr ⟨v,(World.cell?_of_block (a:=⟨x.bw,11,none⟩) hbw).symm.trans hv,e⟩))
theorem Ar.wy {n:Nat} {v:Value} {l:Lev} (n1:1<=n) (h:Ar n (XW x) W v l) (hs:W.heap.size<=W'.heap.size) (hk:∀ k,k < W.heap.size->¬ x.Y k->W'.heap[k]? = W.heap[k]?) (hy:∀ k,Y' k->x.Y k\/W.heap.size<=k) (hbw:W'.heap[x.bw]? = W.heap[x.bw]?):Ar n (XW (x.wy Y')) W' v l:=by
 obtain ⟨u,w,hv,hu,hw⟩:=h.off
 obtain ⟨u',w',hv',bu,bw⟩:=h.at_
 rw [hv] at hv'
 simp at hv'
 obtain ⟨rfl,rfl⟩:=hv'
 have key:∀ (v:Value) (l:List Bool),AH W v l->l.length=n->(∀ a m c,v=O (some a) m c->¬ XW x W a.block)->AH W' v l/\∀ a m c,v=O (some a) m c->¬ XW (x.wy Y') W' a.block:=by
  intro v l hb hl hx
  obtain ⟨ao,cap,hv,hel⟩:=hb
  obtain ⟨b,off,hao,hel⟩:=hel (by rintro rfl;simp at hl;omega)
  have hlt:b < W.heap.size:=bL (hel 0 (by omega))
  have hnx:=hx ⟨b,off,none⟩ l.length cap (by rw [hv,hao])
  have he:W'.heap[b]? = W.heap[b]?:=hk b hlt (fun e=>hnx (Or.inl e))
  refine ⟨⟨ao,cap,hv,fun _=>⟨b,off,hao,fun i hi=>(World.cell?_of_block (a:=⟨b,off+i,none⟩) he).trans (hel i hi)⟩⟩,fun a m c e q=>?_⟩
  rw [hv,hao] at e
  injection e with e1
  injection e1 with e1
  subst e1
  rcases q with q | q
  ·rcases hy _ q with q | q
   ·exact hnx (Or.inl q)
   ·exact absurd hlt (by show ¬ b < _;have:W.heap.size<=b:=q;omega)
  ·exact hnx (Or.inr (QP hbw hs q))
 obtain ⟨k1,k2⟩:=key _ _ bu h.len.1 hu
 obtain ⟨k3,k4⟩:=key _ _ bw h.len.2 hw
 exact ⟨⟨u,w,hv,k1,k3⟩,h.len,u,w,hv,k2,k4⟩
theorem Bq.wy {n B:Nat} {v:Value} {Ls:List Lev} (n1:1<=n) (h:Bq n (XW x) B W v Ls) (hs:W.heap.size<=W'.heap.size) (hk:∀ k,k < W.heap.size->¬ x.Y k->W'.heap[k]? = W.heap[k]?) (hy:∀ k,Y' k->x.Y k\/W.heap.size<=k) (hbw:W'.heap[x.bw]? = W.heap[x.bw]?) (hv:∀ g,v.ownBlock=some g->¬ x.Y g):Bq n (XW (x.wy Y')) B W' v Ls:=by
 have hlt:=h.lt
 obtain ⟨us,ho,hel⟩:=h
 refine ⟨us,Ax ho (fun g e=>hk g (hlt g e).2 (hv g e)),fun i hi=>?_⟩
 obtain ⟨a,b,e0,e1,hl⟩:=hel i hi
 exact ⟨a,b,e0,e1,hl.wy n1 hs hk hy hbw⟩
theorem WtI.wy (n1:1<=x.c.n) (h:WtI x w0 s pv W) (ho:W'.os=W.os) (ht:W'.tape=W.tape) (hp:W'.output=W.output) (hs:W.heap.size<=W'.heap.size) (hk:∀ k,k < W.heap.size->¬ x.Y k->W'.heap[k]? = W.heap[k]?) (hy:∀ k,Y' k->x.Y k\/W.heap.size<=k) (hyl:∀ k,Y' k->k < W'.heap.size):WtI (x.wy Y') w0 s pv W':=by
 have hbw:W'.heap[x.bw]? = W.heap[x.bw]?:=hk x.bw h.lo.2 h.yb
 have hno:∀ g,g < W.heap.size->¬ x.Y g->¬ Y' g:=fun g h1 h2 h3=>by
  rcases hy g h3 with e | e
  ·exact h2 e
  ·omega
 refine ⟨h.below.trans ⟨ho,ht,hp,hs,fun k hlt=>hk k (Nat.lt_of_lt_of_le hlt h.below.size) (fun e=>by have:=(h.yk k e).1;omega)⟩,fun j u hu=>(World.cell?_of_block (a:=⟨x.bw,j,none⟩) hbw).trans (h.row j u hu),fun j=>(World.frozen?_of_block (a:=⟨x.bw,j,none⟩) hbw).trans (h.fz j),⟨h.lo.1,Nat.lt_of_lt_of_le h.lo.2 hs⟩,fun k e=>⟨?_,hyl k e⟩,hno _ h.lo.2 h.yb,h.lev.wy n1 hs hk hy hbw h.yL,h.pls.wy n1 hs hk hy hbw h.yP,Ax h.flt (fun g e=>hk g (h.flt.lt g e).2 (h.apF g e).2.2.2),h.apL,h.apP,h.apLP,fun g e=>⟨(h.apF g e).1,(h.apF g e).2.1,(h.apF g e).2.2.1,hno g (h.flt.lt g e).2 (h.apF g e).2.2.2⟩,fun g e=>hno g (h.lev.lt g e).2 (h.yL g e),fun g e=>hno g (h.pls.lt g e).2 (h.yP g e)⟩
 rcases hy k e with q | q
 ·exact (h.yk k q).1
 ·exact Nat.le_trans h.below.size q
end
def Dv (x:WX) (w0:World) (n1:1<=x.c.n) (nv:Nat) (wk:WK):BS where
 fn:=64
 fre:=[zi (some ⟨x.bw,0,none⟩)]
 cap:=[]
 ent:=fun args w=>by simp [go_sem]
 ob:=obW wk
 In:=fun Y s X w=>(∃ pv,WtI (x.wy Y) w0 s pv w/\∀ k,X k ↔ (k=x.bw\/x.lv.ownBlock=some k\/pv.ownBlock=some k))/\s.vs.length=nv/\s.ps.length<=20000
 ok:=fun dp s=>dp < s.ps.length
 lt:=by
  rintro Y s X w ⟨⟨pv,h,hX⟩,-⟩ k hk
  have hv:XV (x.wy Y) w k:=h.xv.2 ((hX k).1 hk)
  refine ⟨(h.vlt k hv).2,fun hy=>?_⟩
  rcases (hX k).1 hk with e | e | e
  ·rw [e] at hy;exact h.yb hy
  ·exact h.yL k e hy
  ·exact h.yP k e hy
 kept:=by
  rintro Y Y' s X w w' ⟨⟨pv,h,hX⟩,hl⟩ ho ht hp hs hk hy hyl
  exact ⟨⟨pv,WtI.wy (x:=x.wy Y) n1 h ho ht hp hs hk hy hyl,hX⟩,hl⟩
 less:=fun h=>Nat.lt_of_succ_lt h
theorem Hj (s:WSt) {dp:Nat} (p) (h:dp < s.ps.length):(s.enter dp p).ps.length=dp+2:=by
 unfold WSt.enter
 simp
 omega
theorem E4 (c:WK) (s:WSt) (p) (v:Int) (l):(CM c s p v l).2.ps=s.ps:=by
 unfold CM
 split <;> rfl
theorem Ns (c:WK) (s:WSt) (a:Int) (d p):(doX c s a d p).2.ps=s.ps/\(doX c s a d p).2.vs.length=s.vs.length:=by
 unfold doX
 split
 ·unfold Gx
  split
  ·exact ⟨rfl,Ds _ _⟩
  ·exact ⟨rfl,rfl⟩
 ·split
  ·split
   ·exact ⟨E4 _ _ _ _ _,DY _ _ _ _⟩
   ·exact ⟨rfl,rfl⟩
  ·split
   ·exact ⟨rfl,rfl⟩
   ·split
    ·split
     ·exact ⟨E4 _ _ _ _ _,DY _ _ _ _⟩
     ·exact ⟨rfl,rfl⟩
    ·split
     ·split
      ·exact ⟨E4 _ _ _ _ _,DY _ _ _ _⟩
      ·exact ⟨rfl,rfl⟩
     ·exact ⟨E4 _ _ _ _ _,DY _ _ _ _⟩
theorem NQ (c:WK) (kind:Nat) (a:Int) (dp:Nat) (d) (s:WSt) (hd:dp < s.ps.length):(obW c kind a dp d s).2.vs.length=s.vs.length/\((obW c kind a dp d s).2.ps.length=s.ps.length/\¬ ((kind=1/\(Ag d=7\/Ag d=8))\/kind=2)\/(obW c kind a dp d s).2.ps.length=dp+2):=by
 unfold obW
 split
 ·exact ⟨rfl,Or.inr (Hj s _ hd)⟩
 ·rename_i h2
  split
  ·rename_i h3
   exact ⟨DY _ _ _ _,Or.inl ⟨by rw [E4],by omega⟩⟩
  ·split
   ·exact ⟨rfl,Or.inr (Hj s _ hd)⟩
   ·rename_i h3 h4
    exact ⟨(Ns _ _ _ _ _).2,Or.inl ⟨by rw [(Ns _ _ _ _ _).1],fun e=>by
     rcases e with ⟨-,e⟩ | e
     ·exact h4 e
     ·exact h2 e⟩⟩
theorem JA (x) (w0:World) (K kf:Nat) (gs ls ms vs fs) (S:WtS x w0 K kf gs ls ms vs fs):KU (Dv x w0 S.n1 vs.length (A7 x K gs ls ms vs fs)) w0 K vs.length ls.length ms.length fs:=by
 intro Y s X W kind a dp k cs d funcs hI hB hrs hf ho ha0 ha1 hdp hok hk
 obtain ⟨⟨pv,h,hX⟩,hvl,hps⟩:=hI
 obtain ⟨k',rfl⟩:∃ k',k=k' + 1:=by
  cases k with
  | zero=>exact hrs.elim
  | succ k=>exact ⟨k,rfl⟩
 have hd:dp < s.ps.length:=hok
 have hc:=Ru (x.wy Y) w0 K kf gs ls ms vs fs (S.wy Y) s pv W h hvl kind a dp k' cs d funcs hrs hf ho.1 hd hdp hps hk
 have hlen:=NQ (A7 x K gs ls ms vs fs) kind a dp d s hd
 refine hc.mono fun e W' hh=>?_
 obtain ⟨he,⟨pv',hI'⟩,hF⟩:=hh
 refine ⟨he,fun q=>q=x.bw\/x.lv.ownBlock=some q\/pv'.ownBlock=some q,⟨⟨pv',hI',fun q=>Iff.rfl⟩,?_,?_⟩,fun q hq=>?_,⟨hF.os,hF.tape,hF.output,hF.size,fun q hlt hx=>hF.block q hlt (fun e=>hx ((hX q).2 (h.xv.1 e)))⟩,?_,fun _ hkk=>?_⟩
 ·exact hlen.1.trans hvl
 ·show (obW (A7 x K gs ls ms vs fs) kind a dp d s).2.ps.length<=20000
  rcases hlen.2 with e | e
  ·rw [e.1];exact hps
  ·rw [e];omega
 ·by_cases hlt:q < W.heap.size
  ·have e:XV (x.wy Y) W' q:=hI'.xv.2 hq
   exact Or.inl ((hX q).2 (h.xv.1 (hF.mov q hlt e)))
  ·exact Or.inr (by omega)
 ·show dp < (obW (A7 x K gs ls ms vs fs) kind a dp d s).2.ps.length
  rcases hlen.2 with e | e
  ·rw [e.1];exact hd
  ·rw [e];omega
 ·show dp+1 < (obW (A7 x K gs ls ms vs fs) kind a dp d s).2.ps.length
  rcases hlen.2 with e | e
  ·exact absurd hkk e.2
  ·rw [e];omega
def X0 (B b:Nat) (W:World) (k:Nat):Prop:=k < B\/W.heap.size<=b\/k=b\/∃ v,W.cell? ⟨b,9,none⟩=some v/\v.ownBlock=some k
theorem Mq (B b:Nat):XOk (X0 B b):=⟨fun W W' hb k h=>by
 by_cases hlt:W.heap.size<=b
 ·exact Or.inr (Or.inl hlt)
 ·rcases h with h | h | h | ⟨v,hv,ho⟩
  ·exact Or.inl h
  ·exact absurd (Nat.le_trans hb.size h) hlt
  ·exact Or.inr (Or.inr (Or.inl h))
  ·refine Or.inr (Or.inr (Or.inr ⟨v,?_,ho⟩))
   rw [<-hv]
   exact (World.cell?_of_block (a:=⟨b,9,none⟩) (hb.block b (by omega))).symm⟩
structure NwI (n:Nat) (w:World) (rv:Value) (P:List Value) (Ls:List Lev) (lv:Value) (W:World):Prop where
 below:Ov w W
 row:Ad (rv::(P++[lv,O none 0 0,O none 0 0,O none 0 0])) W (w.heap.size+1)
 pb:Ad P W w.heap.size
 fz:∀ j,W.frozen? ⟨w.heap.size+1,j,none⟩=false
 lo:w.heap.size+1 < W.heap.size
 lev:Bq n (X0 w.heap.size (w.heap.size+1)) (w.heap.size+2) W lv Ls
 len:P.length=8
section
variable {n:Nat} {w W W':World} {rv lv:Value} {P:List Value} {Ls:List Lev}
theorem NwI.two (h:NwI n w rv P Ls lv W):w.heap.size+2<=W.heap.size:=h.lo
theorem NwI.ap (h:NwI n w rv P Ls lv W):lv.ownBlock≠some (w.heap.size+1):=fun e=>by have:=(h.lev.lt _ e).1;omega
theorem NwI.apb (h:NwI n w rv P Ls lv W):lv.ownBlock≠some w.heap.size:=fun e=>by have:=(h.lev.lt _ e).1;omega
theorem NwI.c9 (h:NwI n w rv P Ls lv W):W.cell? ⟨w.heap.size+1,9,none⟩=some lv:=h.row 9 _ (by rw [List.getElem?_cons_succ,List.getElem?_append_right (by rw [h.len];omega),h.len];rfl)
theorem NwI.over (h:NwI n w rv P Ls lv W) (hb:Ov W W'):NwI n w rv P Ls lv W':=
 ⟨h.below.trans (hb.mono h.below.size),h.row.over hb,h.pb.over hb,fun j=>((Am hb).2 _ _ h.lo).trans (h.fz j),Nat.lt_of_lt_of_le h.lo hb.size,h.lev.over (Mq _ _) hb,h.len⟩
theorem NwI.xlt (h:NwI n w rv P Ls lv W):∀ k,X0 w.heap.size (w.heap.size+1) W k->k < W.heap.size:=by
 rintro k (e | e | e | ⟨v,hv,e⟩)
 ·have:=h.lo;omega
 ·have:=h.lo;omega
 ·have:=h.lo;omega
 ·rw [h.c9] at hv
  injection hv with hv
  subst hv
  exact (h.lev.lt k e).2
theorem NwI.add {v' u v:Value} {us:List Value} {l:Lev} (n1:1<=n) (h:NwI n w rv P Ls lv W) (hel:∀ i (h:i < Ls.length),∃ a b,us[i*2]? = some a/\us[i*2+1]? = some b/\Ar n (X0 w.heap.size (w.heap.size+1)) W (zh #[a,b]) Ls[i]) (hus:us.length=Ls.length*2) (hl:Ar n (X0 w.heap.size (w.heap.size+1)) W (zh #[u,v]) l) (ho:W'.ownsRow (w.heap.size+2) 50 2 v' (Ls.length+1) (us++[u,v])) (hg:W.grownBy W' lv.ownBlock) (hat:v'.ownBlock=lv.ownBlock\/v'.ownBlock=some W.heap.size) :
  NwI n w rv P (Ls++[l]) v' (W'.setCell ⟨w.heap.size+1,9,none⟩ v'):=by
 have hbw:W'.heap[w.heap.size+1]? = W.heap[w.heap.size+1]?:=hg.block _ h.lo (fun e=>h.ap e.symm)
 have hsz:(W'.setCell ⟨w.heap.size+1,9,none⟩ v').heap.size=W'.heap.size:=by simp [World.setCell]
 have hnew:∀ g,v'.ownBlock=some g->lv.ownBlock=some g\/g=W.heap.size:=fun g e=>by
  rcases hat with e1 | e1
  ·exact Or.inl (by rw [<-e1];exact e)
  ·rw [e1] at e;injection e with e;exact Or.inr e.symm
 have hk:∀ k,k < W.heap.size->k≠w.heap.size+1->lv.ownBlock≠some k->(W'.setCell ⟨w.heap.size+1,9,none⟩ v').heap[k]? = W.heap[k]?:=fun k hk h1 h2=>by rw [Aq (Ne.symm h1)];exact hg.block k hk (fun e=>h2 e.symm)
 have hrow':Ad (rv::(P++[lv,O none 0 0,O none 0 0,O none 0 0])) W' (w.heap.size+1):=fun j u hu=>(World.cell?_of_block (a:=⟨w.heap.size+1,j,none⟩) hbw).trans (h.row j u hu)
 have hP:=h.len
 have hrow2:Ad (rv::(P++[v',O none 0 0,O none 0 0,O none 0 0])) (W'.setCell ⟨w.heap.size+1,9,none⟩ v') (w.heap.size+1):=by
  have r:=Bv (j:=9) (v:=v') hrow' (by simp [hP])
  rw [List.set_cons_succ,List.set_append,if_neg (by omega),hP] at r
  exact r
 have hc2:(W'.setCell ⟨w.heap.size+1,9,none⟩ v').cell? ⟨w.heap.size+1,9,none⟩=some v':=hrow2 9 _ (by rw [List.getElem?_cons_succ,List.getElem?_append_right (by omega),hP];rfl)
 have hs:=hg.size
 have hlo:=h.lo
 have hF:FrW (X0 w.heap.size (w.heap.size+1)) W (W'.setCell ⟨w.heap.size+1,9,none⟩ v'):=by
  refine ⟨hg.os,hg.tape,hg.output,by rw [hsz];exact hg.size,fun k hlt hx=>hk k hlt (fun e=>hx (Or.inr (Or.inr (Or.inl e)))) (fun e=>hx (Or.inr (Or.inr (Or.inr ⟨lv,h.c9,e⟩)))),fun k hlt hx=>?_⟩
  rcases hx with e | e | e | ⟨q,hq,e⟩
  ·exact Or.inl e
  ·rw [hsz] at e;omega
  ·exact Or.inr (Or.inr (Or.inl e))
  ·rw [hc2] at hq
   injection hq with hq
   subst hq
   rcases hnew k e with e | e
   ·exact Or.inr (Or.inr (Or.inr ⟨lv,h.c9,e⟩))
   ·omega
 have hv':v'.ownBlock≠some (w.heap.size+1):=fun e=>by have:=(ho.lt _ e).1;omega
 refine ⟨h.below.trans ⟨hF.os,hF.tape,hF.output,hF.size,fun k hlt=>hk k (Nat.lt_of_lt_of_le hlt h.below.size) (by omega) (fun e=>by have:=(h.lev.lt k e).1;omega)⟩,hrow2,fun j q hq=>(World.cell?_of_block (a:=⟨w.heap.size,j,none⟩) (hk w.heap.size (by omega) (by omega) h.apb)).trans (h.pb j q hq),fun j=>?_,by rw [hsz];omega,Bq.snoc n1 hel hus hl (Ax ho (fun g e=>Aq (fun q=>hv' (by rw [e,q])) v')) hF,h.len⟩
 have e1:(W'.setCell ⟨w.heap.size+1,9,none⟩ v').frozen? ⟨w.heap.size+1,j,none⟩=W'.frozen? ⟨w.heap.size+1,j,none⟩:=by simp [go_sem]
 rw [e1,World.frozen?_of_block (a:=⟨w.heap.size+1,j,none⟩) hbw]
 exact h.fz j
end
theorem WtI.made {n:Nat} {w00 w W5 W6 W7 W8 W9:World} {c:WC} {rv fv:Value} {fl:List (Int × Int)} {Y:Nat->Prop} {Ls:List Lev} {l:Lev} {u v:Value} {B:Nat} (hcn:c.n=n) (n1:1<=n) (h:NwI n w rv [U zd (c.n:Int),O c.ga c.gn c.gc,O c.sa c.sn c.sc,O c.ya c.yn c.yc,O c.oa c.on c.oc,O c.va c.vn c.vc,O c.fa c.fn c.fc,O c.ba c.bn c.bc] Ls (O c.la c.ln c.lc) W5) (hk0:c.ka=none/\c.kn=0/\c.kc=0) (h00:Ov w00 w) (hY:∀ k,Y k->w00.heap.size<=k/\k < w.heap.size)
  (hb6:Ov W5 W6) (hl:AY W5 W6 (zh #[u,v]) l) (hll:l.len n) (h7:W7=(W6.alloc (ze #[u,v] 50)).setCell ⟨w.heap.size+1,11,none⟩ (O (some ⟨W6.heap.size,0,none⟩) 1 1)) (hb8:Ov W7 W8) (hB:W7.heap.size<=B) (hf:W8.ownsRow B 89 2 fv fl.length (BX fl)) (h9:W9=W8.setCell ⟨w.heap.size+1,12,none⟩ fv) :
  WtI ⟨c,w.heap.size+1,rv,fv,fl,Y⟩ w00 ⟨Ls,[l]⟩ (O (some ⟨W6.heap.size,0,none⟩) 1 1) W9/\Ov w W9:=by
 have s6:=hb6.size
 have hlo:=h.lo
 have sz6:W7.heap.size=W6.heap.size+1:=by rw [h7];simp [World.setCell]
 have sz8:=hb8.size
 have sz9:W9.heap.size=W8.heap.size:=by rw [h9];simp [World.setCell]
 have hk7:∀ k,k < W6.heap.size->k≠w.heap.size+1->W7.heap[k]? = W6.heap[k]?:=fun k hk hn=>by
  rw [h7,Aq (Ne.symm hn)]
  exact (bA W6 _).block k hk
 have hk9:∀ k,k < W6.heap.size->k≠w.heap.size+1->W9.heap[k]? = W6.heap[k]?:=fun k hk hn=>by
  rw [h9,Aq (Ne.symm hn),hb8.block k (by omega),hk7 k hk hn]
 have hk95:∀ k,k < W5.heap.size->k≠w.heap.size+1->W9.heap[k]? = W5.heap[k]?:=fun k hk hn=>(hk9 k (by omega) hn).trans (hb6.block k hk)
 have hbel:Ov w W9:=by
  have b6:=h.below.trans (hb6.mono h.below.size)
  have b7:Ov w W7:=by rw [h7];exact (b6.alloc b6.size _).setCell (by show w.heap.size<=w.heap.size+1;omega) _
  rw [h9]
  exact (b7.trans (hb8.mono b7.size)).setCell (by show w.heap.size<=w.heap.size+1;omega) _
 have hlv:∀ g,Value.ownBlock (O c.la c.ln c.lc)=some g->w.heap.size+2<=g/\g < W5.heap.size:=fun g e=>h.lev.lt g e
 have r5:=h.row
 have r6:=(r5.over hb6).over (bA W6 (ze #[u,v] 50))
 have r7:=Bv (j:=11) (v:=O (some ⟨W6.heap.size,0,none⟩) 1 1) r6 (by simp)
 rw [<-h7] at r7
 have r8:=r7.over hb8
 have r9:=Bv (j:=12) (v:=fv) r8 (by simp)
 rw [<-h9] at r9
 have fz7:∀ j,W7.frozen? ⟨w.heap.size+1,j,none⟩=false:=fun j=>by
  rw [h7]
  have e1:((W6.alloc (ze #[u,v] 50)).setCell ⟨w.heap.size+1,11,none⟩ (O (some ⟨W6.heap.size,0,none⟩) 1 1)).frozen? ⟨w.heap.size+1,j,none⟩=(W6.alloc (ze #[u,v] 50)).frozen? ⟨w.heap.size+1,j,none⟩:=by simp [go_sem]
  rw [e1,(Am (bA W6 (ze #[u,v] 50))).2 _ _ (by omega),(Am hb6).2 _ _ hlo]
  exact h.fz j
 have fz9:∀ j,W9.frozen? ⟨w.heap.size+1,j,none⟩=false:=fun j=>by
  rw [h9]
  have e1:(W8.setCell ⟨w.heap.size+1,12,none⟩ fv).frozen? ⟨w.heap.size+1,j,none⟩=W8.frozen? ⟨w.heap.size+1,j,none⟩:=by simp [go_sem]
  rw [e1,(Am hb8).2 _ _ (by omega)]
  exact fz7 j
 obtain ⟨x,hx⟩:∃ x:WX,x=⟨c,w.heap.size+1,rv,fv,fl,Y⟩:=⟨_,rfl⟩
 have hrow:Ad (rv::(c.cs++[O (some ⟨W6.heap.size,0,none⟩) 1 1,fv])) W9 (w.heap.size+1):=by
  have e:(rv::(c.cs++[O (some ⟨W6.heap.size,0,none⟩) 1 1,fv]):List Value)=((rv::([U zd (c.n:Int),O c.ga c.gn c.gc,O c.sa c.sn c.sc,O c.ya c.yn c.yc,O c.oa c.on c.oc,O c.va c.vn c.vc,O c.fa c.fn c.fc,O c.ba c.bn c.bc]++[O c.la c.ln c.lc,O none 0 0,O none 0 0,O none 0 0])).set 11 (O (some ⟨W6.heap.size,0,none⟩) 1 1)).set 12 fv:=by
   simp [WC.cs,hk0.1,hk0.2.1,hk0.2.2]
  rw [e]
  exact r9
 have c11:W9.cell? ⟨w.heap.size+1,11,none⟩=some (O (some ⟨W6.heap.size,0,none⟩) 1 1):=hrow 11 _ rfl
 have hXc:∀ k,XW x W9 k->Y k\/k=w.heap.size+1\/Value.ownBlock (O c.la c.ln c.lc)=some k\/k=W6.heap.size:=by
  rw [hx]
  rintro k (e | e | e | e | ⟨q,hq,e⟩)
  ·exact Or.inl e
  ·have e:W9.heap.size<=w.heap.size+1:=e
   omega
  ·exact Or.inr (Or.inl e)
  ·exact Or.inr (Or.inr (Or.inl e))
  ·have hq:W9.cell? ⟨w.heap.size+1,11,none⟩=some q:=hq
   rw [c11] at hq
   injection hq with hq
   subst hq
   simp [Value.ownBlock] at e
   exact Or.inr (Or.inr (Or.inr e.symm))
 have key:∀ {Wa:World} {y:Value} {lz:Lev},Wa.heap.size<=W6.heap.size->(∀ k,k < Wa.heap.size->k≠w.heap.size+1->W9.heap[k]? = Wa.heap[k]?)->Ar n (fun _ k=>k < w.heap.size\/k=w.heap.size+1\/Value.ownBlock (O c.la c.ln c.lc)=some k) Wa y lz->Ar n (XW x) W9 y lz:=by
  intro Wa y lz hsz hk hy
  obtain ⟨a,b,hv,ha,hb⟩:=hy.off
  obtain ⟨a',b',hv',ba,bb⟩:=hy.at_
  rw [hv] at hv'
  simp at hv'
  obtain ⟨rfl,rfl⟩:=hv'
  have one:∀ (q:Value) (lb:List Bool),AH Wa q lb->lb.length=n->(∀ z m c',q=O (some z) m c'->¬ (z.block < w.heap.size\/z.block=w.heap.size+1\/Value.ownBlock (O c.la c.ln c.lc)=some z.block))->AH W9 q lb/\∀ z m c',q=O (some z) m c'->¬ XW x W9 z.block:=by
   intro q lb hq hlb ho
   obtain ⟨ao,cap,hqv,hel⟩:=hq
   obtain ⟨bb',off,hao,hel⟩:=hel (by rintro rfl;simp at hlb;omega)
   have hlt:bb' < Wa.heap.size:=bL (hel 0 (by omega))
   have hno:=ho ⟨bb',off,none⟩ lb.length cap (by rw [hqv,hao])
   have hne:bb'≠w.heap.size+1:=fun e=>hno (Or.inr (Or.inl e))
   refine ⟨⟨ao,cap,hqv,fun _=>⟨bb',off,hao,fun i hi=>(World.cell?_of_block (a:=⟨bb',off+i,none⟩) (hk bb' hlt hne)).trans (hel i hi)⟩⟩,fun z m c' e hz=>?_⟩
   rw [hqv,hao] at e
   injection e with e1
   injection e1 with e1
   subst e1
   rcases hXc _ hz with e | e | e | e
   ·exact hno (Or.inl (hY _ e).2)
   ·exact hno (Or.inr (Or.inl e))
   ·exact hno (Or.inr (Or.inr e))
   ·have e:bb'=W6.heap.size:=e
    omega
  obtain ⟨k1,k2⟩:=one _ _ ba hy.len.1 ha
  obtain ⟨k3,k4⟩:=one _ _ bb hy.len.2 hb
  exact ⟨⟨a,b,hv,k1,k3⟩,hy.len,a,b,hv,k2,k4⟩
 have hlev:Bq n (XW x) w00.heap.size W9 (O c.la c.ln c.lc) Ls:=by
  obtain ⟨us,ho,hel⟩:=h.lev
  refine ⟨us,Dg (Ax ho (fun g e=>hk95 g (hlv g e).2 (by have:=(hlv g e).1;omega))) (by have:=h00.size;omega),fun i hi=>?_⟩
  obtain ⟨a,b,e0,e1,hl'⟩:=hel i hi
  refine ⟨a,b,e0,e1,key s6 hk95 (hl'.mono n1 (fun k hk hh=>?_))⟩
  rcases hh with e | e | e
  ·exact Or.inl e
  ·exact Or.inr (Or.inr (Or.inl e))
  ·exact Or.inr (Or.inr (Or.inr ⟨_,h.c9,e⟩))
 have hpl:Bq n (XW x) w00.heap.size W9 (O (some ⟨W6.heap.size,0,none⟩) 1 1) [l]:=by
  have ho:=World.ownsRow_lit (base:=w00.heap.size) (e:=50) (size:=2) W6 #[u,v] 1 (by have:=h00.size;omega) (by unfold maxLen;omega) (by simp)
  have hk:W9.heap[W6.heap.size]? = (W6.alloc (ze #[u,v] 50)).heap[W6.heap.size]?:=by
   rw [h9,Aq (by omega),hb8.block _ (by omega),h7,Aq (by omega)]
  refine ⟨[u,v],Ax ho (fun g e=>by simp [Value.ownBlock] at e;subst e;exact hk),fun i hi=>?_⟩
  have hi0:i=0:=by simp at hi;exact hi
  subst hi0
  refine ⟨u,v,rfl,rfl,key (Nat.le_refl _) hk9 ?_⟩
  obtain ⟨a,b,hv,ha,hb⟩:=Be hl
  refine ⟨An hl,hll,a,b,hv,fun z m c' e hh=>?_,fun z m c' e hh=>?_⟩
  ·have:=ha z m c' e
   rcases hh with q | q | q
   ·have:=h.below.size;omega
   ·omega
   ·have:=(hlv _ q).2;omega
  ·have:=hb z m c' e
   rcases hh with q | q | q
   ·have:=h.below.size;omega
   ·omega
   ·have:=(hlv _ q).2;omega
 have hw0:=h00.size
 subst hcn
 rw [<-hx]
 have hxc:x.c=c:=by rw [hx]
 have hxb:x.bw=w.heap.size+1:=by rw [hx]
 have hxr:x.rv=rv:=by rw [hx]
 have hxf:x.fv=fv:=by rw [hx]
 have hxl:x.fl=fl:=by rw [hx]
 have hxY:x.Y=Y:=by rw [hx]
 have hxv:x.lv=O c.la c.ln c.lc:=by rw [hx]
 refine ⟨⟨h00.trans (hbel.mono hw0),by rw [hxr,hxc,hxf,hxb];exact hrow,by rw [hxb];exact fz9,by rw [hxb];exact ⟨by omega,by omega⟩,by rw [hxY];exact fun k e=>⟨(hY k e).1,by have:=(hY k e).2;omega⟩,by rw [hxY,hxb];exact fun e=>by have:=(hY _ e).2;omega,by rw [hxc,hxv];exact hlev,by rw [hxc];exact hpl,?_,by rw [hxv,hxb];exact fun e=>by have:=(hlv _ e).1;omega,by rw [hxb];exact fun e=>by simp [Value.ownBlock] at e;omega,by rw [hxv];exact fun g e q=>by simp [Value.ownBlock] at q;have:=(hlv g e).2;omega,?_,by rw [hxv,hxY];exact fun g e q=>by have:=(hlv g e).1;have:=(hY g q).2;omega,by rw [hxY];exact fun g e q=>by simp [Value.ownBlock] at e;have:=(hY g q).2;omega⟩,hbel⟩
 ·rw [hxf,hxl]
  exact Dg (Ax hf (fun g e=>by rw [h9,Aq (by have:=(hf.lt g e).1;omega)])) (by omega)
 ·rw [hxf,hxb,hxv,hxY]
  intro g e
  have hg:=(hf.lt g e).1
  exact ⟨by omega,fun q=>by have:=(hlv g q).2;omega,fun q=>by simp [Value.ownBlock] at q;omega,fun q=>by have:=(hY g q).2;omega⟩
theorem IW (K kf n:Nat) (ga gn gc sa sn sc ya yn yc oa on oc va vn vc fa fn fc ba bn bc gs sp ls ms vs fs l) (br:Nat) (w00 w:World) (h:Br K kf (n:Int) ga gn gc sa sn sc ya yn yc oa on oc va vn vc fa fn fc ba bn bc gs sp ls ms vs fs l w) (n1:1<=n) (n6:n<=6) (hv16:vn<=16) (h00:Ov w00 w) (fl:ISt->List (Int × Int)) (Q:ISt->Prop)
  (KF:∀ W,Ov w W->Calls Tryz.prog 35 #[zh #[U zd (n:Int),O ga gn gc,O sa sn sc,O ya yn yc,O oa on oc,O va vn vc,O fa fn fc,O ba bn bc]] W fun e w'=>∃ (st:ISt) (fv:Value) (B:Nat),Q st/\e=zj (zk #[fv,U zd 0])/\W.heap.size<=B/\w'.ownsRow B 89 2 fv (fl st).length (BX (fl st))/\Ov W w') :
  Calls Tryz.prog 62 #[zh #[U zd (n:Int),O ga gn gc,O sa sn sc,O ya yn yc,O oa on oc,O va vn vc,O fa fn fc,O ba bn bc],zi (some ⟨br,0,none⟩)] w fun e w'=>∃ (st:ISt) (fv pv:Value) (la:Option Addr) (ln lc:Nat),Q st/\e=zj (zi (some ⟨w.heap.size+1,0,none⟩))/\Ov w w'/\(∀ Y:Nat->Prop,(∀ k,Y k->w00.heap.size<=k/\k < w.heap.size)->WtI ⟨⟨n,ga,gn,gc,sa,sn,sc,ya,yn,yc,oa,on,oc,va,vn,vc,fa,fn,fc,ba,bn,bc,la,ln,lc,none,0,0⟩,w.heap.size+1,zi (some ⟨br,0,none⟩),fv,fl st,Y⟩ w00 ⟨List.replicate vn (Bs n),[Bs n]⟩ pv w'):=by
 have hb0:Ov w ((w.alloc (ze #[U zd (n:Int),O ga gn gc,O sa sn sc,O ya yn yc,O oa on oc,O va vn vc,O fa fn fc,O ba bn bc] 31)).alloc (ze #[zi (some ⟨br,0,none⟩),U zd (n:Int),O ga gn gc,O sa sn sc,O ya yn yc,O oa on oc,O va vn vc,O fa fn fc,O ba bn bc,O none 0 0,O none 0 0,O none 0 0,O none 0 0] 124)):=(bA w _).alloc (by simp) _
 have hI0:NwI n w (zi (some ⟨br,0,none⟩)) [U zd (n:Int),O ga gn gc,O sa sn sc,O ya yn yc,O oa on oc,O va vn vc,O fa fn fc,O ba bn bc] [] (O none 0 0) ((w.alloc (ze #[U zd (n:Int),O ga gn gc,O sa sn sc,O ya yn yc,O oa on oc,O va vn vc,O fa fn fc,O ba bn bc] 31)).alloc (ze #[zi (some ⟨br,0,none⟩),U zd (n:Int),O ga gn gc,O sa sn sc,O ya yn yc,O oa on oc,O va vn vc,O fa fn fc,O ba bn bc,O none 0 0,O none 0 0,O none 0 0,O none 0 0] 124)):=by
  refine ⟨hb0,?_,(Ad.new [U zd (n:Int),O ga gn gc,O sa sn sc,O ya yn yc,O oa on oc,O va vn vc,O fa fn fc,O ba bn bc] 31 w).over (bA _ _),fun j=>by simp [go_sem],by simp,Lq _ _ _ _,rfl⟩
  have r:=Ad.new ((zi (some ⟨br,0,none⟩))::([U zd (n:Int),O ga gn gc,O sa sn sc,O ya yn yc,O oa on oc,O va vn vc,O fa fn fc,O ba bn bc]++[O none 0 0,O none 0 0,O none 0 0,O none 0 0])) 124 (w.alloc (ze #[U zd (n:Int),O ga gn gc,O sa sn sc,O ya yn yc,O oa on oc,O va vn vc,O fa fn fc,O ba bn bc] 31))
  simpa using r
 have HB0:=Aa hb0
 have HI0:=Aa hI0
 have HKF:=Aa KF
 have rP:=Ad.new [U zd (n:Int),O ga gn gc,O sa sn sc,O ya yn yc,O oa on oc,O va vn vc,O fa fn fc,O ba bn bc] 31 w
 have rP2:=hI0.pb
 obtain ⟨p0,p1,p2,p3,p4,p5,p6,p7⟩:=rc8 rP
 obtain ⟨o0,o1,o2,o3,o4,o5,o6,o7⟩:=rc8 rP2
 clear hb0 hI0 KF rP rP2 h
 go_enter Tryz.func62,Tryz.ntmps62
 go_wp2_with fail
 go_loopw [14] (fun i wr=>∃ m:Nat,m<=vn/\i=U zd m/\∃ la ln lc,NwI n w (zi (some ⟨br,0,none⟩)) [U zd (n:Int),O ga gn gc,O sa sn sc,O ya yn yc,O oa on oc,O va vn vc,O fa fn fc,O ba bn bc] (List.replicate m (Bs n)) (O la ln lc) wr) (fun i _=>vn - (intOf i).toNat)
 case atStart=>exact ⟨0,Nat.zero_le _,rfl,none,0,0,HI0.o⟩
 case round=>
  obtain ⟨m,hm,rfl,la,ln,lc,hI⟩:=hrel
  have HI:=Aa hI
  by_cases hlt:m < vn
  ·have e9:=hI.c9
   have hr:=hI.row
   obtain ⟨q0,q1,q2,q3,q4,q5,q6,q7,q8⟩:=rc9 hr
   have q10:=hr 10 _ rfl
   have HS0:Hx (wr.drew.cell? ⟨w.heap.size,0,none⟩=some (U zd (n:Int))):=hI.pb 0 _ rfl
   have KB:=Aa (fun W2=>Ek n n1 n6 ga gn gc sa sn sc ya yn yc oa on oc va vn vc fa fn fc ba bn bc la ln lc none 0 0 W2)
   have hmp:(m:Int) < (vn:Int):=by omega
   clear hI hr p0 o0 p1 o1 p2 o2 p3 o3 p4 o4 p5 o5 p6 o6 p7 o7
   go_wp2_with fail
   refine gS (fun Wz=>Wz.cell? ⟨w.heap.size,0,none⟩=some (U zd (n:Int))) (HS0.o) fun hHeld=>?_
   refine kT 0 ?_
   refine kT 1 ?_
   refine kT 2 ?_
   refine kT 3 ?_
   refine kT 4 ?_
   refine kT 5 ?_
   refine kT 7 ?_
   refine kT 8 ?_
   refine kT 9 ?_
   refine rdB 6 10 rfl (fun K kh6=>?_) rfl (fun K kh10=>?_) (by decide +kernel)
   all_goals repeat' first
    | (
     have hi:=kh6
     clear hi
     go_simp
     refine xK kh6 hHeld fun hHeld=>?_
     clear kh6 K
     first | (refine rdA 10 rfl (fun K kh10=>?_) (by decide +kernel)) | (refine rdA 11 rfl (fun K kh11=>?_) (by decide +kernel)) | (refine rdA 12 rfl (fun K kh12=>?_) (by decide +kernel)) | (refine rdA 13 rfl (fun K kh13=>?_) (by decide +kernel)))
    | (
     have hi:=kh10
     clear hi
     go_simp
     refine xK kh10 (HS0.o) fun hHeld=>?_
     clear kh10 K
     first | (refine rdA 11 rfl (fun K kh11=>?_) (by decide +kernel)) | refine rdB 6 11 rfl (fun K kh6=>?_) rfl (fun K kh11=>?_) (by decide +kernel))
    | (
     have hi:=kh11
     clear hi
     go_simp
     refine (KB.o _).mono ?_
     rintro e W3 ⟨vj,rfl,hL3,hb3⟩
     have hb3':=Ac (bD wr) hb3
     have hI3:=HI.o.over hb3'
     have hv3:Ar n (X0 w.heap.size (w.heap.size+1)) W3 vj (Bs n):=⟨An hL3,El _,BR (Mq _ _) hb3' (fun k hk=>HI.o.xlt k hk) (Be hL3)⟩
     obtain ⟨v1,v2,rfl,ho1,ho2,-⟩:=hL3
     obtain ⟨y1,y2,y3,rfl⟩:=AG ho1
     obtain ⟨y4,y5,y6,rfl⟩:=AG ho2
     have hb4:Ov W3 (W3.alloc (ze #[O y1 y2 y3,O y4 y5 y6] 50)):=bA _ _
     have hI4:=hI3.over hb4
     have hN:=Ad.new [O y1 y2 y3,O y4 y5 y6] 50 W3
     obtain ⟨i0,hi,hz0,hz1,hz2⟩:=info_parts Tryz.infoLk
     obtain ⟨us,hown,hel⟩:=hI4.lev
     obtain ⟨v2,w2,hrun,hown2,hgr2,-,hat⟩:=run_append_own_at (P:=Tryz.prog) (w:=W3.alloc (ze #[O y1 y2 y3,O y4 y5 y6] 50)) (w.heap.size+2) 42 42 50 i0 (zh #[O none 0 0,O none 0 0]) 2 48 Tryz.underlying42 hi hz0 hz1 hz2 rfl (by decide) _ _ _ hown ⟨W3.heap.size,0,none⟩ 1 1 [O y1 y2 y3,O y4 y5 y6] rfl (fun jj u hu=>by rw [Addr.add_lit,Nat.zero_add];exact hN jj u hu) (by simp [Value.oneCell']) (by rw [List.length_replicate];unfold maxLen;omega) (by rw [List.length_replicate];omega) hI4.two
     obtain ⟨va2,vn2,vc2,rfl⟩:=AG hown2
     have hfin:=hI4.add n1 hel hown.1 (hv3.over (Mq _ _) hb4) hown2 hgr2 hat
     have e9b:=hI3.c9
     have e9c:=hI4.c9
     have hbw2:w2.heap[w.heap.size+1]? = (W3.alloc (ze #[O y1 y2 y3,O y4 y5 y6] 50)).heap[w.heap.size+1]?:=hgr2.block _ hI4.lo (fun e=>hI4.ap e.symm)
     have d2:w2.cell? ⟨w.heap.size+1,9,none⟩=some (O la ln lc):=(World.cell?_of_block (a:=⟨w.heap.size+1,9,none⟩) hbw2).trans hI4.c9
     have f2:w2.frozen? ⟨w.heap.size+1,9,none⟩=false:=(World.frozen?_of_block (a:=⟨w.heap.size+1,9,none⟩) hbw2).trans (hI4.fz 9)
     have s3:=hI3.pb 0 _ rfl
     have s4:=hI4.pb 0 _ rfl
     have s5:w2.cell? ⟨w.heap.size,0,none⟩=some (U zd (n:Int)):=(World.cell?_of_block (a:=⟨w.heap.size,0,none⟩) (hgr2.block _ (bL s4) (fun e=>hI4.apb e.symm))).trans s4
     obtain ⟨W4,hW4⟩:=nm (w2.setCell ⟨w.heap.size+1,9,none⟩ (O va2 vn2 vc2))
     rw [<-hW4] at hfin
     have s6:=hfin.pb 0 _ rfl
     have HFIN:=Aa hfin
     have HS3:=Aa s3
     have HS4:=Aa s4
     have HS5:=Aa s5
     have HS6:=Aa s6
     clear hb3 hb3' hI3 hv3 ho1 ho2 hb4 hI4 hN hown hel hown2 hgr2 hat hfin hbw2 s3 s4 s5 s6 hi hz0 hz1 hz2
     go_simp
     refine xK kh11 (HS3.o) fun hHeld=>?_
     clear kh11 K
     first | (refine rdA 12 rfl (fun K kh12=>?_) (by decide +kernel)) | refine rdB 6 12 rfl (fun K kh6=>?_) rfl (fun K kh12=>?_) (by decide +kernel))
    | (
     have hi:=kh12
     clear hi
     go_simp
     refine xK kh12 (HS4.o) fun hHeld=>?_
     clear kh12 K
     first | (refine rdA 13 rfl (fun K kh13=>?_) (by decide +kernel)) | refine rdA 6 rfl (fun K kh6=>?_) (by decide +kernel))
    | (
     have hi:=kh13
     clear hi
     refine CS rfl _ _ _ rfl _ _ _ _ rfl rfl hrun ?_
     refine xK kh13 (HS5.o) fun hHeld=>?_
     clear kh13 K
     refine kT 14 ?_
     refine kT 15 ?_
     refine kT 16 ?_
     refine kT 17 ?_
     refine rdA 18 rfl (fun K kh18=>?_) (by decide +kernel))
    | (
     have hi:=kh18
     clear hi
     go_simp
     rw [<-hW4]
     clear hW4
     refine xK kh18 (HS6.o) fun hHeld=>?_
     clear kh18 K
     refine gE ?_
     go_wp2_with fail
     exact ⟨⟨m+1,by omega,by go_num,_,_,_,by rw [List.replicate_succ'];exact HFIN.o⟩,by simp [intOf];omega⟩)
  ·have hme:m=vn:=by omega
   rw [hme] at hI
   have hr:=hI.row
   obtain ⟨q0,q1,q2,q3,q4,q5,q6,q7,q8,q9,q10,q11,q12⟩:=Rr hr
   have HI5:=Aa hI
   have KB:=Aa (fun W2=>Ek n n1 n6 ga gn gc sa sn sc ya yn yc oa on oc va vn vc fa fn fc ba bn bc la ln lc none 0 0 W2)
   have hmp:¬ (m:Int) < (vn:Int):=by omega
   clear hI hr hme HI hm hlt p0 o0 p1 o1 p2 o2 p3 o3 p4 o4 p5 o5 p6 o6 p7 o7
   go_wp2_with fail
   refine (KB.o _).mono ?_
   rintro e W6 ⟨vj,rfl,hL6,hb6⟩
   have hL6':=hL6
   obtain ⟨v1,v2,rfl,ho1,ho2,-⟩:=hL6
   obtain ⟨y1,y2,y3,rfl⟩:=AG ho1
   obtain ⟨y4,y5,y6,rfl⟩:=AG ho2
   have hI6:=HI5.o.over hb6
   have hb6a:Ov W6 (W6.alloc (ze #[O y1 y2 y3,O y4 y5 y6] 50)):=bA _ _
   have hI6a:=hI6.over hb6a
   have c11:=hI6a.row 11 _ rfl
   have f11:=hI6a.fz 11
   have hP6:=hI6a.pb
   have hne:w.heap.size≠w.heap.size+1:=by omega
   have hne2:=Ne.symm hne
   obtain ⟨t0,t1,t2,t3,t4,t5,t6,t7⟩:=rc8 hP6
   obtain ⟨W7,hW7⟩:=nm ((W6.alloc (ze #[O y1 y2 y3,O y4 y5 y6] 50)).setCell ⟨w.heap.size+1,11,none⟩ (O (some ⟨W6.heap.size,0,none⟩) 1 1))
   have hB7:Ov w W7:=by rw [hW7];exact hI6a.below.setCell (by show w.heap.size<=w.heap.size+1;omega) _
   have hc12:W7.cell? ⟨w.heap.size+1,12,none⟩=some (O none 0 0):=by
    rw [hW7,World.cell?_setCell_other _ _ _ _ (by simp)]
    exact hI6a.row 12 _ rfl
   have hf12:W7.frozen? ⟨w.heap.size+1,12,none⟩=false:=by
    rw [hW7]
    have e1:((W6.alloc (ze #[O y1 y2 y3,O y4 y5 y6] 50)).setCell ⟨w.heap.size+1,11,none⟩ (O (some ⟨W6.heap.size,0,none⟩) 1 1)).frozen? ⟨w.heap.size+1,12,none⟩=(W6.alloc (ze #[O y1 y2 y3,O y4 y5 y6] 50)).frozen? ⟨w.heap.size+1,12,none⟩:=by simp [go_sem]
    rw [e1]
    exact hI6a.fz 12
   have hlt7:w.heap.size+1 < W7.heap.size:=bL hc12
   have KF7:=Aa (HKF.o W7 hB7)
   have HL6:=Aa hL6'
   have HB6:=Aa hb6
   have HC12:=Aa hc12
   have HF12:=Aa hf12
   have HLT7:=Aa hlt7
   have hW7':=hW7
   have HW7:=Aa hW7
   clear hL6' hb6 ho1 ho2 hI6 hb6a hI6a hP6 hB7 hc12 hf12 hlt7 hW7' q0 q1 q2 q3 q4 q5 q6 q7 q8 q9 q10 q11 q12
   go_wp2_with fail
   rw [<-hW7]
   clear hW7 c11 f11 t0 t1 t2 t3 t4 t5 t6 t7 hne hne2
   refine (KF7.o).mono ?_
   rintro e W8 ⟨st,fv,B,hQ,rfl,hB,hown,hb8⟩
   obtain ⟨fz1,fz2,fz3,rfl⟩:=AG hown
   have c12:=Ab hb8 _ _ HC12.o
   have f12:W8.frozen? ⟨w.heap.size+1,12,none⟩=false:=((Am hb8).2 _ _ HLT7.o).trans HF12.o
   have HFIN:Hx (∀ Y:Nat->Prop,(∀ k,Y k->w00.heap.size<=k/\k < w.heap.size)->_):=fun Y hY=>WtI.made (c:=⟨n,ga,gn,gc,sa,sn,sc,ya,yn,yc,oa,on,oc,va,vn,vc,fa,fn,fc,ba,bn,bc,la,ln,lc,none,0,0⟩) (fv:=O fz1 fz2 fz3) (fl:=fl st) (Y:=Y) (W9:=W8.setCell ⟨w.heap.size+1,12,none⟩ (O fz1 fz2 fz3)) rfl n1 HI5.o ⟨rfl,rfl,rfl⟩ h00 hY HB6.o HL6.o (El _) HW7.o hb8 hB hown rfl
   have HQ:=Aa hQ
   clear hQ hB hown hb8
   go_wp2_with fail
   go_ret
   exact ⟨st,_,_,la,ln,lc,HQ.o,rfl,(HFIN.o (fun _=>False) (fun k hk=>hk.elim)).2,fun Y hY=>(HFIN.o Y hY).1⟩
theorem Tryz.infoBk:(Tryz.prog.info? 4).map (fun i=>(i.zero,i.size,i.bytes))=some (some (zg false),1,1):=by kernel_rfl
theorem Nt (n:Nat) (n1:1<=n) (n6:n<=6) (v:Value) (l:List Bool) (w:World) (h:AH w v l) (hl:l.length=n) :
  Calls Tryz.prog 123 #[v] w fun e w'=>∃ vj,e=zj vj/\w'.ownsRow w.heap.size 4 1 vj n (l.map Value.bool)/\Ov w w':=by
 obtain ⟨ao,cap,rfl,hel⟩:=h
 obtain ⟨b,off,rfl,hel2⟩:=hel (by rintro rfl;simp at hl;omega)
 have hb0:Ov w (w.alloc (ze #[] 4)):=bA w _
 obtain ⟨i0,hi,hz0,hz1,hz2⟩:=info_parts Tryz.infoBk
 have hown:(w.alloc (ze #[] 4)).ownsRow w.heap.size 4 1 (O (some ⟨w.heap.size,0,none⟩) 0 0) 0 []:=World.ownsRow_made w #[] 0 (Nat.le_refl _) (by unfold maxLen;omega) (by simp)
 have hnews:∀ jj u,(l.map Value.bool)[jj]? = some u->(w.alloc (ze #[] 4)).cell? ((⟨b,off,none⟩:Addr).add jj)=some u:=fun jj u hu=>by
  have hj:jj < l.length:=by have:=(List.getElem?_eq_some_iff.1 hu).1;simpa using this
  rw [Addr.add_lit]
  rw [List.getElem?_map,List.getElem?_eq_getElem hj] at hu
  simp at hu
  subst hu
  exact Ab hb0 _ _ (hel2 jj hj)
 have hone:∀ u∈l.map Value.bool,u.oneCell'=true:=by intro u hu;obtain ⟨y,-,rfl⟩:=List.mem_map.1 hu;rfl
 have hb0s:=hb0.size
 have HB0:=Aa hb0
 have hln:l.length<=6:=by omega
 obtain ⟨ll,hll⟩:=nm l.length
 have hml:(l.map Value.bool).length=ll*1:=by simp [hll]
 rw [<-hll]
 have HLL:Hx (ll=n):=by rw [hll];exact hl
 rw [<-hll] at hln
 clear hel hel2 hb0 hl hll
 have q48:∀ (w:World) (a:Option Addr) (n c n' c':Nat),(binOp .eql 48 (O a n c) (O none n' c')).run Tryz.prog w=.ok (zg a.isNone) w:=fun w a n c n' c'=>Lib.run_eql_slice_nil w _ _ a n c n' c' Tryz.underlying48
 go_enter Tryz.func123,Tryz.ntmps123
 go_wp2_with (at_builtin;refine wpList_append_own _ rfl _ _ 48 rfl w.heap.size 4 i0 (zg false) 1 1 Tryz.underlying48 hi hz0 hz1 hz2 rfl (by decide) _ _ _ rfl hown ⟨b,off,none⟩ ll cap (l.map Value.bool) rfl hml hnews hone (by unfold maxLen;omega) (by omega) hb0s ?_)
 intro v2 w2 hown2 hgr2 _
 have hB2:Ov w w2:=HB0.o.trans (DT hgr2 (fun g e=>by simp [Value.ownBlock] at e;omega) HB0.o.size)
 rw [HLL.o] at hown2
 have HOWN:=Aa hown2
 have HB2:=Aa hB2
 obtain ⟨va2,vn2,vc2,rfl⟩:=AG hown2
 clear hown hown2 hgr2 hB2 hi hz0 hz1 hz2 hnews hone hml
 go_wp2_with fail
 go_ret
 exact ⟨_,rfl,HOWN.o,HB2.o⟩
structure FN (n B:Nat) (W:World) (u v:Value) (l:Lev):Prop where
 r:W.ownsRow B 4 1 u n (l.r.map Value.bool)
 w:W.ownsRow B 4 1 v n (l.w.map Value.bool)
 len:l.len n
theorem G9 {W:World} {B n:Nat} {v:Value} {l:List Bool} (h:W.ownsRow B 4 1 v n (l.map Value.bool)) (hl:l.length=n) (n1:1<=n):AH W v l:=by
 rcases id h.2 with ⟨-,h0⟩ | ⟨g,cap,cur,hv,-⟩
 ·omega
 ·rw [hv] at h
  refine ⟨some ⟨g,0,none⟩,cap,by rw [hv,hl],fun _=>⟨g,0,rfl,fun i hi=>?_⟩⟩
  rw [Nat.zero_add,h.cellAt i (by omega)]
  simp [hi]
theorem FN.at_ {n B:Nat} {W:World} {u v:Value} {l:Lev} (h:FN n B W u v l) (n1:1<=n):A5 W (zh #[u,v]) l:=⟨u,v,rfl,G9 h.r h.len.1 n1,G9 h.w h.len.2 n1⟩
structure EK (n:Nat) (w:World) (Ls:List Lev) (v:Value) (W:World):Prop where
 below:Ov w W
 row:∃ us:List Value,W.ownsRow w.heap.size 50 2 v Ls.length us/\∀ i (h:i < Ls.length),∃ x y,us[i*2]? = some x/\us[i*2+1]? = some y/\FN n w.heap.size W x y Ls[i]
section
variable {n:Nat} {w W W':World} {Ls:List Lev} {v:Value}
theorem EK.row_lt (h:EK n w Ls v W):∀ g,v.ownBlock=some g->w.heap.size<=g/\g < W.heap.size:=by
 obtain ⟨us,ho,-⟩:=h.row
 exact ho.lt
theorem FN.over {B:Nat} {u v:Value} {l:Lev} (h:FN n B W u v l) (hb:Ov W W'):FN n B W' u v l:=⟨Ax h.r (fun g e=>hb.block g (h.r.lt g e).2),Ax h.w (fun g e=>hb.block g (h.w.lt g e).2),h.len⟩
theorem EK.over (h:EK n w Ls v W) (hb:Ov W W'):EK n w Ls v W':=by
 refine ⟨h.below.trans (hb.mono h.below.size),?_⟩
 obtain ⟨us,ho,hel⟩:=h.row
 refine ⟨us,Ax ho (fun g e=>hb.block g (ho.lt g e).2),fun i hi=>?_⟩
 obtain ⟨x,y,e0,e1,hl⟩:=hel i hi
 exact ⟨x,y,e0,e1,hl.over hb⟩
theorem MR {B e s k:Nat} {xs:List Value} (h:W.ownsRow B e s v k xs):∀ g,v.ownBlock=some g->∃ cur fr,W.heap[g]? = some (.cells cur e fr):=by
 intro g hg
 rcases h.2 with ⟨h,-⟩ | ⟨g',cap,cur,h,hb,hh,-⟩
 ·rw [h] at hg;cases hg
 ·rw [h] at hg
  simp [Value.ownBlock] at hg
  subst hg
  exact ⟨_,_,hh⟩
theorem EK.add {v' u q:Value} {us:List Value} {l:Lev} (h:EK n w Ls v W) (hel:∀ i (h:i < Ls.length),∃ x y,us[i*2]? = some x/\us[i*2+1]? = some y/\FN n w.heap.size W x y Ls[i]) (hus:us.length=Ls.length*2) (hl:FN n w.heap.size W u q l) (ho:W'.ownsRow w.heap.size 50 2 v' (Ls.length+1) (us++[u,q])) (hg:W.grownBy W' v.ownBlock) (hat:v'.ownBlock=v.ownBlock\/v'.ownBlock=some W.heap.size):EK n w (Ls++[l]) v' W':=by
 obtain ⟨us0,ho0,-⟩:=h.row
 have hk:∀ {x y:Value} {z:Lev},FN n w.heap.size W x y z->FN n w.heap.size W' x y z:=by
  intro x y z hz
  have one:∀ {x:Value} {xs:List Value},W.ownsRow w.heap.size 4 1 x n xs->W'.ownsRow w.heap.size 4 1 x n xs:=fun {x xs} hx=>Ax hx (fun g e=>hg.block g (hx.lt g e).2 (fun q=>by
   obtain ⟨c1,f1,e1⟩:=MR hx g e
   obtain ⟨c2,f2,e2⟩:=MR ho0 g q.symm
   rw [e1] at e2
   injection e2 with e2
   injection e2 with a1 a2 a3
   exact absurd a2 (by decide)))
  exact ⟨one hz.r,one hz.w,hz.len⟩
 refine ⟨h.below.trans (DT hg (fun g e=>(h.row_lt g e).1) h.below.size),us++[u,q],by rw [List.length_append];exact ho,fun i hi=>?_⟩
 rw [List.length_append,List.length_singleton] at hi
 by_cases hii:i < Ls.length
 ·obtain ⟨x,y,e0,e1,hl'⟩:=hel i hii
  refine ⟨x,y,by rw [List.getElem?_append_left (by omega)];exact e0,by rw [List.getElem?_append_left (by omega)];exact e1,?_⟩
  rw [List.getElem_append_left hii]
  exact hk hl'
 ·have hie:i=Ls.length:=by omega
  subst hie
  refine ⟨u,q,by rw [List.getElem?_append_right (by omega),hus,Nat.sub_self];rfl,by rw [List.getElem?_append_right (by omega),hus,show Ls.length*2+1 - Ls.length*2=1 by omega];rfl,?_⟩
  rw [List.getElem_append_right (by omega)]
  simp
  exact hk hl
end
theorem NT (x:WX) (w0:World) (n:Nat) (hxn:x.c.n=n) (n1:1<=n) (n6:n<=6) (s:WSt) (pv:Value) (w:World) (h:WtI x w0 s pv w) (h16:s.vs.length<=16) :
  Calls Tryz.prog 65 #[zi (some ⟨x.bw,0,none⟩)] w fun e w'=>∃ a k c,e=zj (O a k c)/\EK n w s.vs (O a k c) w':=by
 obtain ⟨us,ho,-⟩:=id h.lev
 have hln:x.c.ln=s.vs.length:=by
  rcases ho.2 with ⟨e,e2⟩ | ⟨g',cap,cur,e,-⟩
  ·unfold WX.lv at e;injection e with e1 e3 e4;rw [e3,e2]
  ·unfold WX.lv at e;injection e
 have e9:CE w x.bw 9 (O x.c.la x.c.ln x.c.lc):=h.cw (j:=8) rfl
 have HI:=Aa h
 have HLN:=Aa hln
 obtain ⟨ln,hln2⟩:=nm x.c.ln
 rw [<-hln2] at e9 HLN
 have hl16:ln<=16:=by omega
 have HL2:=Aa hln2
 clear h ho hln hln2
 go_enter Tryz.func65,Tryz.ntmps65
 go_wp2_with fail
 go_loopw [13,3] (fun i o wr=>∃ m:Nat,m<=ln/\i=U zd m/\∃ o1 o2 o3,o=O o1 o2 o3/\EK n w (s.vs.take m) (O o1 o2 o3) wr) (fun i _ _=>ln - (intOf i).toNat)
 case atStart=>exact ⟨0,Nat.zero_le _,rfl,none,0,0,rfl,⟨Below.refl _ _,[],World.ownsRow_nil ..,fun i h=>absurd h (by simp)⟩⟩
 case round=>
  obtain ⟨m,hm,rfl,o1,o2,o3,rfl,hO⟩:=hrel
  have HO:=Aa hO
  by_cases hlt:m < ln
  ·have hml:m < s.vs.length:=by rw [<-HLN.o];exact hlt
   obtain ⟨bl,lcap,a1,a2,a3,a4,a5,a6,hlv,k0,k1,hlz⟩:=HI.o.lev.cells hml
   have hla:x.c.la=some ⟨bl,0,none⟩:=by unfold WX.lv at hlv;injection hlv
   have hbr:=hO.below
   obtain ⟨lz,hlze⟩:=nm (s.vs[m])
   rw [<-hlze] at hlz
   have HLZE:=Aa hlze
   have HLZ:Hx (lz.len n):=by rw [<-hxn];exact hlz.len
   have HLB:Hx (AH wr (O a1 a2 a3) lz.r/\AH wr (O a4 a5 a6) lz.w):=by
    obtain ⟨u,v,e,b1,b2⟩:=hlz.at_
    simp at e
    obtain ⟨rfl,rfl⟩:=e
    exact ⟨AA b1 hbr,AA b2 hbr⟩
   obtain ⟨k0,k1⟩:=co2 hbr k0 k1
   have HS:Hx (∀ W2,Ov wr W2->CE W2 bl (m*2) (O a1 a2 a3)/\CE W2 bl (m*2+1) (O a4 a5 a6)):=fun W2 hb2=>⟨Ab hb2 _ _ k0,Ab hb2 _ _ k1⟩
   have hmp:(m:Int) < (ln:Int):=by omega
   rw [hla]
   clear hlze hlz hbr hO hlv hla e9
   have hbv:Ov wr (wr.alloc (ze #[O a1 a2 a3,O a4 a5 a6] 50)):=bA _ _
   have rv5:Ad [O a1 a2 a3,O a4 a5 a6] (wr.alloc (ze #[O a1 a2 a3,O a4 a5 a6] 50)) wr.heap.size:=Ad.new _ _ _
   obtain ⟨V5,hV5⟩:=nm ((wr.alloc (ze #[O a1 a2 a3,O a4 a5 a6] 50)))
   rw [<-hV5] at hbv rv5
   have HBW5:=Aa hbv
   have HS5:Hx (∀ W2,Ov V5 W2->CE W2 wr.heap.size 0 (O a1 a2 a3)/\CE W2 wr.heap.size 1 (O a4 a5 a6)):=fun W2 hb2=>⟨(rv5.over hb2) 0 _ rfl,(rv5.over hb2) 1 _ rfl⟩
   have HB6:Hx (Ov V5 V5.drew):=(bD _)
   have HWS:Hx (w.heap.size<=V5.heap.size):=Nat.le_trans HO.o.below.size hbv.size
   have KC1:Hx (∀ W2,Ov V5 W2->Calls Tryz.prog 123 #[O a1 a2 a3] W2 fun e W'=>∃ vj,e=zj vj/\W'.ownsRow W2.heap.size 4 1 vj n (lz.r.map Value.bool)/\Ov W2 W'):=fun W2 hb2=>Nt n n1 n6 _ lz.r W2 (AA HLB.o.1 (Ac HBW5.o hb2)) HLZ.o.1
   have KC2:Hx (∀ W2,Ov V5 W2->Calls Tryz.prog 123 #[O a4 a5 a6] W2 fun e W'=>∃ vj,e=zj vj/\W'.ownsRow W2.heap.size 4 1 vj n (lz.w.map Value.bool)/\Ov W2 W'):=fun W2 hb2=>Nt n n1 n6 _ lz.w W2 (AA HLB.o.2 (Ac HBW5.o hb2)) HLZ.o.2
   clear hbv rv5 HS
   go_wp2_with fail
   rw [<-hV5]
   clear hV5
   refine gS (fun Wz=>CE Wz wr.heap.size 0 (O a1 a2 a3)/\CE Wz wr.heap.size 1 (O a4 a5 a6)) (HS5.o _ HB6.o) fun hHeld=>?_
   refine kT 0 ?_
   refine kT 1 ?_
   refine kT 2 ?_
   refine kT 4 ?_
   refine kT 5 ?_
   refine rdA 3 rfl fun K hK=>?_
   go_simp
   refine (KC1.o _ HB6.o).mono ?_
   rintro e W7 ⟨vj,rfl,hw7,hb7⟩
   obtain ⟨n1,n2,n3,rfl⟩:=AG hw7
   have HB7:=Aa (Ac HB6.o hb7)
   have HW7:=Aa hw7
   clear hw7 hb7
   go_simp
   refine xK hK (HS5.o _ HB7.o) fun hHeld=>?_
   clear hK K
   refine rdA 6 rfl fun K hK=>?_
   go_simp
   refine (KC2.o _ HB7.o).mono ?_
   rintro e W8 ⟨vj,rfl,hw8,hb8⟩
   obtain ⟨n4,n5,n6,rfl⟩:=AG hw8
   have HB8:=Aa (Ac HB7.o hb8)
   have hw7:=Ax HW7.o (fun g e=>hb8.block g (HW7.o.lt g e).2)
   have hb8w:=Ac HBW5.o HB8.o
   have hIo:=HO.o.over hb8w
   have hb9:Ov W8 (W8.alloc (ze #[O n1 n2 n3,O n4 n5 n6] 50)):=bA _ _
   have hI9:=hIo.over hb9
   have hN:=Ad.new [O n1 n2 n3,O n4 n5 n6] 50 W8
   obtain ⟨i0,hi,hz0,hz1,hz2⟩:=info_parts Tryz.infoLk
   obtain ⟨us,hown,hel⟩:=hI9.row
   obtain ⟨v2,w2,hrun,hown2,hgr2,-,hat⟩:=run_append_own_at (P:=Tryz.prog) (w:=W8.alloc (ze #[O n1 n2 n3,O n4 n5 n6] 50)) w.heap.size 42 42 50 i0 (zh #[O none 0 0,O none 0 0]) 2 48 Tryz.underlying42 hi hz0 hz1 hz2 rfl (by decide) _ _ _ hown ⟨W8.heap.size,0,none⟩ 1 1 [O n1 n2 n3,O n4 n5 n6] rfl (fun jj u hu=>by rw [Addr.add_lit,Nat.zero_add];exact hN jj u hu) (by simp [Value.oneCell']) (by rw [List.length_take];unfold maxLen;omega) (by rw [List.length_take];omega) hI9.below.size
   obtain ⟨va2,vn2,vc2,rfl⟩:=AG hown2
   have hln:FN n w.heap.size (W8.alloc (ze #[O n1 n2 n3,O n4 n5 n6] 50)) (O n1 n2 n3) (O n4 n5 n6) lz:=⟨Dg (Ax hw7 (fun g e=>hb9.block g (hw7.lt g e).2)) (Nat.le_trans HWS.o HB6.o.size),Dg (Ax hw8 (fun g e=>hb9.block g (hw8.lt g e).2)) (Nat.le_trans HWS.o HB7.o.size),HLZ.o⟩
   have hfin:=hI9.add hel hown.1 hln hown2 hgr2 hat
   have HFIN:=Aa hfin
   have s7:=HS5.o _ HB8.o
   have HS8:=Aa s7
   have HS9:Hx (CE (W8.alloc (ze #[O n1 n2 n3,O n4 n5 n6] 50)) wr.heap.size 0 (O a1 a2 a3)/\CE (W8.alloc (ze #[O n1 n2 n3,O n4 n5 n6] 50)) wr.heap.size 1 (O a4 a5 a6)):=⟨Ab hb9 _ _ s7.1,Ab hb9 _ _ s7.2⟩
   have hnb:(Value.slice o1 o2 o3).ownBlock≠some wr.heap.size:=fun e=>by have:=(HO.o.row_lt _ e).2;omega
   have HS10:Hx (CE w2 wr.heap.size 0 (O a1 a2 a3)/\CE w2 wr.heap.size 1 (O a4 a5 a6)):=⟨(World.cell?_of_block (a:=⟨wr.heap.size,0,none⟩) (hgr2.block _ (bL HS9.o.1) (fun e=>hnb e.symm))).trans HS9.o.1,(World.cell?_of_block (a:=⟨wr.heap.size,1,none⟩) (hgr2.block _ (bL HS9.o.2) (fun e=>hnb e.symm))).trans HS9.o.2⟩
   clear hw7 hw8 hb8 hb8w hIo hb9 hI9 hN hown hel hown2 hgr2 hat hln hfin s7 hnb hi hz0 hz1 hz2
   go_simp
   refine xK hK (HS8.o) fun hHeld=>?_
   clear hK K
   refine kT 7 ?_
   refine rdA 8 rfl fun K hK=>?_
   go_simp
   refine xK hK (HS9.o) fun hHeld=>?_
   clear hK K
   refine rdA 9 rfl fun K hK=>?_
   refine CS rfl _ _ _ rfl _ _ _ _ rfl rfl hrun ?_
   refine xK hK (HS10.o) fun hHeld=>?_
   clear hK K
   refine kT 10 ?_
   refine gE ?_
   go_wp2_with fail
   exact ⟨⟨m+1,by omega,by go_num,_,_,_,rfl,by rw [List.take_succ_eq_append_getElem hml,<-HLZE.o];exact HFIN.o⟩,by simp [intOf];omega⟩
  ·have hme:m=ln:=by omega
   have hz:s.vs.take m=s.vs:=List.take_of_length_le (by have:=HLN.o;omega)
   rw [hz] at HO
   have hmp:¬ (m:Int) < (ln:Int):=by omega
   clear hO hme hz
   go_wp2_with fail
   go_ret
   exact ⟨o1,o2,o3,rfl,HO.o⟩
end Go.Proofs.YtfffpjkcfnekaaaGreat.Ex
