/- One who judges: what is asked of an actor. -/
import Derived.Test.YtfffpjkcfnekaaaGreatF29
set_option linter.unusedVariables false
set_option maxHeartbeats 8000000
set_option maxRecDepth 100000
namespace Go.Proofs.YtfffpjkcfnekaaaGreat.Ex
open Go.RowKit
open Go.Value renaming slice -> O, int -> U, bool -> zg, agg -> zh, pointer -> zj, tuple -> zm
open Go.IntKind renaming i64 -> zd
open Go.Obj renaming cells -> ze
open Go.Ending renaming returned -> zk
theorem MI (n who b1 b2:Nat) (v1 v2:Value) (l1 l2:List Bool) (W:World) (h6:n<=6) (hw:who < n) (z1:W.cell? ⟨b1,0,none⟩=some v1) (z2:W.cell? ⟨b2,0,none⟩=some v2) (h1:AN W v1 l1) (n1:l1.length=n) (h2:AN W v2 l2) (n2:l2.length=n) :
  Calls Tryz.prog 207 #[U zd (who:Int),zj (some ⟨b1,0,none⟩),zj (some ⟨b2,0,none⟩)] W fun e W'=>e=zk (zg (l1[who]?.getD false && !(l2[who]?.getD false)))/\Ov W W':=by
 obtain ⟨u1,k1,rfl,e1⟩:=h1
 obtain ⟨c1,o1,rfl,w1⟩:=e1 (by rintro rfl;simp at n1;omega)
 obtain ⟨u2,k2,rfl,e2⟩:=h2
 obtain ⟨c2,o2,rfl,w2⟩:=e2 (by rintro rfl;simp at n2;omega)
 have x1:=w1 who (by omega)
 have x2:=w2 who (by omega)
 rw [n1] at z1
 rw [n2] at z2
 rw [List.getElem?_eq_getElem (by omega:who < l1.length),List.getElem?_eq_getElem (by omega:who < l2.length)]
 simp only [Option.getD_some]
 generalize l1[who]'(by omega)=x at x1 ⊢
 generalize l2[who]'(by omega)=y at x2 ⊢
 have g1:(who:Int) < (n:Int):=by omega
 clear e1 e2 w1 w2 n1 n2
 cases x with
 | true=>
  have hS0:CE W b1 0 (O (some ⟨c1,o1,none⟩) n k1)/\CE W b2 0 (O (some ⟨c2,o2,none⟩) n k2)/\CE W c1 (o1+who) (zg true)/\CE W c2 (o2+who) (zg y):=⟨z1,z2,x1,x2⟩
  clear hS0
  go_enter Tryz.func207,Tryz.ntmps207
  go_wp2_with fail
  go_ret
  exact ⟨by first | rfl | simp,Below.refl _ _⟩
 | false=>
  have hS0:CE W b1 0 (O (some ⟨c1,o1,none⟩) n k1)/\CE W b2 0 (O (some ⟨c2,o2,none⟩) n k2)/\CE W c1 (o1+who) (zg false)/\CE W c2 (o2+who) (zg y):=⟨z1,z2,x1,x2⟩
  clear hS0
  go_enter Tryz.func207,Tryz.ntmps207
  go_wp2_with fail
  go_ret
  exact ⟨by first | rfl | simp,Below.refl _ _⟩
theorem Hv (args:Array Value) (w:World):(callFunc 207 args).run Tryz.prog w=.ok (.enter 207 args) w:=by simp [go_sem]
theorem L5 (n who b1 b2:Nat) (v1 v2:Value) (l1 l2:List Bool) (W:World) (h6:n<=6) (hw:who < n) (z1:W.cell? ⟨b1,1,none⟩=some v1) (z2:W.cell? ⟨b2,1,none⟩=some v2) (h1:AN W v1 l1) (n1:l1.length=n) (h2:AN W v2 l2) (n2:l2.length=n) :
  Calls Tryz.prog 204 #[U zd (who:Int),zj (some ⟨b1,0,none⟩),zj (some ⟨b2,0,none⟩)] W fun e W'=>e=zk (zg (l1[who]?.getD false && !(l2[who]?.getD false)))/\Ov W W':=by
 obtain ⟨u1,k1,rfl,e1⟩:=h1
 obtain ⟨c1,o1,rfl,w1⟩:=e1 (by rintro rfl;simp at n1;omega)
 obtain ⟨u2,k2,rfl,e2⟩:=h2
 obtain ⟨c2,o2,rfl,w2⟩:=e2 (by rintro rfl;simp at n2;omega)
 have x1:=w1 who (by omega)
 have x2:=w2 who (by omega)
 rw [n1] at z1
 rw [n2] at z2
 rw [List.getElem?_eq_getElem (by omega:who < l1.length),List.getElem?_eq_getElem (by omega:who < l2.length)]
 simp only [Option.getD_some]
 generalize l1[who]'(by omega)=x at x1 ⊢
 generalize l2[who]'(by omega)=y at x2 ⊢
 have g1:(who:Int) < (n:Int):=by omega
 clear e1 e2 w1 w2 n1 n2
 cases x with
 | true=>
  have hS0:CE W b1 1 (O (some ⟨c1,o1,none⟩) n k1)/\CE W b2 1 (O (some ⟨c2,o2,none⟩) n k2)/\CE W c1 (o1+who) (zg true)/\CE W c2 (o2+who) (zg y):=⟨z1,z2,x1,x2⟩
  clear hS0
  go_enter Tryz.func204,Tryz.ntmps204
  go_wp2_with fail
  go_ret
  exact ⟨by first | rfl | simp,Below.refl _ _⟩
 | false=>
  have hS0:CE W b1 1 (O (some ⟨c1,o1,none⟩) n k1)/\CE W b2 1 (O (some ⟨c2,o2,none⟩) n k2)/\CE W c1 (o1+who) (zg false)/\CE W c2 (o2+who) (zg y):=⟨z1,z2,x1,x2⟩
  clear hS0
  go_enter Tryz.func204,Tryz.ntmps204
  go_wp2_with fail
  go_ret
  exact ⟨by first | rfl | simp,Below.refl _ _⟩
theorem Gw (args:Array Value) (w:World):(callFunc 204 args).run Tryz.prog w=.ok (.enter 204 args) w:=by simp [go_sem]
theorem LZ (n who b1 b2 b3 bj:Nat) (v1 v2:Value) (l1 l2:List Bool) (r:Bool) (W:World) (h6:n<=6) (hw:who < n) (z1:W.cell? ⟨b1,1,none⟩=some v1) (z2:W.cell? ⟨b2,1,none⟩=some v2) (z3:W.cell? ⟨b3,0,none⟩=some (zj (some ⟨bj,0,none⟩))) (h1:AN W v1 l1) (n1:l1.length=n) (h2:AN W v2 l2) (n2:l2.length=n)
  (KA:Hx (∀ W2,Ov W W2->Calls Tryz.prog 206 #[zj (some ⟨bj,0,none⟩),U zd (who:Int)] W2 fun e W'=>e=zk (zg r)/\Ov W2 W')) :
  Calls Tryz.prog 205 #[U zd (who:Int),zj (some ⟨b1,0,none⟩),zj (some ⟨b2,0,none⟩),zj (some ⟨b3,0,none⟩)] W fun e W'=>e=zk (zg ((l1[who]?.getD false || l2[who]?.getD false) && !r))/\Ov W W':=by
 obtain ⟨u1,k1,rfl,e1⟩:=h1
 obtain ⟨c1,o1,rfl,w1⟩:=e1 (by rintro rfl;simp at n1;omega)
 obtain ⟨u2,k2,rfl,e2⟩:=h2
 obtain ⟨c2,o2,rfl,w2⟩:=e2 (by rintro rfl;simp at n2;omega)
 have x1:=w1 who (by omega)
 have x2:=w2 who (by omega)
 rw [n1] at z1
 rw [n2] at z2
 rw [List.getElem?_eq_getElem (by omega:who < l1.length),List.getElem?_eq_getElem (by omega:who < l2.length)]
 simp only [Option.getD_some]
 generalize l1[who]'(by omega)=x at x1 ⊢
 generalize l2[who]'(by omega)=y at x2 ⊢
 have g1:(who:Int) < (n:Int):=by omega
 clear e1 e2 w1 w2 n1 n2
 cases x with
 | true=>
  go_enter Tryz.func205,Tryz.ntmps205
  go_wp2_with fail
  refine (KA.o _ (Below.refl _ _)).mono ?_
  rintro e W2 ⟨rfl,hb2⟩
  go_wp2_with fail
  go_ret
  exact ⟨by first | rfl | simp,hb2⟩
 | false=>
  cases y with
  | true=>
   go_enter Tryz.func205,Tryz.ntmps205
   go_wp2_with fail
   refine (KA.o _ (Below.refl _ _)).mono ?_
   rintro e W2 ⟨rfl,hb2⟩
   go_wp2_with fail
   go_ret
   exact ⟨by first | rfl | simp,hb2⟩
  | false=>
   go_enter Tryz.func205,Tryz.ntmps205
   go_wp2_with fail
   go_ret
   exact ⟨by first | rfl | simp,Below.refl _ _⟩
theorem Gv (args:Array Value) (w:World):(callFunc 205 args).run Tryz.prog w=.ok (.enter 205 args) w:=by simp [go_sem]
section
variable (n K:Nat) (gn:List (Nat × Nat)) (sp:List Int) (Ls:List Lev) (vs:List (Bool × Lab)) (ins outs:List Lab) (fs:List FnD)
def DV (v:Int):Bool × Lab:=vs.getD v.toNat (false,⟨[],[]⟩)
def FK (d:D):Lev:=AZ n Ls (Bw n) (AF K (AV d))
def toL (d:D):Lev:=Ls.getD (AK d).toNat AE
def Ep (a:Int) (d:D) (p:Lev) (fl:List (Int × Int)):List (Int × Int):=
 addF a 8 (addF a 7 (addF a 6 (addF a 5 fl (!Ay p (toL Ls d) n)) ((DV vs (AK d)).2.w.any fun q=>EI gn n sp q.owner.toNat)) (!(DV vs (AK d)).1))
  ((List.range n).any fun i=>(toL Ls d).r[i]?.getD false && !((FK n K Ls d).r[i]?.getD false))
def DB (a:Int) (d:D) (p:Lev) (fl:List (Int × Int)):List (Int × Int):=
 addF a 9 (addF a 8 (addF a 7 (addF a 6 (addF a 5 fl (!Ay p (toL Ls d) n)) ((AF K (AV d)).any fun v=>(DV vs v).2.r.any fun q=>EI gn n sp q.owner.toNat)) ((AF K (AV d)).any fun v=>!(DV vs v).1))
  ((List.range n).any fun i=>(FK n K Ls d).w[i]?.getD false && !((toL Ls d).w[i]?.getD false)))
  ((List.range n).any fun i=>((FK n K Ls d).w[i]?.getD false || p.w[i]?.getD false) && !IE gn n sp i)
def CD (a:Int) (d:D) (p:Lev) (fl:List (Int × Int)):List (Int × Int):=
 if Am d=1 then addF a 1 fl (!Ay (AZ n Ls p (AF K (AV d))) (Ls.getD (AK d).toNat AE) n)
 else if Am d=2 then addF a 2 fl (!DJ n K Ls (EP fs (Ah d)) d p)
 else if Am d=3 then addF a 3 fl (!Ay (Bs (AA gn n (ins.getD (Ah d).toNat ⟨[],[]⟩)) p n) (Ls.getD (AK d).toNat AE) n || !Ay p (AA gn n (ins.getD (Ah d).toNat ⟨[],[]⟩)) n)
 else if Am d=4 then addF a 4 fl (!Ay (AZ n Ls p (AF K (AV d))) (AA gn n (outs.getD (Ah d).toNat ⟨[],[]⟩)) n)
 else if Am d=5 then DB n K gn sp Ls vs a d p fl
 else if Am d=6 then Ep n K gn sp Ls vs a d p fl
 else fl
theorem A8 (a k:Int) (fl) (b:Bool):(addF a k fl b).length<=fl.length+1:=by
 cases b <;> simp [addF]
theorem Jv (a:Int) (d p fl):(CD n K gn sp Ls vs ins outs fs a d p fl).length<=fl.length+5:=by
 unfold CD
 split
 ·exact Nat.le_trans (A8 _ _ _ _) (by omega)
 split
 ·exact Nat.le_trans (A8 _ _ _ _) (by omega)
 split
 ·exact Nat.le_trans (A8 _ _ _ _) (by omega)
 split
 ·exact Nat.le_trans (A8 _ _ _ _) (by omega)
 split
 ·unfold DB
  refine Nat.le_trans (A8 _ _ _ _) (Nat.succ_le_succ ?_)
  refine Nat.le_trans (A8 _ _ _ _) (Nat.succ_le_succ ?_)
  refine Nat.le_trans (A8 _ _ _ _) (Nat.succ_le_succ ?_)
  refine Nat.le_trans (A8 _ _ _ _) (Nat.succ_le_succ ?_)
  exact A8 _ _ _ _
 split
 ·unfold Ep
  refine Nat.le_trans (A8 _ _ _ _) (Nat.succ_le_succ ?_)
  refine Nat.le_trans (A8 _ _ _ _) (Nat.succ_le_succ ?_)
  refine Nat.le_trans (A8 _ _ _ _) (Nat.succ_le_succ ?_)
  exact Nat.le_trans (A8 _ _ _ _) (by omega)
 ·omega
def pmJ (a:Int) (fl:List (Int × Int)):Prop:=(fl.length:Int)<=5*a
theorem Ot:JQ pmJ (CD n K gn sp Ls vs ins outs fs):=
 ⟨fun a d p st h=>by
  have:=Jv n K gn sp Ls vs ins outs fs a d p st
  unfold pmJ at h ⊢
  omega,fun a b st hab h=>by unfold pmJ at h ⊢;omega⟩
end
def Fi (c:WC) (w0:World) (bj:Nat) (av:Value) (K nv ni no:Nat) (fs:List FnD) (kd:Int) (stp:Int->D->Lev->List (Int × Int)->List (Int × Int)) (F:FuncId):Prop:=
 ∀ (fl:List (Int × Int)) (fv:Value) (s:Nat) (a:Int) (k:Nat) (cs lv:List Value) (d:D) (p:Lev) (funcs:Int) (W:World),fl.length<=900->AW c.cs w0 bj av fl fv W->D8 bj s a cs lv W->AY c.n (XJ bj) W (.agg lv.toArray) p->RS w0 K (k+1) cs d->CJ K nv ni no funcs fs d->Am d=kd ->
  Calls Tryz.prog F #[zj (some ⟨bj,0,none⟩),.agg cs.toArray,.agg lv.toArray,.func (.func 149) #[] #[zj (some ⟨s,0,none⟩),zj (some ⟨s+1,0,none⟩)]] W fun e W'=>e=zk (zm #[])/\(∃ fv',AW c.cs w0 bj av (stp a d p fl) fv' W')/\FrW (XJ bj) W W'
theorem NX (c) (w0:World) (bj:Nat) (av:Value) (gs Ls Fs) (J:JSt c w0 gs Ls Fs) (sp) (A:JAc c w0 av (AD gs) sp) (K ni no:Nat) (fs vs) (hvs:Br w0 (O c.va c.vn c.vc) vs) (hvn:vs.length=Ls.length) (hvc:∀ v∈vs,Bo c.n gs v.2=0) (ls) (hls:Bb w0 (O c.ya c.yn c.yc) ls) (hlc:∀ b∈ls,Bo c.n gs b=0) (hni:ls.length=ni) (hni5:ni<=5) (os) (hos:Bb w0 (O c.oa c.on c.oc) os) (hoc:∀ b∈os,Bo c.n gs b=0) (hno:os.length=no) (hno5:no<=5)
  (fl:List (Int × Int)) (hfl:fl.length<=900) (fv:Value) (W:World) (a:Int) (k:Nat) (cs:List Value) (d:D) (v:Value) (p:Lev) (funcs:Int) (h:AW c.cs w0 bj av fl fv W) (hrs:RS w0 K (k+1) cs d) (hok:CJ K Ls.length ni no funcs fs d) (hl:AY c.n (XJ bj) W v p) (stp:Int->D->Lev->List (Int × Int)->List (Int × Int)) (hT:Fi c w0 bj av K Ls.length ni no fs 5 stp 152) (hk:Am d=5) :
  Calls Tryz.prog 88 #[zj (some ⟨bj,0,none⟩),U zd a,.agg cs.toArray,v] W fun e W'=>e=zk (zm #[])/\(∃ fv',AW c.cs w0 bj av (stp a d p fl) fv' W')/\FrW (XJ bj) W W':=by
 have hrs':=hrs
 have hTell:=hT
 clear hT
 obtain ⟨p1,q1,r1,p2,q2,r2,rfl⟩:=hl.form
 obtain ⟨ek,en,xa,xl,xc,aa,ac,ta,tc,ea,ec,rfl,i0,i1,i2,hX,hA,hT,hE,-,-,-⟩:=hrs.form
 have hkd:sC (Am d) (AK d) (Ah d) ek en xa xl xc aa (Ap d).length ac ta (Av d).length tc ea (Ax d).length ec=sC 5 (AK d) (Ah d) ek en xa xl xc aa (Ap d).length ac ta (Av d).length tc ea (Ax d).length ec:=by rw [hk]
 rw [hkd]
 clear hkd
 obtain ⟨vr,hvr⟩:=nm (AK d)
 obtain ⟨ot,hot⟩:=nm (Ah d)
 obtain ⟨al,hal⟩:=nm ((Ap d).length)
 obtain ⟨tl,htl⟩:=nm ((Av d).length)
 obtain ⟨el,hel⟩:=nm ((Ax d).length)
 rw [<-hvr,<-hot,<-hal,<-htl,<-hel]
 obtain ⟨hbox,hb⟩:=Da bj a [U zd 5,U zd vr,U zd ot,U zd ek,U zd en,O xa xl xc,O aa al ac,O ta tl tc,O ea el ec] [O p1 q1 r1,O p2 q2 r2] W (fun k hk=>(h.xlt k hk).2)
 have hF1:=FrW.of_below (Aj bj) hb
 have hFD:=hF1.trans (FrW.of_below (Aj bj) (bD _))
 have HF1:=Aa hF1
 have HJ1:=Aa (h.over hb)
 have HBX1:=Aa hbox
 have HL1:=Aa (hl.keep J.n1 hF1)
 have HJD:=Aa (HJ1.o.over (bD _))
 have HBXD:=Aa (hbox.keep (FrW.of_below (Aj bj) (bD _)))
 have HLD:=Aa (hl.keep J.n1 hFD)
 have HFD:=Aa hFD
 have hkd:sC (Am d) (AK d) (Ah d) ek en xa xl xc aa (Ap d).length ac ta (Av d).length tc ea (Ax d).length ec=sC 5 vr ot ek en xa xl xc aa al ac ta tl tc ea el ec:=by rw [hk,hvr,hot,hal,htl,hel]
 rw [hkd] at hrs'
 have KC:=Aa (fun (W2:World) (h2:AW c.cs w0 bj av fl fv W2) (hb2:D8 bj W.heap.size a [U zd 5,U zd vr,U zd ot,U zd ek,U zd en,O xa xl xc,O aa al ac,O ta tl tc,O ea el ec] [O p1 q1 r1,O p2 q2 r2] W2) (hl2:AY c.n (XJ bj) W2 (zh #[O p1 q1 r1,O p2 q2 r2]) p)=>hTell fl fv W.heap.size a k _ [O p1 q1 r1,O p2 q2 r2] d p funcs W2 hfl h2 hb2 hl2 hrs' hok hk)
 have HS:Hx (∀ (W2:World),D8 bj W.heap.size a [U zd 5,U zd vr,U zd ot,U zd ek,U zd en,O xa xl xc,O aa al ac,O ta tl tc,O ea el ec] [O p1 q1 r1,O p2 q2 r2] W2->CE W2 W.heap.size 0 (zj (some ⟨bj,0,none⟩))/\CE W2 (W.heap.size+1+1) 0 (U zd 5)/\CE W2 (W.heap.size+1+1) 1 (U zd vr)/\CE W2 (W.heap.size+1+1) 2 (U zd ot)/\CE W2 (W.heap.size+1+1) 3 (U zd ek)/\CE W2 (W.heap.size+1+1) 4 (U zd en)/\CE W2 (W.heap.size+1+1) 5 (O xa xl xc)/\CE W2 (W.heap.size+1+1) 6 (O aa al ac)/\CE W2 (W.heap.size+1+1) 7 (O ta tl tc)/\CE W2 (W.heap.size+1+1) 8 (O ea el ec)/\CE W2 (W.heap.size+1+1+1) 0 (O p1 q1 r1)/\CE W2 (W.heap.size+1+1+1) 1 (O p2 q2 r2)):=fun W2 hb2=>⟨hb2.j,hb2.st 0 _ rfl,hb2.st 1 _ rfl,hb2.st 2 _ rfl,hb2.st 3 _ rfl,hb2.st 4 _ rfl,hb2.st 5 _ rfl,hb2.st 6 _ rfl,hb2.st 7 _ rfl,hb2.st 8 _ rfl,hb2.lv 0 _ rfl,hb2.lv 1 _ rfl⟩
 obtain ⟨t0,t1,t2,t3,t4,t5,t6,t7,t8,t9,t10,t11⟩:=HS.o _ HBX1.o
 clear hkd hrs' hvr hot hal htl hel hbox hb hF1 hFD h hl hrs hX hA hT hE hok J A hvs hvc hls hlc hos hoc hfl hk i0 i1 i2 hTell
 go_enter Tryz.func88,Tryz.ntmps88
 go_wp2_with fail
 refine (KC.o _ HJ1.o HBX1.o HL1.o).mono ?_
 rintro e W3 ⟨rfl,hJ3,hF3⟩
 have HJ3:=Aa hJ3
 have HF3:=Aa (HF1.o.trans hF3)
 clear hJ3 hF3
 go_wp2_with fail
 go_end0
 exact ⟨rfl,HJ3.o,HF3.o⟩
theorem NW (c) (w0:World) (bj:Nat) (av:Value) (gs Ls Fs) (J:JSt c w0 gs Ls Fs) (sp) (A:JAc c w0 av (AD gs) sp) (K ni no:Nat) (fs vs) (hvs:Br w0 (O c.va c.vn c.vc) vs) (hvn:vs.length=Ls.length) (hvc:∀ v∈vs,Bo c.n gs v.2=0) (ls) (hls:Bb w0 (O c.ya c.yn c.yc) ls) (hlc:∀ b∈ls,Bo c.n gs b=0) (hni:ls.length=ni) (hni5:ni<=5) (os) (hos:Bb w0 (O c.oa c.on c.oc) os) (hoc:∀ b∈os,Bo c.n gs b=0) (hno:os.length=no) (hno5:no<=5)
  (fl:List (Int × Int)) (hfl:fl.length<=900) (fv:Value) (W:World) (a:Int) (k:Nat) (cs:List Value) (d:D) (v:Value) (p:Lev) (funcs:Int) (h:AW c.cs w0 bj av fl fv W) (hrs:RS w0 K (k+1) cs d) (hok:CJ K Ls.length ni no funcs fs d) (hl:AY c.n (XJ bj) W v p) (stp:Int->D->Lev->List (Int × Int)->List (Int × Int)) (hT:Fi c w0 bj av K Ls.length ni no fs 6 stp 153) (hk:Am d=6) :
  Calls Tryz.prog 88 #[zj (some ⟨bj,0,none⟩),U zd a,.agg cs.toArray,v] W fun e W'=>e=zk (zm #[])/\(∃ fv',AW c.cs w0 bj av (stp a d p fl) fv' W')/\FrW (XJ bj) W W':=by
 have hrs':=hrs
 have hTell:=hT
 clear hT
 obtain ⟨p1,q1,r1,p2,q2,r2,rfl⟩:=hl.form
 obtain ⟨ek,en,xa,xl,xc,aa,ac,ta,tc,ea,ec,rfl,i0,i1,i2,hX,hA,hT,hE,-,-,-⟩:=hrs.form
 have hkd:sC (Am d) (AK d) (Ah d) ek en xa xl xc aa (Ap d).length ac ta (Av d).length tc ea (Ax d).length ec=sC 6 (AK d) (Ah d) ek en xa xl xc aa (Ap d).length ac ta (Av d).length tc ea (Ax d).length ec:=by rw [hk]
 rw [hkd]
 clear hkd
 obtain ⟨vr,hvr⟩:=nm (AK d)
 obtain ⟨ot,hot⟩:=nm (Ah d)
 obtain ⟨al,hal⟩:=nm ((Ap d).length)
 obtain ⟨tl,htl⟩:=nm ((Av d).length)
 obtain ⟨el,hel⟩:=nm ((Ax d).length)
 rw [<-hvr,<-hot,<-hal,<-htl,<-hel]
 obtain ⟨hbox,hb⟩:=Da bj a [U zd 6,U zd vr,U zd ot,U zd ek,U zd en,O xa xl xc,O aa al ac,O ta tl tc,O ea el ec] [O p1 q1 r1,O p2 q2 r2] W (fun k hk=>(h.xlt k hk).2)
 have hF1:=FrW.of_below (Aj bj) hb
 have hFD:=hF1.trans (FrW.of_below (Aj bj) (bD _))
 have HF1:=Aa hF1
 have HJ1:=Aa (h.over hb)
 have HBX1:=Aa hbox
 have HL1:=Aa (hl.keep J.n1 hF1)
 have HJD:=Aa (HJ1.o.over (bD _))
 have HBXD:=Aa (hbox.keep (FrW.of_below (Aj bj) (bD _)))
 have HLD:=Aa (hl.keep J.n1 hFD)
 have HFD:=Aa hFD
 have hkd:sC (Am d) (AK d) (Ah d) ek en xa xl xc aa (Ap d).length ac ta (Av d).length tc ea (Ax d).length ec=sC 6 vr ot ek en xa xl xc aa al ac ta tl tc ea el ec:=by rw [hk,hvr,hot,hal,htl,hel]
 rw [hkd] at hrs'
 have KC:=Aa (fun (W2:World) (h2:AW c.cs w0 bj av fl fv W2) (hb2:D8 bj W.heap.size a [U zd 6,U zd vr,U zd ot,U zd ek,U zd en,O xa xl xc,O aa al ac,O ta tl tc,O ea el ec] [O p1 q1 r1,O p2 q2 r2] W2) (hl2:AY c.n (XJ bj) W2 (zh #[O p1 q1 r1,O p2 q2 r2]) p)=>hTell fl fv W.heap.size a k _ [O p1 q1 r1,O p2 q2 r2] d p funcs W2 hfl h2 hb2 hl2 hrs' hok hk)
 have HS:Hx (∀ (W2:World),D8 bj W.heap.size a [U zd 6,U zd vr,U zd ot,U zd ek,U zd en,O xa xl xc,O aa al ac,O ta tl tc,O ea el ec] [O p1 q1 r1,O p2 q2 r2] W2->CE W2 W.heap.size 0 (zj (some ⟨bj,0,none⟩))/\CE W2 (W.heap.size+1+1) 0 (U zd 6)/\CE W2 (W.heap.size+1+1) 1 (U zd vr)/\CE W2 (W.heap.size+1+1) 2 (U zd ot)/\CE W2 (W.heap.size+1+1) 3 (U zd ek)/\CE W2 (W.heap.size+1+1) 4 (U zd en)/\CE W2 (W.heap.size+1+1) 5 (O xa xl xc)/\CE W2 (W.heap.size+1+1) 6 (O aa al ac)/\CE W2 (W.heap.size+1+1) 7 (O ta tl tc)/\CE W2 (W.heap.size+1+1) 8 (O ea el ec)/\CE W2 (W.heap.size+1+1+1) 0 (O p1 q1 r1)/\CE W2 (W.heap.size+1+1+1) 1 (O p2 q2 r2)):=fun W2 hb2=>⟨hb2.j,hb2.st 0 _ rfl,hb2.st 1 _ rfl,hb2.st 2 _ rfl,hb2.st 3 _ rfl,hb2.st 4 _ rfl,hb2.st 5 _ rfl,hb2.st 6 _ rfl,hb2.st 7 _ rfl,hb2.st 8 _ rfl,hb2.lv 0 _ rfl,hb2.lv 1 _ rfl⟩
 obtain ⟨t0,t1,t2,t3,t4,t5,t6,t7,t8,t9,t10,t11⟩:=HS.o _ HBX1.o
 clear hkd hrs' hvr hot hal htl hel hbox hb hF1 hFD h hl hrs hX hA hT hE hok J A hvs hvc hls hlc hos hoc hfl hk i0 i1 i2 hTell
 go_enter Tryz.func88,Tryz.ntmps88
 go_wp2_with fail
 refine (KC.o _ HJ1.o HBX1.o HL1.o).mono ?_
 rintro e W3 ⟨rfl,hJ3,hF3⟩
 have HJ3:=Aa hJ3
 have HF3:=Aa (HF1.o.trans hF3)
 clear hJ3 hF3
 go_wp2_with fail
 go_end0
 exact ⟨rfl,HJ3.o,HF3.o⟩
theorem jDo (c) (w0:World) (bj:Nat) (av:Value) (gs Ls Fs) (J:JSt c w0 gs Ls Fs) (sp) (A:JAc c w0 av (AD gs) sp) (K ni no:Nat) (fs vs) (hvs:Br w0 (O c.va c.vn c.vc) vs) (hvn:vs.length=Ls.length) (hvc:∀ v∈vs,Bo c.n gs v.2=0) (ls) (hls:Bb w0 (O c.ya c.yn c.yc) ls) (hlc:∀ b∈ls,Bo c.n gs b=0) (hni:ls.length=ni) (hni5:ni<=5) (os) (hos:Bb w0 (O c.oa c.on c.oc) os) (hoc:∀ b∈os,Bo c.n gs b=0) (hno:os.length=no) (hno5:no<=5)
  (kf:Nat) (hfs:BC w0 K kf (O c.fa c.fn c.fc) fs) (hf5:fs.length<=5) (hof:∀ i (h:i < fs.length),okF K Ls.length ni no (i:Int) fs kf fs[i])
  (hR:Fi c w0 bj av K Ls.length ni no fs 5 (DB c.n K (AD gs) sp Ls vs) 152) (hT:Fi c w0 bj av K Ls.length ni no fs 6 (Ep c.n K (AD gs) sp Ls vs) 153) :
  Nu c w0 K Ls.length ni no fs (fun fl W=>∃ fv,AW c.cs w0 bj av fl fv W) (XJ bj) (CD c.n K (AD gs) sp Ls vs ls os fs) 88 [zj (some ⟨bj,0,none⟩)] [] pmJ:=by
 rintro fl W a k cs d v p funcs ⟨fv,h⟩ hrs hfn hok hl h0 h100 hpm
 have hfl:fl.length<=900:=by unfold pmJ at hpm;omega
 have hk:=hok.1
 show Calls Tryz.prog 88 #[zj (some ⟨bj,0,none⟩),U zd a,.agg cs.toArray,v] W _
 unfold CD
 rcases (by omega:Am d=1\/Am d=2\/Am d=3\/Am d=4\/Am d=5\/Am d=6\/(Am d=7\/Am d=8)) with hk | hk | hk | hk | hk | hk | hk
 ·rw [if_pos hk]
  exact N7 c w0 bj av gs Ls Fs J sp A K ni no fs vs hvs hvn hvc ls hls hlc hni hni5 os hos hoc hno hno5 fl hfl fv W a k cs d v p funcs h hrs hok hl hk
 ·rw [if_neg (by omega),if_pos hk]
  exact N0 c w0 bj av gs Ls Fs J sp A K ni no fs vs hvs hvn hvc ls hls hlc hni hni5 os hos hoc hno hno5 fl hfl fv W a k cs d v p funcs h hrs hok hl kf hfs hf5 hof hfn hk
 ·rw [if_neg (by omega),if_neg (by omega),if_pos hk]
  exact NZ c w0 bj av gs Ls Fs J sp A K ni no fs vs hvs hvn hvc ls hls hlc hni hni5 os hos hoc hno hno5 fl hfl fv W a k cs d v p funcs h hrs hok hl hk
 ·rw [if_neg (by omega),if_neg (by omega),if_neg (by omega),if_pos hk]
  exact NY c w0 bj av gs Ls Fs J sp A K ni no fs vs hvs hvn hvc ls hls hlc hni hni5 os hos hoc hno hno5 fl hfl fv W a k cs d v p funcs h hrs hok hl hk
 ·rw [if_neg (by omega),if_neg (by omega),if_neg (by omega),if_neg (by omega),if_pos hk]
  exact NX c w0 bj av gs Ls Fs J sp A K ni no fs vs hvs hvn hvc ls hls hlc hni hni5 os hos hoc hno hno5 fl hfl fv W a k cs d v p funcs h hrs hok hl _ hR hk
 ·rw [if_neg (by omega),if_neg (by omega),if_neg (by omega),if_neg (by omega),if_neg (by omega),if_pos hk]
  exact NW c w0 bj av gs Ls Fs J sp A K ni no fs vs hvs hvn hvc ls hls hlc hni hni5 os hos hoc hno hno5 fl hfl fv W a k cs d v p funcs h hrs hok hl _ hT hk
 ·rw [if_neg (by omega),if_neg (by omega),if_neg (by omega),if_neg (by omega),if_neg (by omega),if_neg (by omega)]
  exact N8 c w0 bj av gs Ls Fs J sp A K ni no fs vs hvs hvn hvc ls hls hlc hni hni5 os hos hoc hno hno5 fl hfl fv W a k cs d v p funcs h hrs hok hl hk
end Go.Proofs.YtfffpjkcfnekaaaGreat.Ex
