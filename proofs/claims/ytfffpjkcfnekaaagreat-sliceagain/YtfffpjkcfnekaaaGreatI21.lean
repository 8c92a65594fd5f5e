/- One who judges: what is asked of an actor. -/
import Derived.Test.YtfffpjkcfnekaaaGreatI20
set_option linter.unusedVariables false
set_option maxHeartbeats 8000000
set_option maxRecDepth 100000
namespace Go.Proofs.YtfffpjkcfnekaaaGreat.Ex
open Go.RowKit
open Go.Value renaming slice -> O, int -> zd, bool -> zg, agg -> zh, pointer -> zj, tuple -> zm
open Go.IntKind renaming i64 -> U
open Go.Obj renaming cells -> ze
open Go.Ending renaming returned -> zk
theorem PA (n who b1 b2:Nat) (v1 v2:Value) (l1 l2:List Bool) (W:World) (h6:n<=6) (hw:who < n) (z1:W.cell? ⟨b1,0,none⟩=some v1) (z2:W.cell? ⟨b2,0,none⟩=some v2) (h1:A3 W v1 l1) (n1:l1.length=n) (h2:A3 W v2 l2) (n2:l2.length=n) :
  Calls Tryz.prog 207 #[zd U (who:Int),zj (some ⟨b1,0,none⟩),zj (some ⟨b2,0,none⟩)] W fun e W'=>e=zk (zg (l1[who]?.getD false && !(l2[who]?.getD false)))/\Ov W W':=by
 obtain ⟨u1,l,rfl,q⟩:=h1;obtain ⟨c1,d,rfl,i⟩:=q (by rintro rfl;simp at n1;omega);obtain ⟨u2,k,rfl,p⟩:=h2;obtain ⟨f,c,rfl,g⟩:=p (by rintro rfl;simp at n2;omega);have x1:=i who (by omega);have x2:=g who (by omega);rw [n1] at z1;rw [n2] at z2;rw [List.getElem?_eq_getElem (by omega:who < l1.length),List.getElem?_eq_getElem (by omega:who < l2.length)];simp only [Option.getD_some];generalize l1[who]'(by omega)=x at x1 ⊢;generalize l2[who]'(by omega)=y at x2 ⊢;have s:(who:Int) < (n:Int):=by omega
 clear q p i g n1 n2
 cases x with
 | true=>
  have b:CE W b1 0 (O (some ⟨c1,d,none⟩) n l)/\CE W b2 0 (O (some ⟨f,c,none⟩) n k)/\CE W c1 (d+who) (zg true)/\CE W f (c+who) (zg y):=⟨z1,z2,x1,x2⟩;clear b;go_enter Tryz.func207,Tryz.ntmps207;go_wp2_with fail;go_ret;exact ⟨by first | rfl | simp,Below.refl _ _⟩
 | false=>
  have b:CE W b1 0 (O (some ⟨c1,d,none⟩) n l)/\CE W b2 0 (O (some ⟨f,c,none⟩) n k)/\CE W c1 (d+who) (zg false)/\CE W f (c+who) (zg y):=⟨z1,z2,x1,x2⟩;clear b;go_enter Tryz.func207,Tryz.ntmps207;go_wp2_with fail;go_ret;exact ⟨by first | rfl | simp,Below.refl _ _⟩
theorem Jp (args:Array Value) (w:World):(callFunc 207 args).run Tryz.prog w=.ok (.enter 207 args) w:=by simp [go_sem]
theorem OC (n who b1 b2:Nat) (v1 v2:Value) (l1 l2:List Bool) (W:World) (h6:n<=6) (hw:who < n) (z1:W.cell? ⟨b1,1,none⟩=some v1) (z2:W.cell? ⟨b2,1,none⟩=some v2) (h1:A3 W v1 l1) (n1:l1.length=n) (h2:A3 W v2 l2) (n2:l2.length=n) :
  Calls Tryz.prog 204 #[zd U (who:Int),zj (some ⟨b1,0,none⟩),zj (some ⟨b2,0,none⟩)] W fun e W'=>e=zk (zg (l1[who]?.getD false && !(l2[who]?.getD false)))/\Ov W W':=by
 obtain ⟨u1,l,rfl,q⟩:=h1;obtain ⟨c1,d,rfl,i⟩:=q (by rintro rfl;simp at n1;omega);obtain ⟨u2,k,rfl,p⟩:=h2;obtain ⟨f,c,rfl,g⟩:=p (by rintro rfl;simp at n2;omega);have x1:=i who (by omega);have x2:=g who (by omega);rw [n1] at z1;rw [n2] at z2;rw [List.getElem?_eq_getElem (by omega:who < l1.length),List.getElem?_eq_getElem (by omega:who < l2.length)];simp only [Option.getD_some];generalize l1[who]'(by omega)=x at x1 ⊢;generalize l2[who]'(by omega)=y at x2 ⊢;have s:(who:Int) < (n:Int):=by omega
 clear q p i g n1 n2
 cases x with
 | true=>
  have b:CE W b1 1 (O (some ⟨c1,d,none⟩) n l)/\CE W b2 1 (O (some ⟨f,c,none⟩) n k)/\CE W c1 (d+who) (zg true)/\CE W f (c+who) (zg y):=⟨z1,z2,x1,x2⟩;clear b;go_enter Tryz.func204,Tryz.ntmps204;go_wp2_with fail;go_ret;exact ⟨by first | rfl | simp,Below.refl _ _⟩
 | false=>
  have b:CE W b1 1 (O (some ⟨c1,d,none⟩) n l)/\CE W b2 1 (O (some ⟨f,c,none⟩) n k)/\CE W c1 (d+who) (zg false)/\CE W f (c+who) (zg y):=⟨z1,z2,x1,x2⟩;clear b;go_enter Tryz.func204,Tryz.ntmps204;go_wp2_with fail;go_ret;exact ⟨by first | rfl | simp,Below.refl _ _⟩
theorem H9 (args:Array Value) (w:World):(callFunc 204 args).run Tryz.prog w=.ok (.enter 204 args) w:=by simp [go_sem]
theorem OB (n who b1 b2 b3 bj:Nat) (v1 v2:Value) (l1 l2:List Bool) (r:Bool) (W:World) (h6:n<=6) (hw:who < n) (z1:W.cell? ⟨b1,1,none⟩=some v1) (z2:W.cell? ⟨b2,1,none⟩=some v2) (z3:W.cell? ⟨b3,0,none⟩=some (zj (some ⟨bj,0,none⟩))) (h1:A3 W v1 l1) (n1:l1.length=n) (h2:A3 W v2 l2) (n2:l2.length=n)
  (KA:Hx (∀ W2,Ov W W2->Calls Tryz.prog 206 #[zj (some ⟨bj,0,none⟩),zd U (who:Int)] W2 fun e W'=>e=zk (zg r)/\Ov W2 W')) :
  Calls Tryz.prog 205 #[zd U (who:Int),zj (some ⟨b1,0,none⟩),zj (some ⟨b2,0,none⟩),zj (some ⟨b3,0,none⟩)] W fun e W'=>e=zk (zg ((l1[who]?.getD false || l2[who]?.getD false) && !r))/\Ov W W':=by
 obtain ⟨u1,p,rfl,g⟩:=h1;obtain ⟨c1,k,rfl,d⟩:=g (by rintro rfl;simp at n1;omega);obtain ⟨u2,l,rfl,f⟩:=h2;obtain ⟨s,i,rfl,c⟩:=f (by rintro rfl;simp at n2;omega);have x1:=d who (by omega);have x2:=c who (by omega);rw [n1] at z1;rw [n2] at z2;rw [List.getElem?_eq_getElem (by omega:who < l1.length),List.getElem?_eq_getElem (by omega:who < l2.length)];simp only [Option.getD_some];generalize l1[who]'(by omega)=x at x1 ⊢;generalize l2[who]'(by omega)=y at x2 ⊢;have q:(who:Int) < (n:Int):=by omega
 clear g f d c n1 n2
 cases x with
 | true=>
  go_enter Tryz.func205,Tryz.ntmps205;go_wp2_with fail;refine (KA.o _ (Below.refl _ _)).mono ?_;rintro e W2 ⟨rfl,b⟩;go_wp2_with fail;go_ret;exact ⟨by first | rfl | simp,b⟩
 | false=>
  cases y with
  | true=>
   go_enter Tryz.func205,Tryz.ntmps205;go_wp2_with fail;refine (KA.o _ (Below.refl _ _)).mono ?_;rintro e W2 ⟨rfl,b⟩;go_wp2_with fail;go_ret;exact ⟨by first | rfl | simp,b⟩
  | false=>
   go_enter Tryz.func205,Tryz.ntmps205;go_wp2_with fail;go_ret;exact ⟨by first | rfl | simp,Below.refl _ _⟩
theorem H8 (args:Array Value) (w:World):(callFunc 205 args).run Tryz.prog w=.ok (.enter 205 args) w:=by simp [go_sem]
section
variable (n K:Nat) (gn:List (Nat × Nat)) (sp:List Int) (Ls:List Lev) (vs:List (Bool × Lab)) (ins outs:List Lab) (fs:List FnD)
def Ee (v:Int):Bool × Lab:=vs.getD v.toNat (false,⟨[],[]⟩)
def Gc (d:D):Lev:=AY n Ls (BS n) (Ar K (Ao d))
def toL (d:D):Lev:=Ls.getD (Ax d).toNat AL
def Ef (a:Int) (d:D) (p:Lev) (fl:List (Int × Int)):List (Int × Int):=
 addF a 8 (addF a 7 (addF a 6 (addF a 5 fl (!Aw p (toL Ls d) n)) ((Ee vs (Ax d)).2.w.any fun q=>Fw gn n sp q.owner.toNat)) (!(Ee vs (Ax d)).1))
  ((List.range n).any fun i=>(toL Ls d).r[i]?.getD false && !((Gc n K Ls d).r[i]?.getD false))
def Dv (a:Int) (d:D) (p:Lev) (fl:List (Int × Int)):List (Int × Int):=
 addF a 9 (addF a 8 (addF a 7 (addF a 6 (addF a 5 fl (!Aw p (toL Ls d) n)) ((Ar K (Ao d)).any fun v=>(Ee vs v).2.r.any fun q=>Fw gn n sp q.owner.toNat)) ((Ar K (Ao d)).any fun v=>!(Ee vs v).1))
  ((List.range n).any fun i=>(Gc n K Ls d).w[i]?.getD false && !((toL Ls d).w[i]?.getD false)))
  ((List.range n).any fun i=>((Gc n K Ls d).w[i]?.getD false || p.w[i]?.getD false) && !Kc gn n sp i)
def Cn (a:Int) (d:D) (p:Lev) (fl:List (Int × Int)):List (Int × Int):=
 if Af d=1 then addF a 1 fl (!Aw (AY n Ls p (Ar K (Ao d))) (Ls.getD (Ax d).toNat AL) n)
 else if Af d=2 then addF a 2 fl (!DF n K Ls (Bv fs (Ae d)) d p)
 else if Af d=3 then addF a 3 fl (!Aw (BH (AH gn n (ins.getD (Ae d).toNat ⟨[],[]⟩)) p n) (Ls.getD (Ax d).toNat AL) n || !Aw p (AH gn n (ins.getD (Ae d).toNat ⟨[],[]⟩)) n)
 else if Af d=4 then addF a 4 fl (!Aw (AY n Ls p (Ar K (Ao d))) (AH gn n (outs.getD (Ae d).toNat ⟨[],[]⟩)) n)
 else if Af d=5 then Dv n K gn sp Ls vs a d p fl
 else if Af d=6 then Ef n K gn sp Ls vs a d p fl
 else fl
theorem A2 (a k:Int) (fl) (b:Bool):(addF a k fl b).length<=fl.length+1:=by
 cases b <;> simp [addF]
theorem LN (a:Int) (d p fl):(Cn n K gn sp Ls vs ins outs fs a d p fl).length<=fl.length+5:=by
 unfold Cn;split
 ·exact Nat.le_trans (A2 _ _ _ _) (by omega)
 split
 ·exact Nat.le_trans (A2 _ _ _ _) (by omega)
 split
 ·exact Nat.le_trans (A2 _ _ _ _) (by omega)
 split
 ·exact Nat.le_trans (A2 _ _ _ _) (by omega)
 split
 ·unfold Dv
  refine Nat.le_trans (A2 _ _ _ _) (Nat.succ_le_succ ?_);refine Nat.le_trans (A2 _ _ _ _) (Nat.succ_le_succ ?_);refine Nat.le_trans (A2 _ _ _ _) (Nat.succ_le_succ ?_);refine Nat.le_trans (A2 _ _ _ _) (Nat.succ_le_succ ?_);exact A2 _ _ _ _
 split
 ·unfold Ef
  refine Nat.le_trans (A2 _ _ _ _) (Nat.succ_le_succ ?_);refine Nat.le_trans (A2 _ _ _ _) (Nat.succ_le_succ ?_);refine Nat.le_trans (A2 _ _ _ _) (Nat.succ_le_succ ?_);exact Nat.le_trans (A2 _ _ _ _) (by omega)
 ·omega
def pmJ (a:Int) (fl:List (Int × Int)):Prop:=(fl.length:Int)<=5*a
theorem Rx:Md pmJ (Cn n K gn sp Ls vs ins outs fs):=
 ⟨fun a d p st h=>by
  have:=LN n K gn sp Ls vs ins outs fs a d p st;unfold pmJ at h ⊢;omega,fun a b st hab h=>by unfold pmJ at h ⊢;omega⟩
end
def Gb (c:WC) (w0:World) (bj:Nat) (av:Value) (K nv ni no:Nat) (fs:List FnD) (kd:Int) (stp:Int->D->Lev->List (Int × Int)->List (Int × Int)) (F:FuncId):Prop:=
 ∀ (fl:List (Int × Int)) (fv:Value) (s:Nat) (a:Int) (k:Nat) (cs lv:List Value) (d:D) (p:Lev) (funcs:Int) (W:World),fl.length<=900->AV c.cs w0 bj av fl fv W->Ew bj s a cs lv W->A0 c.n (XJ bj) W (.agg lv.toArray) p->RS w0 K (k+1) cs d->Cs K nv ni no funcs fs d->Af d=kd ->
  Calls Tryz.prog F #[zj (some ⟨bj,0,none⟩),.agg cs.toArray,.agg lv.toArray,.func (.func 149) #[] #[zj (some ⟨s,0,none⟩),zj (some ⟨s+1,0,none⟩)]] W fun e W'=>e=zk (zm #[])/\(∃ fv',AV c.cs w0 bj av (stp a d p fl) fv' W')/\FrW (XJ bj) W W'
theorem Rb (c) (w0:World) (bj:Nat) (av:Value) (gs Ls Fs) (J:JSt c w0 gs Ls Fs) (sp) (A:JAc c w0 av (AE gs) sp) (K ni no:Nat) (fs vs) (hvs:Bo w0 (O c.va c.vn c.vc) vs) (hvn:vs.length=Ls.length) (hvc:∀ v∈vs,Bs c.n gs v.2=0) (ls) (hls:AX w0 (O c.ya c.yn c.yc) ls) (hlc:∀ b∈ls,Bs c.n gs b=0) (hni:ls.length=ni) (hni5:ni<=5) (os) (hos:AX w0 (O c.oa c.on c.oc) os) (hoc:∀ b∈os,Bs c.n gs b=0) (hno:os.length=no) (hno5:no<=5)
  (fl:List (Int × Int)) (hfl:fl.length<=900) (fv:Value) (W:World) (a:Int) (k:Nat) (cs:List Value) (d:D) (v:Value) (p:Lev) (funcs:Int) (h:AV c.cs w0 bj av fl fv W) (hrs:RS w0 K (k+1) cs d) (hok:Cs K Ls.length ni no funcs fs d) (hl:A0 c.n (XJ bj) W v p) (stp:Int->D->Lev->List (Int × Int)->List (Int × Int)) (hT:Gb c w0 bj av K Ls.length ni no fs 5 stp 152) (hk:Af d=5) :
  Calls Tryz.prog 88 #[zj (some ⟨bj,0,none⟩),zd U a,.agg cs.toArray,v] W fun e W'=>e=zk (zm #[])/\(∃ fv',AV c.cs w0 bj av (stp a d p fl) fv' W')/\FrW (XJ bj) W W':=by
 have i:=hrs;have s:=hT;clear hT;obtain ⟨p1,Z,X,p2,Y,V,rfl⟩:=hl.form;obtain ⟨F,E,z,u,y,L,I,C,B,H,G,rfl,i0,i1,i2,hX,hA,hT,hE,-,-,-⟩:=hrs.form;have l:sC (Af d) (Ax d) (Ae d) F E z u y L (Al d).length I C (Ag d).length B H (Ak d).length G=sC 5 (Ax d) (Ae d) F E z u y L (Al d).length I C (Ag d).length B H (Ak d).length G:=by rw [hk]
 rw [l];clear l;obtain ⟨vr,N⟩:=nm (Ax d);obtain ⟨ot,Q⟩:=nm (Ae d);obtain ⟨al,S⟩:=nm ((Al d).length);obtain ⟨tl,P⟩:=nm ((Ag d).length);obtain ⟨el,R⟩:=nm ((Ak d).length);rw [<-N,<-Q,<-S,<-P,<-R];obtain ⟨q,hb⟩:=Dq bj a [zd U 5,zd U vr,zd U ot,zd U F,zd U E,O z u y,O L al I,O C tl B,O H el G] [O p1 Z X,O p2 Y V] W (fun k hk=>(h.xlt k hk).2);have t:=FrW.of_below (An bj) hb;have T:=t.trans (FrW.of_below (An bj) (bD _));have aw:=Aa t;have am:=Aa (h.over hb);have M:=Aa q;have aq:=Aa (hl.keep J.n1 t);have bb:=Aa (am.o.over (bD _));have ax:=Aa (q.keep (FrW.of_below (An bj) (bD _)));have a9:=Aa (hl.keep J.n1 T);have bd:=Aa T;have l:sC (Af d) (Ax d) (Ae d) F E z u y L (Al d).length I C (Ag d).length B H (Ak d).length G=sC 5 vr ot F E z u y L al I C tl B H el G:=by rw [hk,N,Q,S,P,R]
 rw [l] at i;have KC:=Aa (fun (g:World) (h2:AV c.cs w0 bj av fl fv g) (f:Ew bj W.heap.size a [zd U 5,zd U vr,zd U ot,zd U F,zd U E,O z u y,O L al I,O C tl B,O H el G] [O p1 Z X,O p2 Y V] g) (an:A0 c.n (XJ bj) g (zh #[O p1 Z X,O p2 Y V]) p)=>s fl fv W.heap.size a k _ [O p1 Z X,O p2 Y V] d p funcs g hfl h2 f an i hok hk);have HS:Hx (∀ (g:World),Ew bj W.heap.size a [zd U 5,zd U vr,zd U ot,zd U F,zd U E,O z u y,O L al I,O C tl B,O H el G] [O p1 Z X,O p2 Y V] g->CE g W.heap.size 0 (zj (some ⟨bj,0,none⟩))/\CE g (W.heap.size+1+1) 0 (zd U 5)/\CE g (W.heap.size+1+1) 1 (zd U vr)/\CE g (W.heap.size+1+1) 2 (zd U ot)/\CE g (W.heap.size+1+1) 3 (zd U F)/\CE g (W.heap.size+1+1) 4 (zd U E)/\CE g (W.heap.size+1+1) 5 (O z u y)/\CE g (W.heap.size+1+1) 6 (O L al I)/\CE g (W.heap.size+1+1) 7 (O C tl B)/\CE g (W.heap.size+1+1) 8 (O H el G)/\CE g (W.heap.size+1+1+1) 0 (O p1 Z X)/\CE g (W.heap.size+1+1+1) 1 (O p2 Y V)):=fun g f=>⟨f.j,f.st 0 _ rfl,f.st 1 _ rfl,f.st 2 _ rfl,f.st 3 _ rfl,f.st 4 _ rfl,f.st 5 _ rfl,f.st 6 _ rfl,f.st 7 _ rfl,f.st 8 _ rfl,f.lv 0 _ rfl,f.lv 1 _ rfl⟩;obtain ⟨t0,t1,t2,t3,t4,t5,t6,t7,t8,t9,az,ay⟩:=HS.o _ M.o;clear l i N Q S P R q hb t T h hl hrs hX hA hT hE hok J A hvs hvc hls hlc hos hoc hfl hk i0 i1 i2 s;go_enter Tryz.func88,Tryz.ntmps88;go_wp2_with fail;refine (KC.o _ am.o M.o aq.o).mono ?_;rintro e W3 ⟨rfl,ah,ai⟩;have ar:=Aa ah;have au:=Aa (aw.o.trans ai);clear ah ai;go_wp2_with fail;go_end0;exact ⟨rfl,ar.o,au.o⟩
theorem Ra (c) (w0:World) (bj:Nat) (av:Value) (gs Ls Fs) (J:JSt c w0 gs Ls Fs) (sp) (A:JAc c w0 av (AE gs) sp) (K ni no:Nat) (fs vs) (hvs:Bo w0 (O c.va c.vn c.vc) vs) (hvn:vs.length=Ls.length) (hvc:∀ v∈vs,Bs c.n gs v.2=0) (ls) (hls:AX w0 (O c.ya c.yn c.yc) ls) (hlc:∀ b∈ls,Bs c.n gs b=0) (hni:ls.length=ni) (hni5:ni<=5) (os) (hos:AX w0 (O c.oa c.on c.oc) os) (hoc:∀ b∈os,Bs c.n gs b=0) (hno:os.length=no) (hno5:no<=5)
  (fl:List (Int × Int)) (hfl:fl.length<=900) (fv:Value) (W:World) (a:Int) (k:Nat) (cs:List Value) (d:D) (v:Value) (p:Lev) (funcs:Int) (h:AV c.cs w0 bj av fl fv W) (hrs:RS w0 K (k+1) cs d) (hok:Cs K Ls.length ni no funcs fs d) (hl:A0 c.n (XJ bj) W v p) (stp:Int->D->Lev->List (Int × Int)->List (Int × Int)) (hT:Gb c w0 bj av K Ls.length ni no fs 6 stp 153) (hk:Af d=6) :
  Calls Tryz.prog 88 #[zj (some ⟨bj,0,none⟩),zd U a,.agg cs.toArray,v] W fun e W'=>e=zk (zm #[])/\(∃ fv',AV c.cs w0 bj av (stp a d p fl) fv' W')/\FrW (XJ bj) W W':=by
 have i:=hrs;have s:=hT;clear hT;obtain ⟨p1,Z,X,p2,Y,V,rfl⟩:=hl.form;obtain ⟨F,E,z,u,y,L,I,C,B,H,G,rfl,i0,i1,i2,hX,hA,hT,hE,-,-,-⟩:=hrs.form;have l:sC (Af d) (Ax d) (Ae d) F E z u y L (Al d).length I C (Ag d).length B H (Ak d).length G=sC 6 (Ax d) (Ae d) F E z u y L (Al d).length I C (Ag d).length B H (Ak d).length G:=by rw [hk]
 rw [l];clear l;obtain ⟨vr,N⟩:=nm (Ax d);obtain ⟨ot,Q⟩:=nm (Ae d);obtain ⟨al,S⟩:=nm ((Al d).length);obtain ⟨tl,P⟩:=nm ((Ag d).length);obtain ⟨el,R⟩:=nm ((Ak d).length);rw [<-N,<-Q,<-S,<-P,<-R];obtain ⟨q,hb⟩:=Dq bj a [zd U 6,zd U vr,zd U ot,zd U F,zd U E,O z u y,O L al I,O C tl B,O H el G] [O p1 Z X,O p2 Y V] W (fun k hk=>(h.xlt k hk).2);have t:=FrW.of_below (An bj) hb;have T:=t.trans (FrW.of_below (An bj) (bD _));have aw:=Aa t;have am:=Aa (h.over hb);have M:=Aa q;have aq:=Aa (hl.keep J.n1 t);have bb:=Aa (am.o.over (bD _));have ax:=Aa (q.keep (FrW.of_below (An bj) (bD _)));have a9:=Aa (hl.keep J.n1 T);have bd:=Aa T;have l:sC (Af d) (Ax d) (Ae d) F E z u y L (Al d).length I C (Ag d).length B H (Ak d).length G=sC 6 vr ot F E z u y L al I C tl B H el G:=by rw [hk,N,Q,S,P,R]
 rw [l] at i;have KC:=Aa (fun (g:World) (h2:AV c.cs w0 bj av fl fv g) (f:Ew bj W.heap.size a [zd U 6,zd U vr,zd U ot,zd U F,zd U E,O z u y,O L al I,O C tl B,O H el G] [O p1 Z X,O p2 Y V] g) (an:A0 c.n (XJ bj) g (zh #[O p1 Z X,O p2 Y V]) p)=>s fl fv W.heap.size a k _ [O p1 Z X,O p2 Y V] d p funcs g hfl h2 f an i hok hk);have HS:Hx (∀ (g:World),Ew bj W.heap.size a [zd U 6,zd U vr,zd U ot,zd U F,zd U E,O z u y,O L al I,O C tl B,O H el G] [O p1 Z X,O p2 Y V] g->CE g W.heap.size 0 (zj (some ⟨bj,0,none⟩))/\CE g (W.heap.size+1+1) 0 (zd U 6)/\CE g (W.heap.size+1+1) 1 (zd U vr)/\CE g (W.heap.size+1+1) 2 (zd U ot)/\CE g (W.heap.size+1+1) 3 (zd U F)/\CE g (W.heap.size+1+1) 4 (zd U E)/\CE g (W.heap.size+1+1) 5 (O z u y)/\CE g (W.heap.size+1+1) 6 (O L al I)/\CE g (W.heap.size+1+1) 7 (O C tl B)/\CE g (W.heap.size+1+1) 8 (O H el G)/\CE g (W.heap.size+1+1+1) 0 (O p1 Z X)/\CE g (W.heap.size+1+1+1) 1 (O p2 Y V)):=fun g f=>⟨f.j,f.st 0 _ rfl,f.st 1 _ rfl,f.st 2 _ rfl,f.st 3 _ rfl,f.st 4 _ rfl,f.st 5 _ rfl,f.st 6 _ rfl,f.st 7 _ rfl,f.st 8 _ rfl,f.lv 0 _ rfl,f.lv 1 _ rfl⟩;obtain ⟨t0,t1,t2,t3,t4,t5,t6,t7,t8,t9,az,ay⟩:=HS.o _ M.o;clear l i N Q S P R q hb t T h hl hrs hX hA hT hE hok J A hvs hvc hls hlc hos hoc hfl hk i0 i1 i2 s;go_enter Tryz.func88,Tryz.ntmps88;go_wp2_with fail;refine (KC.o _ am.o M.o aq.o).mono ?_;rintro e W3 ⟨rfl,ah,ai⟩;have ar:=Aa ah;have au:=Aa (aw.o.trans ai);clear ah ai;go_wp2_with fail;go_end0;exact ⟨rfl,ar.o,au.o⟩
theorem jDo (c) (w0:World) (bj:Nat) (av:Value) (gs Ls Fs) (J:JSt c w0 gs Ls Fs) (sp) (A:JAc c w0 av (AE gs) sp) (K ni no:Nat) (fs vs) (hvs:Bo w0 (O c.va c.vn c.vc) vs) (hvn:vs.length=Ls.length) (hvc:∀ v∈vs,Bs c.n gs v.2=0) (ls) (hls:AX w0 (O c.ya c.yn c.yc) ls) (hlc:∀ b∈ls,Bs c.n gs b=0) (hni:ls.length=ni) (hni5:ni<=5) (os) (hos:AX w0 (O c.oa c.on c.oc) os) (hoc:∀ b∈os,Bs c.n gs b=0) (hno:os.length=no) (hno5:no<=5)
  (kf:Nat) (hfs:Bi w0 K kf (O c.fa c.fn c.fc) fs) (hf5:fs.length<=5) (hof:∀ i (h:i < fs.length),okF K Ls.length ni no (i:Int) fs kf fs[i])
  (hR:Gb c w0 bj av K Ls.length ni no fs 5 (Dv c.n K (AE gs) sp Ls vs) 152) (hT:Gb c w0 bj av K Ls.length ni no fs 6 (Ef c.n K (AE gs) sp Ls vs) 153) :
  QH c w0 K Ls.length ni no fs (fun fl W=>∃ fv,AV c.cs w0 bj av fl fv W) (XJ bj) (Cn c.n K (AE gs) sp Ls vs ls os fs) 88 [zj (some ⟨bj,0,none⟩)] [] pmJ:=by
 rintro fl W a k cs d v p funcs ⟨fv,h⟩ g s f hl u t q;have l:fl.length<=900:=by unfold pmJ at q;omega
 have hk:=f.1;show Calls Tryz.prog 88 #[zj (some ⟨bj,0,none⟩),zd U a,.agg cs.toArray,v] W _;unfold Cn;rcases (by omega:Af d=1\/Af d=2\/Af d=3\/Af d=4\/Af d=5\/Af d=6\/(Af d=7\/Af d=8)) with hk | hk | hk | hk | hk | hk | hk
 ·rw [if_pos hk]
  exact Rf c w0 bj av gs Ls Fs J sp A K ni no fs vs hvs hvn hvc ls hls hlc hni hni5 os hos hoc hno hno5 fl l fv W a k cs d v p funcs h g f hl hk
 ·rw [if_neg (by omega),if_pos hk]
  exact Re c w0 bj av gs Ls Fs J sp A K ni no fs vs hvs hvn hvc ls hls hlc hni hni5 os hos hoc hno hno5 fl l fv W a k cs d v p funcs h g f hl kf hfs hf5 hof s hk
 ·rw [if_neg (by omega),if_neg (by omega),if_pos hk]
  exact Rd c w0 bj av gs Ls Fs J sp A K ni no fs vs hvs hvn hvc ls hls hlc hni hni5 os hos hoc hno hno5 fl l fv W a k cs d v p funcs h g f hl hk
 ·rw [if_neg (by omega),if_neg (by omega),if_neg (by omega),if_pos hk]
  exact Rc c w0 bj av gs Ls Fs J sp A K ni no fs vs hvs hvn hvc ls hls hlc hni hni5 os hos hoc hno hno5 fl l fv W a k cs d v p funcs h g f hl hk
 ·rw [if_neg (by omega),if_neg (by omega),if_neg (by omega),if_neg (by omega),if_pos hk]
  exact Rb c w0 bj av gs Ls Fs J sp A K ni no fs vs hvs hvn hvc ls hls hlc hni hni5 os hos hoc hno hno5 fl l fv W a k cs d v p funcs h g f hl _ hR hk
 ·rw [if_neg (by omega),if_neg (by omega),if_neg (by omega),if_neg (by omega),if_neg (by omega),if_pos hk]
  exact Ra c w0 bj av gs Ls Fs J sp A K ni no fs vs hvs hvn hvc ls hls hlc hni hni5 os hos hoc hno hno5 fl l fv W a k cs d v p funcs h g f hl _ hT hk
 ·rw [if_neg (by omega),if_neg (by omega),if_neg (by omega),if_neg (by omega),if_neg (by omega),if_neg (by omega)]
  exact Rh c w0 bj av gs Ls Fs J sp A K ni no fs vs hvs hvn hvc ls hls hlc hni hni5 os hos hoc hno hno5 fl l fv W a k cs d v p funcs h g f hl hk
end Go.Proofs.YtfffpjkcfnekaaaGreat.Ex
