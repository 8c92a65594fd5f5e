/- Of an expression, where all is right. -/
import Derived.Test.YtfffpjkcfnekaaaGreatF22
set_option linter.unusedVariables false
set_option maxHeartbeats 8000000
set_option maxRecDepth 100000
namespace Go.Proofs.YtfffpjkcfnekaaaGreat.Ex
open Go.RowKit
open Go.Value renaming slice -> O, int -> U, bool -> zg, agg -> zh, pointer -> zj, tuple -> zm
open Go.IntKind renaming i64 -> zd
open Go.Obj renaming cells -> ze
open Go.Ending renaming returned -> zk
theorem Hf {W:World} {rb:Nat} {x y v:Value} {l:Lev} (h:AQ W v l) (hr:∀ j u,W.cell? ⟨rb,j,none⟩=some u->∃ a m c,u=O a m c):AQ ((W.setCell ⟨rb,0,none⟩ x).setCell ⟨rb,1,none⟩ y) v l:=by
 have hbo:∀ u l,AN W u l->AN ((W.setCell ⟨rb,0,none⟩ x).setCell ⟨rb,1,none⟩ y) u l:=by
  intro u l ⟨ao,cap,e,hel⟩
  refine ⟨ao,cap,e,fun hne=>?_⟩
  obtain ⟨b,off,hao,hel⟩:=hel hne
  refine ⟨b,off,hao,fun i hi=>?_⟩
  have hb:b≠rb:=fun eb=>by
   subst eb
   obtain ⟨a,m,c,e⟩:=hr _ _ (hel i hi)
   cases e
  rw [BB (Or.inl (Ne.symm hb)),BB (Or.inl (Ne.symm hb))]
  exact hel i hi
 obtain ⟨x',y',e,bx,by'⟩:=h
 exact ⟨x',y',e,hbo _ _ bx,hbo _ _ by'⟩
theorem ofW (K kf n:Nat) (h1:1<=n) (h6:n<=6) (ga gn gc sa sn sc ya yn yc oa on oc va vn vc fa fn fc ba bn bc gs sp ls ms vs fs l) (la ln lc ka kn kc) (L:ISt) (w:World) (h:BE K kf (n:Int) ga gn gc sa sn sc ya yn yc oa on oc va vn vc fa fn fc ba bn bc gs sp ls ms vs fs l w) (hV:Bg w (O la ln lc) L.vs) (hF:Bg w (O ka kn kc) L.fs) (hvl:L.vs.length<=9223372036854775807) (hfl:L.fs.length<=9223372036854775807)
  (X:Prop) (KS:∀ W,Ov w W->Calls Tryz.prog 53 #[zh #[U zd (n:Int),O ga gn gc,O sa sn sc,O ya yn yc,O oa on oc,O va vn vc,O fa fn fc,O ba bn bc]] W fun e w'=>∃ why:Int,e=zk (U zd why)/\(why=0 ↔ X)/\Ov W w') (hX:X) (hok:okP K kf (n:Int) vn yn on gs sp ls ms vs fs l) (hlo:FU (n:Int) gs vn fs.length L)
  (K2:Nat) (ek en:Int) (xa:Option Addr) (xl xc:Nat) (d:D) (hx:RX w K2 [U zd ek,U zd en,O xa xl xc] d) (hck:A2 (vn:Int) K2 d=0) (hvx:∀ x∈AF K2 d,0<=x/\x < (L.vs.length:Int)) :
  Calls Tryz.prog 41 #[zh #[U zd (n:Int),O ga gn gc,O sa sn sc,O ya yn yc,O oa on oc,O va vn vc,O fa fn fc,O ba bn bc],zh #[O la ln lc,O ka kn kc],zh #[U zd ek,U zd en,O xa xl xc]] w fun e w'=>∃ k1 k2 k3 k4 k5 k6,e=zk (zm #[zh #[O k1 k2 k3,O k4 k5 k6],U zd 0])/\AQ w' (zh #[O k1 k2 k3,O k4 k5 k6]) (AZ n L.vs (Bw n) (AF K2 d))/\Ov w w':=by
 obtain rfl:vn=vs.length:=by obtain ⟨-,a,c,he,-⟩:=h.vars;injection he
 obtain rfl:yn=ls.length:=by obtain ⟨-,a,c,he,-⟩:=h.ins;injection he
 have hfn:fn=fs.length:=by obtain ⟨-,a,c,he,-⟩:=h.funcs;injection he
 subst hfn
 have hb0:Ov w ((((w.alloc (ze #[U zd (n:Int),O ga gn gc,O sa sn sc,O ya ls.length yc,O oa on oc,O va vs.length vc,O fa fs.length fc,O ba bn bc] 31)).alloc (ze #[O la ln lc,O ka kn kc] 44)).alloc (ze #[U zd ek,U zd en,O xa xl xc] 94)).alloc (ze #[O none 0 0,O none 0 0] 50)):=(((bA w _).alloc (by simp) _).alloc (by simp <;> omega) _).alloc (by simp <;> omega) _
 have K1:=Aa (JC (n:Int) ga gn gc sa sn sc ya ls.length yc oa on oc va vs.length vc fa fs.length fc ba bn bc gs la ln lc ka kn kc L.vs L.fs ((((w.alloc (ze #[U zd (n:Int),O ga gn gc,O sa sn sc,O ya ls.length yc,O oa on oc,O va vs.length vc,O fa fs.length fc,O ba bn bc] 31)).alloc (ze #[O la ln lc,O ka kn kc] 44)).alloc (ze #[U zd ek,U zd en,O xa xl xc] 94)).alloc (ze #[O none 0 0,O none 0 0] 50)) (Af h.grants hb0) (Aw hV hb0) (Aw hF hb0) hvl hfl h.vars.1 h.funcs.1 X (fun W hW=>KS W (Ac hb0 hW)))
 have KX:=Aa fun W (hW:Ov w W)=>check_any K2 [U zd ek,U zd en,O xa xl xc] d W (vs.length:Int) (by omega) (by have:=hok.vars;omega) (hx.over hW)
 rw [hck] at KX
 have KWO:=Aa (Dv n ga gn gc sa sn sc ya ls.length yc oa on oc va vs.length vc fa fs.length fc ba bn bc la ln lc ka kn kc)
 have KB:=Aa (ER n h1 h6 ga gn gc sa sn sc ya ls.length yc oa on oc va vs.length vc fa fs.length fc ba bn bc la ln lc ka kn kc)
 have hlen:∀ x∈L.vs,x.len n:=fun x hx=>EZ hok.chk (hlo.2.2.1 x hx)
 have KWW:=Aa fun W (hW:Ov w W) v (hv:AY n (fun _ _=>False) W v (Bw n))=>DU (⟨n,ga,gn,gc,sa,sn,sc,ya,ls.length,yc,oa,on,oc,va,vs.length,vc,fa,fs.length,fc,ba,bn,bc,la,ln,lc,ka,kn,kc⟩:WC) h1 h6 gs L.vs (fun _ _=>False) ⟨fun _ _ _ _ h=>h⟩ v (Bw n) K2 [U zd ek,U zd en,O xa xl xc] d W (Af h.grants hW) hok.chk (EL h1 (Aw hV hW) hlen (fun _ h=>h.elim)) hv (by have:=hlo.1;have:=hok.vars;omega) (fun _ h=>h.elim) (hx.over hW) hvx
 have rowP:Ae [U zd (n:Int),O ga gn gc,O sa sn sc,O ya ls.length yc,O oa on oc,O va vs.length vc,O fa fs.length fc,O ba bn bc] ((((w.alloc (ze #[U zd (n:Int),O ga gn gc,O sa sn sc,O ya ls.length yc,O oa on oc,O va vs.length vc,O fa fs.length fc,O ba bn bc] 31)).alloc (ze #[O la ln lc,O ka kn kc] 44)).alloc (ze #[U zd ek,U zd en,O xa xl xc] 94)).alloc (ze #[O none 0 0,O none 0 0] 50)) w.heap.size:=(Ae.new [U zd (n:Int),O ga gn gc,O sa sn sc,O ya ls.length yc,O oa on oc,O va vs.length vc,O fa fs.length fc,O ba bn bc] 31 w).over (((bA _ _).alloc (by simp) _).alloc (by simp <;> omega) _)
 have rowL:Ae [O la ln lc,O ka kn kc] ((((w.alloc (ze #[U zd (n:Int),O ga gn gc,O sa sn sc,O ya ls.length yc,O oa on oc,O va vs.length vc,O fa fs.length fc,O ba bn bc] 31)).alloc (ze #[O la ln lc,O ka kn kc] 44)).alloc (ze #[U zd ek,U zd en,O xa xl xc] 94)).alloc (ze #[O none 0 0,O none 0 0] 50)) (w.heap.size+1):=by
  have:=(Ae.new [O la ln lc,O ka kn kc] 44 (w.alloc (ze #[U zd (n:Int),O ga gn gc,O sa sn sc,O ya ls.length yc,O oa on oc,O va vs.length vc,O fa fs.length fc,O ba bn bc] 31))).over ((bA _ (ze #[U zd ek,U zd en,O xa xl xc] 94)).alloc (by simp) (ze #[O none 0 0,O none 0 0] 50))
  simpa using this
 have rowE:Ae [U zd ek,U zd en,O xa xl xc] ((((w.alloc (ze #[U zd (n:Int),O ga gn gc,O sa sn sc,O ya ls.length yc,O oa on oc,O va vs.length vc,O fa fs.length fc,O ba bn bc] 31)).alloc (ze #[O la ln lc,O ka kn kc] 44)).alloc (ze #[U zd ek,U zd en,O xa xl xc] 94)).alloc (ze #[O none 0 0,O none 0 0] 50)) (w.heap.size+2):=by
  have:=(Ae.new [U zd ek,U zd en,O xa xl xc] 94 ((w.alloc (ze #[U zd (n:Int),O ga gn gc,O sa sn sc,O ya ls.length yc,O oa on oc,O va vs.length vc,O fa fs.length fc,O ba bn bc] 31)).alloc (ze #[O la ln lc,O ka kn kc] 44))).over (bA _ (ze #[O none 0 0,O none 0 0] 50))
  simpa using this
 have hbk:((((w.alloc (ze #[U zd (n:Int),O ga gn gc,O sa sn sc,O ya ls.length yc,O oa on oc,O va vs.length vc,O fa fs.length fc,O ba bn bc] 31)).alloc (ze #[O la ln lc,O ka kn kc] 44)).alloc (ze #[U zd ek,U zd en,O xa xl xc] 94)).alloc (ze #[O none 0 0,O none 0 0] 50)).heap[w.heap.size+3]? = some (ze #[O none 0 0,O none 0 0] 50):=by
  have:=AJ (((w.alloc (ze #[U zd (n:Int),O ga gn gc,O sa sn sc,O ya ls.length yc,O oa on oc,O va vs.length vc,O fa fs.length fc,O ba bn bc] 31)).alloc (ze #[O la ln lc,O ka kn kc] 44)).alloc (ze #[U zd ek,U zd en,O xa xl xc] 94)) (ze #[O none 0 0,O none 0 0] 50)
  simpa using this
 have hsz0:((((w.alloc (ze #[U zd (n:Int),O ga gn gc,O sa sn sc,O ya ls.length yc,O oa on oc,O va vs.length vc,O fa fs.length fc,O ba bn bc] 31)).alloc (ze #[O la ln lc,O ka kn kc] 44)).alloc (ze #[U zd ek,U zd en,O xa xl xc] 94)).alloc (ze #[O none 0 0,O none 0 0] 50)).heap.size=w.heap.size+4:=by simp
 have HB0:=Aa hb0
 have HRP:=Aa rowP
 have HRL:=Aa rowL
 have HRE0:=Aa rowE
 have HBK0:=Aa hbk
 have HSZ0:=Aa hsz0
 have HOKW:Hx (∀ why:Int,(why=0 ↔ (X/\L.vs.length=vs.length/\L.fs.length=fs.length/\(∀ x∈L.vs,Bq n gs x=0)/\∀ x∈L.fs,Bq n gs x=0))->why=0):=Aa (fun why hh=>hh.2 ⟨hX,hlo⟩)
 obtain ⟨c0,c1,c2,c3,c4,c5,c6,c7⟩:=rc8 rowP
 obtain ⟨l0,l1⟩:=rc2 rowL
 clear hb0 rowP rowL rowE hbk h hV hF hvl hfl KS hX hok hlo hx hck hvx hlen hsz0
 go_enter Tryz.func41,Tryz.ntmps41
 go_wp2_with fail
 refine (K1.o).mono ?_
 rintro e w1 ⟨why,rfl,hPw,hb1⟩
 obtain rfl:why=0:=HOKW.o why hPw
 have HRP1:=Aa (HRP.o.over hb1)
 have HRL1:=Aa (HRL.o.over hb1)
 have hre1:=HRE0.o.over hb1
 have HRE1:=Aa hre1
 have HBK1:=Aa ((hb1.block _ (by rw [HSZ0.o];omega)).trans HBK0.o)
 have HSZ1:Hx (w.heap.size+3 < w1.heap.size):=Aa (by have:=hb1.size;rw [HSZ0.o] at this;omega)
 have HB1:=Aa (Ac HB0.o hb1)
 have KX1:=Aa (KX.o w1 HB1.o)
 obtain ⟨x0,x1,x2⟩:=rc3 hre1
 clear c0 c1 c2 c3 c4 c5 c6 c7 l0 l1 K1 hPw hb1 hre1
 have c5:=HRP1.o 5 _ rfl
 go_wp2_with fail
 refine (KX1.o).mono ?_
 rintro e w2 ⟨rfl,hb2⟩
 have HB2:=Aa (Ac HB1.o hb2)
 have hrp2:=HRP1.o.over hb2
 have hrl2:=HRL1.o.over hb2
 have HRE2:=Aa (HRE1.o.over hb2)
 have HBK2:=Aa ((hb2.block _ HSZ1.o).trans HBK1.o)
 have HSZ2:Hx (w.heap.size+3 < w2.heap.size):=Aa (Nat.lt_of_lt_of_le HSZ1.o hb2.size)
 have K3:=Aa (KWO.o w2)
 clear c5 x0 x1 x2 KX1 hb2
 obtain ⟨c0,c1,c2,c3,c4,c5,c6,c7⟩:=rc8 hrp2
 obtain ⟨l0,l1⟩:=rc2 hrl2
 clear hrp2 hrl2
 go_wp2_with fail
 refine (K3.o).mono ?_
 rintro e w3 ⟨rfl,hb3⟩
 have hba:=bA w3 (ze #[U zd (n:Int),O ga gn gc,O sa sn sc,O ya ls.length yc,O oa on oc,O va vs.length vc,O fa fs.length fc,O ba bn bc,O la ln lc,O ka kn kc] 110)
 have hb4:=Ac hb3 hba
 have HBA:=Aa (Ac HB2.o hb4)
 have HRE:=Aa (HRE2.o.over hb4)
 have HBK:=Aa ((hb4.block _ HSZ2.o).trans HBK2.o)
 have HLT:Hx (w.heap.size+3 < (w3.alloc (ze #[U zd (n:Int),O ga gn gc,O sa sn sc,O ya ls.length yc,O oa on oc,O va vs.length vc,O fa fs.length fc,O ba bn bc,O la ln lc,O ka kn kc] 110)).heap.size):=Aa (Nat.lt_of_lt_of_le HSZ2.o hb4.size)
 have HRW:=Aa (Ae.new [U zd (n:Int),O ga gn gc,O sa sn sc,O ya ls.length yc,O oa on oc,O va vs.length vc,O fa fs.length fc,O ba bn bc,O la ln lc,O ka kn kc] 110 w3)
 have KW:=Aa fun W (hW:Ov (w3.alloc (ze #[U zd (n:Int),O ga gn gc,O sa sn sc,O ya ls.length yc,O oa on oc,O va vs.length vc,O fa fs.length fc,O ba bn bc,O la ln lc,O ka kn kc] 110)) W) v hv=>KWW.o W (Ac HBA.o hW) v hv
 have HNE3:Hx (w.heap.size+3≠w3.heap.size):=Aa (by have:=Nat.lt_of_lt_of_le HSZ2.o hb3.size;omega)
 have hS0:(w3.alloc (ze #[U zd (n:Int),O ga gn gc,O sa sn sc,O ya ls.length yc,O oa on oc,O va vs.length vc,O fa fs.length fc,O ba bn bc,O la ln lc,O ka kn kc] 110)).cell? ⟨w3.heap.size,0,none⟩=some (U zd (n:Int))/\(w3.alloc (ze #[U zd (n:Int),O ga gn gc,O sa sn sc,O ya ls.length yc,O oa on oc,O va vs.length vc,O fa fs.length fc,O ba bn bc,O la ln lc,O ka kn kc] 110)).cell? ⟨w3.heap.size,1,none⟩=some (O ga gn gc)/\(w3.alloc (ze #[U zd (n:Int),O ga gn gc,O sa sn sc,O ya ls.length yc,O oa on oc,O va vs.length vc,O fa fs.length fc,O ba bn bc,O la ln lc,O ka kn kc] 110)).cell? ⟨w3.heap.size,2,none⟩=some (O sa sn sc)/\(w3.alloc (ze #[U zd (n:Int),O ga gn gc,O sa sn sc,O ya ls.length yc,O oa on oc,O va vs.length vc,O fa fs.length fc,O ba bn bc,O la ln lc,O ka kn kc] 110)).cell? ⟨w3.heap.size,3,none⟩=some (O ya ls.length yc)/\(w3.alloc (ze #[U zd (n:Int),O ga gn gc,O sa sn sc,O ya ls.length yc,O oa on oc,O va vs.length vc,O fa fs.length fc,O ba bn bc,O la ln lc,O ka kn kc] 110)).cell? ⟨w3.heap.size,4,none⟩=some (O oa on oc)/\(w3.alloc (ze #[U zd (n:Int),O ga gn gc,O sa sn sc,O ya ls.length yc,O oa on oc,O va vs.length vc,O fa fs.length fc,O ba bn bc,O la ln lc,O ka kn kc] 110)).cell? ⟨w3.heap.size,5,none⟩=some (O va vs.length vc)/\(w3.alloc (ze #[U zd (n:Int),O ga gn gc,O sa sn sc,O ya ls.length yc,O oa on oc,O va vs.length vc,O fa fs.length fc,O ba bn bc,O la ln lc,O ka kn kc] 110)).cell? ⟨w3.heap.size,6,none⟩=some (O fa fs.length fc)/\(w3.alloc (ze #[U zd (n:Int),O ga gn gc,O sa sn sc,O ya ls.length yc,O oa on oc,O va vs.length vc,O fa fs.length fc,O ba bn bc,O la ln lc,O ka kn kc] 110)).cell? ⟨w3.heap.size,7,none⟩=some (O ba bn bc)/\(w3.alloc (ze #[U zd (n:Int),O ga gn gc,O sa sn sc,O ya ls.length yc,O oa on oc,O va vs.length vc,O fa fs.length fc,O ba bn bc,O la ln lc,O ka kn kc] 110)).cell? ⟨w3.heap.size,8,none⟩=some (O la ln lc)/\(w3.alloc (ze #[U zd (n:Int),O ga gn gc,O sa sn sc,O ya ls.length yc,O oa on oc,O va vs.length vc,O fa fs.length fc,O ba bn bc,O la ln lc,O ka kn kc] 110)).cell? ⟨w3.heap.size,9,none⟩=some (O ka kn kc)/\(w3.alloc (ze #[U zd (n:Int),O ga gn gc,O sa sn sc,O ya ls.length yc,O oa on oc,O va vs.length vc,O fa fs.length fc,O ba bn bc,O la ln lc,O ka kn kc] 110)).cell? ⟨(w.heap.size+2),0,none⟩=some (U zd ek)/\(w3.alloc (ze #[U zd (n:Int),O ga gn gc,O sa sn sc,O ya ls.length yc,O oa on oc,O va vs.length vc,O fa fs.length fc,O ba bn bc,O la ln lc,O ka kn kc] 110)).cell? ⟨(w.heap.size+2),1,none⟩=some (U zd en)/\(w3.alloc (ze #[U zd (n:Int),O ga gn gc,O sa sn sc,O ya ls.length yc,O oa on oc,O va vs.length vc,O fa fs.length fc,O ba bn bc,O la ln lc,O ka kn kc] 110)).cell? ⟨(w.heap.size+2),2,none⟩=some (O xa xl xc):=by
  have hr0:=HRW.o
  have hre:=HRE.o
  exact ⟨hr0 0 _ rfl,hr0 1 _ rfl,hr0 2 _ rfl,hr0 3 _ rfl,hr0 4 _ rfl,hr0 5 _ rfl,hr0 6 _ rfl,hr0 7 _ rfl,hr0 8 _ rfl,hr0 9 _ rfl,hre 0 _ rfl,hre 1 _ rfl,hre 2 _ rfl⟩
 clear c0 c1 c2 c3 c4 c5 c6 c7 l0 l1 K3 hb3 hba hb4
 go_wp2_with fail
 refine gS (fun Wz=>Wz.cell? ⟨w3.heap.size,0,none⟩=some (U zd (n:Int))/\Wz.cell? ⟨w3.heap.size,1,none⟩=some (O ga gn gc)/\Wz.cell? ⟨w3.heap.size,2,none⟩=some (O sa sn sc)/\Wz.cell? ⟨w3.heap.size,3,none⟩=some (O ya ls.length yc)/\Wz.cell? ⟨w3.heap.size,4,none⟩=some (O oa on oc)/\Wz.cell? ⟨w3.heap.size,5,none⟩=some (O va vs.length vc)/\Wz.cell? ⟨w3.heap.size,6,none⟩=some (O fa fs.length fc)/\Wz.cell? ⟨w3.heap.size,7,none⟩=some (O ba bn bc)/\Wz.cell? ⟨w3.heap.size,8,none⟩=some (O la ln lc)/\Wz.cell? ⟨w3.heap.size,9,none⟩=some (O ka kn kc)/\Wz.cell? ⟨(w.heap.size+2),0,none⟩=some (U zd ek)/\Wz.cell? ⟨(w.heap.size+2),1,none⟩=some (U zd en)/\Wz.cell? ⟨(w.heap.size+2),2,none⟩=some (O xa xl xc)) (hS0) fun hHeld=>?_
 refine kT 0 ?_
 refine kT 1 ?_
 refine kT 2 ?_
 refine kT 3 ?_
 refine kT 5 ?_
 refine rdA 4 rfl fun K hK=>?_
 go_simp
 refine (KB.o _).mono ?_
 rintro e W5 ⟨vj,rfl,hfr,hb5⟩
 have hbz:=Ac ((Below.refl _ (w3.alloc (ze #[U zd (n:Int),O ga gn gc,O sa sn sc,O ya ls.length yc,O oa on oc,O va vs.length vc,O fa fs.length fc,O ba bn bc,O la ln lc,O ka kn kc] 110))).drew) hb5
 obtain ⟨m1,m2,m3,m4,m5,m6,hNV⟩:∃ m1 m2 m3 m4 m5 m6,vj=zh #[O m1 m2 m3,O m4 m5 m6]:=by
  obtain ⟨x,y,e,-⟩:=Aq hfr
  subst e
  obtain ⟨z1,z2,z3,z4,z5,z6,rfl,rfl⟩:=AP (Aq hfr)
  exact ⟨_,_,_,_,_,_,rfl⟩
 subst hNV
 have hM5:AY n (fun _ _=>False) W5 (zh #[O m1 m2 m3,O m4 m5 m6]) (Bw n):=⟨Aq hfr,Dc n,_,_,rfl,fun _ _ _ _ h=>h,fun _ _ _ _ h=>h⟩
 have hr0:=HRW.o.over hbz
 have hre:=HRE.o.over hbz
 have hS5:W5.cell? ⟨w3.heap.size,0,none⟩=some (U zd (n:Int))/\W5.cell? ⟨w3.heap.size,1,none⟩=some (O ga gn gc)/\W5.cell? ⟨w3.heap.size,2,none⟩=some (O sa sn sc)/\W5.cell? ⟨w3.heap.size,3,none⟩=some (O ya ls.length yc)/\W5.cell? ⟨w3.heap.size,4,none⟩=some (O oa on oc)/\W5.cell? ⟨w3.heap.size,5,none⟩=some (O va vs.length vc)/\W5.cell? ⟨w3.heap.size,6,none⟩=some (O fa fs.length fc)/\W5.cell? ⟨w3.heap.size,7,none⟩=some (O ba bn bc)/\W5.cell? ⟨w3.heap.size,8,none⟩=some (O la ln lc)/\W5.cell? ⟨w3.heap.size,9,none⟩=some (O ka kn kc)/\W5.cell? ⟨(w.heap.size+2),0,none⟩=some (U zd ek)/\W5.cell? ⟨(w.heap.size+2),1,none⟩=some (U zd en)/\W5.cell? ⟨(w.heap.size+2),2,none⟩=some (O xa xl xc):=⟨hr0 0 _ rfl,hr0 1 _ rfl,hr0 2 _ rfl,hr0 3 _ rfl,hr0 4 _ rfl,hr0 5 _ rfl,hr0 6 _ rfl,hr0 7 _ rfl,hr0 8 _ rfl,hr0 9 _ rfl,hre 0 _ rfl,hre 1 _ rfl,hre 2 _ rfl⟩
 have K6:=Aa (KW.o W5 hbz _ hM5)
 have HBZ5:=Aa hbz
 clear hr0 hre hM5 hfr hb5 hbz
 go_simp
 refine xK hK (hS5) fun hHeld=>?_
 clear hK K
 refine rdA 6 rfl fun K hK=>?_
 go_simp
 refine (K6.o).mono ?_
 rintro e W6 ⟨⟨k1,k2,k3,k4,k5,k6,rfl,hlo⟩,hb6⟩
 have hbz:=Ac HBZ5.o hb6
 have hr0:=HRW.o.over hbz
 have hre:=HRE.o.over hbz
 have hS6:W6.cell? ⟨w3.heap.size,0,none⟩=some (U zd (n:Int))/\W6.cell? ⟨w3.heap.size,1,none⟩=some (O ga gn gc)/\W6.cell? ⟨w3.heap.size,2,none⟩=some (O sa sn sc)/\W6.cell? ⟨w3.heap.size,3,none⟩=some (O ya ls.length yc)/\W6.cell? ⟨w3.heap.size,4,none⟩=some (O oa on oc)/\W6.cell? ⟨w3.heap.size,5,none⟩=some (O va vs.length vc)/\W6.cell? ⟨w3.heap.size,6,none⟩=some (O fa fs.length fc)/\W6.cell? ⟨w3.heap.size,7,none⟩=some (O ba bn bc)/\W6.cell? ⟨w3.heap.size,8,none⟩=some (O la ln lc)/\W6.cell? ⟨w3.heap.size,9,none⟩=some (O ka kn kc)/\W6.cell? ⟨(w.heap.size+2),0,none⟩=some (U zd ek)/\W6.cell? ⟨(w.heap.size+2),1,none⟩=some (U zd en)/\W6.cell? ⟨(w.heap.size+2),2,none⟩=some (O xa xl xc):=⟨hr0 0 _ rfl,hr0 1 _ rfl,hr0 2 _ rfl,hr0 3 _ rfl,hr0 4 _ rfl,hr0 5 _ rfl,hr0 6 _ rfl,hr0 7 _ rfl,hr0 8 _ rfl,hr0 9 _ rfl,hre 0 _ rfl,hre 1 _ rfl,hre 2 _ rfl⟩
 have HLO:=Aa hlo
 have HB6:=Aa (Ac HBA.o hbz)
 have hbk:W6.heap[w.heap.size+3]? = some (ze #[O none 0 0,O none 0 0] 50):=(hbz.block _ HLT.o).trans HBK.o
 have HBK6:=Aa hbk
 have r0:W6.cell? ⟨w.heap.size+3,0,none⟩=some (O none 0 0):=by rw [Lib.cell_of_heap hbk];rfl
 have r1:W6.cell? ⟨w.heap.size+3,1,none⟩=some (O none 0 0):=by rw [Lib.cell_of_heap hbk];rfl
 have rz:∀ j,W6.frozen? ⟨w.heap.size+3,j,none⟩=false:=fun j=>by simp [World.frozen?,hbk]
 have HS6:=Aa hS6
 clear hr0 hre hlo hb6 hbz hbk
 go_simp
 refine xK hK (hS6) fun hHeld=>?_
 clear hK K
 refine rdA 7 rfl fun K hK=>?_
 go_simp
 refine xK hK (by obtain ⟨t0,t1,t2,t3,t4,t5,t6,t7,t8,t9,t10,t11,t12⟩:=hS6;have hne:=HNE3.o;exact ⟨by simp [go_sem,t0],by simp [go_sem,t1],by simp [go_sem,t2],by simp [go_sem,t3],by simp [go_sem,t4],by simp [go_sem,t5],by simp [go_sem,t6],by simp [go_sem,t7],by simp [go_sem,t8],by simp [go_sem,t9],by simp [go_sem,t10],by simp [go_sem,t11],by simp [go_sem,t12]⟩) fun hHeld=>?_
 clear hK K
 refine kT 8 ?_
 refine gE ?_
 have hcr:∀ j u,W6.cell? ⟨w.heap.size+3,j,none⟩=some u->∃ a m c,u=O a m c:=fun j u hu=>by
  rw [Lib.cell_of_heap HBK6.o] at hu
  match j,hu with
  | 0,hu=>simp at hu;exact ⟨_,_,_,hu.symm⟩
  | 1,hu=>simp at hu;exact ⟨_,_,_,hu.symm⟩
  | j+2,hu=>simp at hu
 have hfin:=Hf (x:=O k1 k2 k3) (y:=O k4 k5 k6) HLO.o.at_ hcr
 have HFIN:=Aa hfin
 clear hfin hcr
 go_wp2_with fail
 have r0':W6.cell? ⟨w.heap.size+1+1+1,0,none⟩=some (O none 0 0):=r0
 have r1':W6.cell? ⟨w.heap.size+1+1+1,1,none⟩=some (O none 0 0):=r1
 refine bodyPost_ret (v:=zm #[zh #[O k1 k2 k3,O k4 k5 k6],U zd 0]) (by simp [results,Tryz.results41,go_sem,r0',r1']) rfl ⟨k1,k2,k3,k4,k5,k6,rfl,HFIN.o,?_⟩
 exact (HB6.o.setCell (p:=⟨w.heap.size+3,0,none⟩) (by simp) _).setCell (p:=⟨w.heap.size+3,1,none⟩) (by simp) _
theorem C4:Ey.xP 1 1 1 1 1 1 0 [] [] [⟨[],[]⟩] [⟨[],[]⟩] [(false,⟨[],[]⟩)] [] [sm1,sm2]:=by
 refine ⟨Dy.chk,by simp,Dy.speak,Dy.labs,⟨by have:=Dy.many;omega,fun f hf=>absurd hf (by simp),?_⟩,fun i h=>absurd h (by simp),?_⟩
 ·intro s hs
  simp at hs
  rcases hs with rfl | rfl
  ·exact ⟨by omega,fun s hs=>absurd hs (by simp [sm1]),fun s hs=>absurd hs (by simp [sm1])⟩
  ·exact ⟨by omega,fun s hs=>absurd hs (by simp [sm2]),fun s hs=>absurd hs (by simp [sm2])⟩
 ·intro s hs
  simp at hs
  rcases hs with rfl | rfl
  ·exact ⟨⟨LO,fun _=>rfl,fun _=>rfl,fun _=>rfl,fun _=>rfl,fun _=>rfl,fun _=>rfl⟩,fun s hs=>absurd hs (by simp [sm1]),fun s hs=>absurd hs (by simp [sm1])⟩
  ·exact ⟨⟨LN,fun _=>rfl,fun _=>rfl,fun h=>absurd h (by decide),fun _=>rfl,fun _=>rfl,fun _=>rfl⟩,fun s hs=>absurd hs (by simp [sm2]),fun s hs=>absurd hs (by simp [sm2])⟩
theorem EA (bi bo bv bm:Nat) (w:World) (h:D7 bi bo bv bm w):∀ W,Ov w W->Calls Tryz.prog 53 #[zh #[U zd 1,O none 0 0,O none 0 0,O (some ⟨bi,0,none⟩) 1 1,O (some ⟨bo,0,none⟩) 1 1,O (some ⟨bv,0,none⟩) 1 1,O none 0 0,O (some ⟨bm,0,none⟩) 2 2]] W fun e w'=>∃ why:Int,e=zk (U zd why)/\(why=0 ↔ True)/\Ov W w':=fun W hW=>
 (Ey.scopeCheck_any 1 1 1 none 0 0 none 0 0 (some ⟨bi,0,none⟩) 1 1 (some ⟨bo,0,none⟩) 1 1 (some ⟨bv,0,none⟩) 1 1 none 0 0 (some ⟨bm,0,none⟩) 2 2 [] [] [⟨[],[]⟩] [⟨[],[]⟩] [(false,⟨[],[]⟩)] [] [sm1,sm2] W (C0 (h.over hW))).mono fun e w' hh=>by
  obtain ⟨why,he,hx,hB⟩:=hh
  exact ⟨why,he,⟨fun _=>trivial,fun _=>hx.2 C4⟩,hB⟩
theorem Jm (bi bo bv bm:Nat) (w:World) (h:D7 bi bo bv bm w):Calls Tryz.prog 15 #[zh #[U zd 1,O none 0 0,O none 0 0,O (some ⟨bi,0,none⟩) 1 1,O (some ⟨bo,0,none⟩) 1 1,O (some ⟨bv,0,none⟩) 1 1,O none 0 0,O (some ⟨bm,0,none⟩) 2 2]] w fun e w'=>∃ la lc ka kc,e=zk (zm #[zh #[O la 1 lc,O ka 0 kc],U zd 0])/\Bg w' (O la 1 lc) [⟨[true],[true]⟩]/\Bg w' (O ka 0 kc) []/\Ov w w':=by
 refine (Hh 1 1 1 none 0 0 none 0 0 (some ⟨bi,0,none⟩) 1 1 (some ⟨bo,0,none⟩) 1 1 (some ⟨bv,0,none⟩) 1 1 none 0 0 (some ⟨bm,0,none⟩) 2 2 [] [] [⟨[],[]⟩] [⟨[],[]⟩] [(false,⟨[],[]⟩)] [] [sm1,sm2] w (C0 h) (fun why=>(why=0 ↔ True)) (EA bi bo bv bm w h) (fun _=>Dy)).mono ?_
 rintro e w' ⟨why,hP,hB,hh⟩
 have hw:why=0:=hP.2 trivial
 rcases hh with ⟨hne,-⟩ | ⟨-,-,n,st,la,ln,lc,ka,kn,kc,hn,rfl,h1,h2,-,-,-,-,hinf,-,-⟩
 ·exact absurd hw hne
 ·obtain rfl:n=1:=by omega
  obtain ⟨e1,e2⟩:=Kl hinf
  rw [e1] at h1
  rw [e2] at h2
  obtain rfl:ln=1:=by obtain ⟨a,c,he,-⟩:=h1;injection he
  obtain rfl:kn=0:=by obtain ⟨a,c,he,-⟩:=h2;injection he
  exact ⟨la,lc,ka,kc,rfl,h1,h2,hB⟩
def smL:ISt:=⟨[⟨[true],[true]⟩],[],false⟩
theorem LM:Dh 1 1 1 [false] [AA [] 1 ⟨[],[]⟩] [] [sm1,sm2] smL true=true:=by rfl
theorem LL:FU (1:Int) [] 1 0 smL:=by
 refine ⟨rfl,rfl,fun x hx=>?_,fun x hx=>absurd hx (by simp [smL])⟩
 simp [smL] at hx
 subst hx
 rfl
theorem Lg (bi bo bv bm:Nat) (la:Option Addr) (lc:Nat) (ka:Option Addr) (kc:Nat) (w:World) (h:D7 bi bo bv bm w) (h1:Bg w (O la 1 lc) [⟨[true],[true]⟩]) (h2:Bg w (O ka 0 kc) []):Calls Tryz.prog 40 #[zh #[U zd 1,O none 0 0,O none 0 0,O (some ⟨bi,0,none⟩) 1 1,O (some ⟨bo,0,none⟩) 1 1,O (some ⟨bv,0,none⟩) 1 1,O none 0 0,O (some ⟨bm,0,none⟩) 2 2],zh #[O la 1 lc,O ka 0 kc]] w fun e w'=>e=zk (zm #[zg true,U zd 0])/\Ov w w':=by
 refine (Py 1 1 1 none 0 0 none 0 0 (some ⟨bi,0,none⟩) 1 1 (some ⟨bo,0,none⟩) 1 1 (some ⟨bv,0,none⟩) 1 1 none 0 0 (some ⟨bm,0,none⟩) 2 2 [] [] [⟨[],[]⟩] [⟨[],[]⟩] [(false,⟨[],[]⟩)] [] [sm1,sm2] la 1 lc ka 0 kc smL w (C0 h) h1 h2 (by simp [smL]) (by simp [smL]) True (EA bi bo bv bm w h) (fun _=>Dy)).mono ?_
 rintro e w' ⟨why,hP,hB,hh⟩
 have hw:why=0:=hP.2 ⟨trivial,LL⟩
 rcases hh with ⟨hne,-⟩ | ⟨-,n,b,hn,rfl,hb⟩
 ·exact absurd hw hne
 ·obtain rfl:n=1:=by omega
  have:b=true:=hb.2 ⟨fun i hi hk=>by
   have:i=0:=by simp at hi;omega
   subst this
   exact absurd hk (by simp),LM⟩
  subst this
  exact ⟨rfl,hB⟩
theorem MJ:A2 ((1:Nat):Int) 1 (xD 2 0 [])=0:=LJ
theorem LK:AF 1 (xD 2 0 [])=[0]:=by rfl
theorem Ol:AZ 1 smL.vs (Bw 1) (AF 1 (xD 2 0 []))=⟨[true],[true]⟩:=by rfl
theorem Hc (bi bo bv bm:Nat) (la:Option Addr) (lc:Nat) (ka:Option Addr) (kc:Nat) (w:World) (h:D7 bi bo bv bm w) (h1:Bg w (O la 1 lc) [⟨[true],[true]⟩]) (h2:Bg w (O ka 0 kc) []):Calls Tryz.prog 41 #[zh #[U zd 1,O none 0 0,O none 0 0,O (some ⟨bi,0,none⟩) 1 1,O (some ⟨bo,0,none⟩) 1 1,O (some ⟨bv,0,none⟩) 1 1,O none 0 0,O (some ⟨bm,0,none⟩) 2 2],zh #[O la 1 lc,O ka 0 kc],zh #[U zd 2,U zd 0,O none 0 0]] w fun e w'=>∃ k1 k2 k3 k4 k5 k6,e=zk (zm #[zh #[O k1 k2 k3,O k4 k5 k6],U zd 0])/\AQ w' (zh #[O k1 k2 k3,O k4 k5 k6]) ⟨[true],[true]⟩/\Ov w w':=by
 have key:=ofW 1 1 1 (by omega) (by omega) none 0 0 none 0 0 (some ⟨bi,0,none⟩) 1 1 (some ⟨bo,0,none⟩) 1 1 (some ⟨bv,0,none⟩) 1 1 none 0 0 (some ⟨bm,0,none⟩) 2 2 [] [] [⟨[],[]⟩] [⟨[],[]⟩] [(false,⟨[],[]⟩)] [] [sm1,sm2] la 1 lc ka 0 kc smL w (C0 h) h1 h2 (by simp [smL]) (by simp [smL]) True (EA bi bo bv bm w h) trivial Dy LL 1 2 0 none 0 0 (xD 2 0 []) ⟨2,0,_,[],rfl,rfl,A4 _ (by omega) (by omega),A4 _ (by omega) (by omega),Cb⟩ MJ (by rw [LK];intro x hx;simp at hx;subst hx;simp [smL])
 rw [Ol] at key
 exact key
theorem Gq {n K kf:Nat} {gs:List (Int × Int)} {vs:List (Bool × Lab)} {ls:List Lab} {fs:List FnD} {main:List D} {st:ISt} (h:Bz n K kf gs vs ls fs main st):Dh n K kf (vs.map Prod.fst) (ls.map (AA (AD gs) n)) fs main st true=true:=by
 obtain ⟨k,hk,hm,-⟩:=h
 have hk2:st=DZ n K kf (vs.map Prod.fst) (ls.map (AA (AD gs) n)) fs main ⟨(B5 n K kf (vs.map Prod.fst) (ls.map (AA (AD gs) n)) fs main (Ch gs n vs fs.length) k).vs,(B5 n K kf (vs.map Prod.fst) (ls.map (AA (AD gs) n)) fs main (Ch gs n vs fs.length) k).fs,false⟩:=hk
 rw [hk2] at hm
 obtain ⟨h1,h2⟩:=Kr n K kf _ _ fs main _ hm
 rw [hk2,h1]
 exact h2
theorem Lc {gs:List (Int × Int)} {n:Nat} {vs:List (Bool × Lab)} {i:Nat} (h:i < vs.length):(Cl gs n vs).getD i AE=if vs[i].1=true then AA (AD gs) n vs[i].2 else Bw n:=by
 simp [Cl,List.getD_eq_getElem?_getD,h]
theorem Jl (gs) (n:Nat) (vs:List (Bool × Lab)) (nf:Nat) (b:Bool):EB n vs.length nf (vs.map Prod.fst) (Cl gs n vs) ⟨Cl gs n vs,List.replicate nf (Bw n),b⟩:=by
 refine ⟨by simp [Cl],by simp,fun l hl=>?_,fun l hl=>?_,fun i _=>rfl⟩
 ·simp only [Cl,List.mem_map] at hl
  obtain ⟨v,-,rfl⟩:=hl
  split
  ·exact FV _ _ _
  ·exact Dc n
 ·rw [List.eq_of_mem_replicate hl]
  exact Dc n
theorem EB.more {n nv nf:Nat} {known:List Bool} {L:List Lev} {st:ISt} (h:EB n nv nf known L st) (b:Bool):EB n nv nf known L ⟨st.vs,st.fs,b⟩:=⟨h.lv,h.lf,h.rv,h.rf,h.kn⟩
theorem Jh (n K kf:Nat) (gs) (vs:List (Bool × Lab)) (ls:List Lab) (fs:List FnD) (main):∀ k,EB n vs.length fs.length (vs.map Prod.fst) (Cl gs n vs) (B5 n K kf (vs.map Prod.fst) (ls.map (AA (AD gs) n)) fs main (Ch gs n vs fs.length) k)
 | 0=>Jl gs n vs fs.length true
 | k+1=>(Kq n vs.length fs.length K kf _ (Cl gs n vs) _ fs main _).1 ((Jh n K kf gs vs ls fs main k).more false)
theorem F3 (n K kf:Nat) (gs) (vs:List (Bool × Lab)) (ls:List Lab) (fs:List FnD) (main) (L:ISt) (hv:L.vs.length=vs.length) (hf:L.fs.length=fs.length) (hkn:∀ i (hi:i < vs.length),vs[i].1=true->L.vs.getD i AE=AA (AD gs) n vs[i].2) (hb:Dh n K kf (vs.map Prod.fst) (ls.map (AA (AD gs) n)) fs main L true=true):∀ k,LeI n (B5 n K kf (vs.map Prod.fst) (ls.map (AA (AD gs) n)) fs main (Ch gs n vs fs.length) k) L
 | 0=>by
  refine ⟨fun i=>?_,fun i=>?_⟩
  ·show Ay ((Cl gs n vs).getD i AE) _ n=true
   by_cases hi:i < vs.length
   ·rw [Lc hi]
    split
    ·rename_i hk
     rw [hkn i hi hk]
     exact Ck _ _
    ·exact Ho _ _
   ·rw [EO (by simp [Cl];omega),EO (by omega)]
    exact Ck _ _
  ·show Ay ((List.replicate fs.length (Bw n)).getD i AE) _ n=true
   by_cases hi:i < fs.length
   ·have:(List.replicate fs.length (Bw n)).getD i AE=Bw n:=by simp [List.getD_eq_getElem?_getD,hi]
    rw [this]
    exact Ho _ _
   ·rw [EO (by simp;omega),EO (by omega)]
    exact Ck _ _
 | k+1=>I7 n K kf _ _ fs main L _ (F3 n K kf gs vs ls fs main L hv hf hkn hb k) hb
theorem F6 {n K kf:Nat} {gs:List (Int × Int)} {vs:List (Bool × Lab)} {ls:List Lab} {fs:List FnD} {main:List D} {st L:ISt} (h:Bz n K kf gs vs ls fs main st) (hv:L.vs.length=vs.length) (hf:L.fs.length=fs.length) (hkn:∀ i (hi:i < vs.length),vs[i].1=true->L.vs.getD i AE=AA (AD gs) n vs[i].2) (hb:Dh n K kf (vs.map Prod.fst) (ls.map (AA (AD gs) n)) fs main L true=true):LeI n st L:=by
 obtain ⟨k,hk,-,-⟩:=h
 rw [hk]
 exact F3 n K kf gs vs ls fs main L hv hf hkn hb (k+1)
end Go.Proofs.YtfffpjkcfnekaaaGreat.Ex
