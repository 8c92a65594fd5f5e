/- One who judges is made. -/
import Derived.Test.YtfffpjkcfnekaaaGreatF35
set_option linter.unusedVariables false
set_option maxHeartbeats 8000000
set_option maxRecDepth 100000
namespace Go.Proofs.YtfffpjkcfnekaaaGreat.Ex
open Go.RowKit
open Go.Value renaming slice -> O, int -> U, bool -> zg, agg -> zh, pointer -> zj, tuple -> zm
open Go.IntKind renaming i64 -> zd
open Go.Obj renaming cells -> ze
open Go.Ending renaming returned -> zk
theorem Mg (cs:List Value) (av:Value) (w:World) (hl:cs.length=10):AW cs w w.heap.size av [] (O none 0 0) (w.alloc (.cells (cs++[av,Value.slice none 0 0]:List Value).toArray 165)):=
 ⟨bA w _,Ae.new _ _ _,fun j=>by simp [go_sem],World.ownsRow_nil ..,by simp [Value.ownBlock],⟨Nat.le_refl _,by simp⟩,hl⟩
theorem Kx (c:WC) (gs) (w:World) (hg:Az w (O c.ga c.gn c.gc) gs) (hE:AU c.n gs=0) :
  Calls Tryz.prog 86 #[zh #[U zd (c.n:Int),O c.ga c.gn c.gc,O c.sa c.sn c.sc,O c.ya c.yn c.yc,O c.oa c.on c.oc,O c.va c.vn c.vc,O c.fa c.fn c.fc,O c.ba c.bn c.bc],zh #[O c.la c.ln c.lc,O c.ka c.kn c.kc]] w fun e w'=>∃ w1 ob,e=zk (zj (some ⟨w1.heap.size,0,none⟩))/\CL w1 ob c.n (AD gs) c.n/\Ov w w1/\w'=w1.alloc (.cells (c.cs++[Value.slice (some ⟨ob,0,none⟩) c.n c.n,Value.slice none 0 0]:List Value).toArray 165):=by
 obtain ⟨n,hn,h1,h6,hgs,h20,hin⟩:=D5 hE
 obtain rfl:c.n=n:=by omega
 have hb:Ov w ((w.alloc (ze #[U zd (c.n:Int),O c.ga c.gn c.gc,O c.sa c.sn c.sc,O c.ya c.yn c.yc,O c.oa c.on c.oc,O c.va c.vn c.vc,O c.fa c.fn c.fc,O c.ba c.bn c.bc] 31)).alloc (ze #[O c.la c.ln c.lc,O c.ka c.kn c.kc] 44)):=(bA w _).alloc (by simp) _
 have KF:=Aa (Mn c.n h1 h6 (O c.ga c.gn c.gc) (AD gs) ((w.alloc (ze #[U zd (c.n:Int),O c.ga c.gn c.gc,O c.sa c.sn c.sc,O c.ya c.yn c.yc,O c.oa c.on c.oc,O c.va c.vn c.vc,O c.fa c.fn c.fc,O c.ba c.bn c.bc] 31)).alloc (ze #[O c.la c.ln c.lc,O c.ka c.kn c.kc] 44)) (by rw [hgs];exact Af hg hb) h20 hin (by rw [hgs];exact hE))
 have HB:=Aa hb
 have rP:Ae [U zd (c.n:Int),O c.ga c.gn c.gc,O c.sa c.sn c.sc,O c.ya c.yn c.yc,O c.oa c.on c.oc,O c.va c.vn c.vc,O c.fa c.fn c.fc,O c.ba c.bn c.bc] ((w.alloc (ze #[U zd (c.n:Int),O c.ga c.gn c.gc,O c.sa c.sn c.sc,O c.ya c.yn c.yc,O c.oa c.on c.oc,O c.va c.vn c.vc,O c.fa c.fn c.fc,O c.ba c.bn c.bc] 31)).alloc (ze #[O c.la c.ln c.lc,O c.ka c.kn c.kc] 44)) w.heap.size:=(Ae.new _ _ _).over (bA _ _)
 have rL:Ae [O c.la c.ln c.lc,O c.ka c.kn c.kc] ((w.alloc (ze #[U zd (c.n:Int),O c.ga c.gn c.gc,O c.sa c.sn c.sc,O c.ya c.yn c.yc,O c.oa c.on c.oc,O c.va c.vn c.vc,O c.fa c.fn c.fc,O c.ba c.bn c.bc] 31)).alloc (ze #[O c.la c.ln c.lc,O c.ka c.kn c.kc] 44)) (w.heap.size+1):=by
  have r:=Ae.new [O c.la c.ln c.lc,O c.ka c.kn c.kc] 44 (w.alloc (ze #[U zd (c.n:Int),O c.ga c.gn c.gc,O c.sa c.sn c.sc,O c.ya c.yn c.yc,O c.oa c.on c.oc,O c.va c.vn c.vc,O c.fa c.fn c.fc,O c.ba c.bn c.bc] 31))
  simpa using r
 have HP:=Aa rP
 have HL:=Aa rL
 clear hg hE hgs h20 hin hb hn
 obtain ⟨t0,t1,t2,t3,t4,t5,t6,t7⟩:=rc8 rP
 obtain ⟨u0,u1⟩:=rc2 rL
 clear rP rL
 go_enter Tryz.func86,Tryz.ntmps86
 go_wp2_with fail
 refine (KF.o).mono ?_
 rintro e w1 ⟨ob,rfl,hR,hb1⟩
 have q0:=Ab hb1 _ _ (HP.o 0 _ rfl)
 have q1:=Ab hb1 _ _ (HP.o 1 _ rfl)
 have q2:=Ab hb1 _ _ (HP.o 2 _ rfl)
 have q3:=Ab hb1 _ _ (HP.o 3 _ rfl)
 have q4:=Ab hb1 _ _ (HP.o 4 _ rfl)
 have q5:=Ab hb1 _ _ (HP.o 5 _ rfl)
 have q6:=Ab hb1 _ _ (HP.o 6 _ rfl)
 have q7:=Ab hb1 _ _ (HP.o 7 _ rfl)
 have s0:=Ab hb1 _ _ (HL.o 0 _ rfl)
 have s1:=Ab hb1 _ _ (HL.o 1 _ rfl)
 have HB1:=Aa (Ac HB.o hb1)
 have HR:=Aa hR
 clear hb1 hR t0 t1 t2 t3 t4 t5 t6 t7 u0 u1
 go_wp2_with fail
 go_ret
 exact ⟨w1,ob,rfl,HR.o,HB1.o,rfl⟩
def BQ (n K kf:Nat) (gs:List (Int × Int)) (sp:List Int) (Ls Fs:List Lev) (vs:List (Bool × Lab)) (ls ms:List Lab) (fs:List FnD) (l:List D):List (Int × Int):=
 CA n K (fun _=>Ls) (CD n K (AD gs) sp Ls vs ls ms fs) (fun _=>Fs) kf fs l []
def Nt (K kf:Nat) (m:Int) (vn yn on:Nat) (gs:List (Int × Int)) (sp:List Int) (ls ms:List Lab) (vs:List (Bool × Lab)) (fs:List FnD) (l:List D) (P:Int->Prop) (w:World) (e:Ending) (w':World):Prop:=
 ∃ why:Int,P why/\Ov w w'/\((why≠0/\e=zk (zm #[O none 0 0,U zd why])) \/
  (why=0/\okP K kf m vn yn on gs sp ls ms vs fs l/\∃ (n:Nat) (st:ISt) (fv:Value) (B:Nat),m=n/\e=zk (zm #[fv,U zd 0])/\Bz n K kf gs vs ls fs l st/\(∀ x∈st.vs,x.len n)/\(∀ x∈st.fs,x.len n)/\st.vs.length=vn/\st.fs.length=fs.length/\w.heap.size<=B/\w'.ownsRow B 89 2 fv (BQ n K kf gs sp st.vs st.fs vs ls ms fs l).length (DI (BQ n K kf gs sp st.vs st.fs vs ls ms fs l))))
theorem JI (args:Array Value) (w:World):(callFunc 88 args).run Tryz.prog w=.ok (.enter 88 args) w:=by simp [go_sem]
theorem MU (K kf n:Nat) (ga gn gc sa sn sc ya yn yc oa on oc va vn vc fa fn fc ba bn bc) (la ln lc ka kn kc) (gs sp ls ms vs fs l) (st:ISt) (w:World) (h:BE K kf (n:Int) ga gn gc sa sn sc ya yn yc oa on oc va vn vc fa fn fc ba bn bc gs sp ls ms vs fs l w) (hok:okP K kf (n:Int) vn yn on gs sp ls ms vs fs l) (hs:(sp.length:Int)<=n) (hlv:Bg w (O la ln lc) st.vs) (hlf:Bg w (O ka kn kc) st.fs) (hll:∀ x∈st.vs,x.len n) (hfl:∀ x∈st.fs,x.len n) (hvn:st.vs.length=vn) (hfn:st.fs.length=fs.length) (ob:Nat) (hR:CL w ob n (AD gs) n) :
  Calls Tryz.prog 87 #[zh #[U zd (n:Int),O ga gn gc,O sa sn sc,O ya yn yc,O oa on oc,O va vn vc,O fa fn fc,O ba bn bc,O la ln lc,O ka kn kc],.func (.func 88) #[zj (some ⟨w.heap.size,0,none⟩)] #[]] (w.alloc (ze #[U zd (n:Int),O ga gn gc,O sa sn sc,O ya yn yc,O oa on oc,O va vn vc,O fa fn fc,O ba bn bc,O la ln lc,O ka kn kc,O (some ⟨ob,0,none⟩) n n,O none 0 0] 165)) fun e W'=>e=zk (zm #[])/\(∃ fv,AW [U zd (n:Int),O ga gn gc,O sa sn sc,O ya yn yc,O oa on oc,O va vn vc,O fa fn fc,O ba bn bc,O la ln lc,O ka kn kc] w w.heap.size (O (some ⟨ob,0,none⟩) n n) (BQ n K kf gs sp st.vs st.fs vs ls ms fs l) fv W'):=by
 obtain ⟨n',hn,h1,h6,-⟩:=D5 hok.chk
 obtain rfl:n'=n:=by omega
 clear hn
 have hvV:=h.vars
 obtain rfl:vn=vs.length:=by obtain ⟨-,a,c,he,-⟩:=h.vars;injection he
 obtain rfl:yn=ls.length:=by obtain ⟨-,a,c,he,-⟩:=h.ins;injection he
 obtain rfl:on=ms.length:=by obtain ⟨-,a,c,he,-⟩:=h.outs;injection he
 obtain rfl:fn=fs.length:=by obtain ⟨-,a,c,he,-⟩:=h.funcs;injection he
 obtain ⟨c,hc⟩:∃ c:WC,c=⟨n',ga,gn,gc,sa,sn,sc,ya,ls.length,yc,oa,ms.length,oc,va,vs.length,vc,fa,fs.length,fc,ba,bn,bc,la,ln,lc,ka,kn,kc⟩:=⟨_,rfl⟩
 have J:JSt c w gs st.vs st.fs:=by
  subst hc
  exact ⟨h1,h6,h.grants,hok.chk,hlv,hll,hlf,hfl,by have:=hok.vars;omega⟩
 have A:JAc c w (O (some ⟨ob,0,none⟩) n' n') (AD gs) sp:=by
  subst hc
  exact ⟨⟨ob,rfl,hR⟩,h.speak,by show sp.length<=6;omega,fun x hx=>hok.speak x hx⟩
 have hvs:Br w (O c.va c.vn c.vc) vs:=by subst hc;exact h.vars
 have hls:Bb w (O c.ya c.yn c.yc) ls:=by subst hc;exact h.ins
 have hos:Bb w (O c.oa c.on c.oc) ms:=by subst hc;exact h.outs
 have hfs:BC w K kf (O c.fa c.fn c.fc) fs:=by subst hc;exact h.funcs
 have hm:Bf w K kf (O c.ba c.bn c.bc) l:=by subst hc;exact h.main
 have hcn:c.n=n':=by subst hc;rfl
 have hvc:∀ v∈vs,Bo c.n gs v.2=0:=by rw [hcn];exact hok.labs.2.1
 have hlc:∀ b∈ls,Bo c.n gs b=0:=by rw [hcn];exact fun b hb=>hok.labs.1 b (List.mem_append.2 (Or.inl hb))
 have hoc:∀ b∈ms,Bo c.n gs b=0:=by rw [hcn];exact fun b hb=>hok.labs.1 b (List.mem_append.2 (Or.inr hb))
 have hof:∀ i (h:i < fs.length),okF K st.vs.length ls.length ms.length (i:Int) fs kf fs[i]:=by rw [hvn];exact hok.body
 have hom:∀ s∈l,okS K st.vs.length ls.length ms.length (fs.length:Int) fs kf s:=by rw [hvn];exact hok.main
 have hR1:=MN c w w.heap.size (O (some ⟨ob,0,none⟩) n' n') gs st.vs st.fs J sp A K ls.length ms.length fs vs hvs hvn.symm hvc
 have hT1:=NU c w w.heap.size (O (some ⟨ob,0,none⟩) n' n') gs st.vs st.fs J sp A K ls.length ms.length fs vs hvs hvn.symm hvc
 have hD:=jDo c w w.heap.size (O (some ⟨ob,0,none⟩) n' n') gs st.vs st.fs J sp A K ls.length ms.length fs vs hvs hvn.symm hvc ls hls hlc rfl hok.ins ms hos hoc rfl hok.outs kf hfs hok.funcs hof hR1 hT1
 have hE:=NN (K:=K) (nv:=st.vs.length) (ni:=ls.length) (no:=ms.length) (kf:=kf) (Px (bj:=w.heap.size) (av:=O (some ⟨ob,0,none⟩) n' n') J fs hfn) (CD c.n K (AD gs) sp st.vs vs ls ms fs) 88 [zj (some ⟨w.heap.size,0,none⟩)] [] pmJ (Ot c.n K (AD gs) sp st.vs vs ls ms fs) JI hD l hfs hm hof hom hok.many hok.funcs [] (w.alloc (.cells (c.cs++[Value.slice (some ⟨ob,0,none⟩) n' n',Value.slice none 0 0]:List Value).toArray 165)) ⟨_,Mg c.cs (O (some ⟨ob,0,none⟩) n' n') w rfl⟩ (by unfold pmJ;simp)
 subst hc
 exact hE.mono fun e W' h=>⟨h.1,h.2.1⟩
theorem J8 (K kf:Nat) (m:Int) (ga gn gc sa sn sc ya yn yc oa on oc va vn vc fa fn fc ba bn bc) (gs sp ls ms vs fs l) (w:World) (h:BE K kf m ga gn gc sa sn sc ya yn yc oa on oc va vn vc fa fn fc ba bn bc gs sp ls ms vs fs l w) (P:Int->Prop) (KS:∀ W,Ov w W->Calls Tryz.prog 53 #[zh #[U zd m,O ga gn gc,O sa sn sc,O ya yn yc,O oa on oc,O va vn vc,O fa fn fc,O ba bn bc]] W fun e w'=>∃ why:Int,e=zk (U zd why)/\P why/\Ov W w') (hP:P 0->okP K kf m vn yn on gs sp ls ms vs fs l) (hS:P 0->(sp.length:Int)<=m) :
  Calls Tryz.prog 35 #[zh #[U zd m,O ga gn gc,O sa sn sc,O ya yn yc,O oa on oc,O va vn vc,O fa fn fc,O ba bn bc]] w (Nt K kf m vn yn on gs sp ls ms vs fs l P w):=by
 have hb0:Ov w (w.alloc (ze #[U zd m,O ga gn gc,O sa sn sc,O ya yn yc,O oa on oc,O va vn vc,O fa fn fc,O ba bn bc] 31)):=bA w _
 have rowP:=Ae.new [U zd m,O ga gn gc,O sa sn sc,O ya yn yc,O oa on oc,O va vn vc,O fa fn fc,O ba bn bc] 31 w
 have K1:=Aa (Hh K kf m ga gn gc sa sn sc ya yn yc oa on oc va vn vc fa fn fc ba bn bc gs sp ls ms vs fs l _ (h.over hb0) P (fun W hW=>KS W (Ac hb0 hW)) hP)
 have HB0:=Aa hb0
 have HR:=Aa rowP
 have HH:=Aa h
 have HS:=Aa hS
 obtain ⟨p0,p1,p2,p3,p4,p5,p6,p7⟩:=rc8 rowP
 clear hb0 rowP h KS hP hS
 go_enter Tryz.func35,Tryz.ntmps35
 go_wp2_with fail
 refine (K1.o).mono ?_
 rintro e w1 ⟨why,hPw,hb1,hcase⟩
 have HB1:=Aa (Ac HB0.o hb1)
 have HRB1:=Aa hb1
 rcases hcase with ⟨hne,rfl⟩ | ⟨rfl,hok,n,st,la,ln,lc,ka,kn,kc,rfl,rfl,hlv,hlf,hll,hfl,hvn,hfn,hInf,-,-⟩
 ·have hz:¬ why=0:=hne
  have HPW:=Aa hPw
  have HNE:=Aa hne
  clear hPw hb1 hne
  go_wp2_with fail
  refine bodyPost_ret (v:=zm #[O none 0 0,U zd why]) (by simp [results,Tryz.results35,go_sem]) rfl ?_
  exact ⟨why,HPW.o,Ac HB1.o (bA _ _),Or.inl ⟨HNE.o,rfl⟩⟩
 ·have hb2:Ov w1 (w1.alloc (ze #[O la ln lc,O ka kn kc] 44)):=bA _ _
  have r2:=Ae.new [O la ln lc,O ka kn kc] 44 w1
  obtain ⟨q0,q1⟩:=rc2 r2
  obtain ⟨s0,s1,s2,s3,s4,s5,s6,s7⟩:=co8 (Ac hb1 hb2) p0 p1 p2 p3 p4 p5 p6 p7
  have KN:=Aa (Kx ⟨n,ga,gn,gc,sa,sn,sc,ya,yn,yc,oa,on,oc,va,vn,vc,fa,fn,fc,ba,bn,bc,la,ln,lc,ka,kn,kc⟩ gs _ (Af HH.o.grants (Ac HB1.o hb2)) hok.chk)
  have KG:=Aa (fun (w3:World) (hb3:Ov (w1.alloc (ze #[O la ln lc,O ka kn kc] 44)) w3) (ob:Nat) (hR:CL w3 ob n (AD gs) n)=>MU K kf n ga gn gc sa sn sc ya yn yc oa on oc va vn vc fa fn fc ba bn bc la ln lc ka kn kc gs sp ls ms vs fs l st w3 (HH.o.over (Ac (Ac HB1.o hb2) hb3)) hok (HS.o hPw) (Aw (Aw hlv hb2) hb3) (Aw (Aw hlf hb2) hb3) hll hfl hvn hfn ob hR)
  have HB2:=Aa (Ac HB1.o hb2)
  have HALL:=Aa (show P 0/\okP K kf (n:Int) vn yn on gs sp ls ms vs fs l/\Bz n K kf gs vs ls fs l st/\(∀ x∈st.vs,x.len n)/\(∀ x∈st.fs,x.len n)/\st.vs.length=vn/\st.fs.length=fs.length from ⟨hPw,hok,hInf,hll,hfl,hvn,hfn⟩)
  clear hPw hb1 hok hlv hlf hll hfl hvn hfn hInf r2 hb2 HB1 HRB1 HR p0 p1 p2 p3 p4 p5 p6 p7
  go_wp2_with fail
  refine (KN.o).mono ?_
  rintro e w4 ⟨w3,ob,rfl,hR,hb3,rfl⟩
  have KG2:=Aa (KG.o w3 hb3 ob hR)
  have HB3:=Aa (Ac HB2.o hb3)
  have r4:=Ae.new [U zd (n:Int),O ga gn gc,O sa sn sc,O ya yn yc,O oa on oc,O va vn vc,O fa fn fc,O ba bn bc,O la ln lc,O ka kn kc,O (some ⟨ob,0,none⟩) n n,O none 0 0] 165 w3
  obtain ⟨t0,t1,t2,t3,t4,t5,t6,t7,t8,t9⟩:=Cd r4
  simp only [List.cons_append,List.nil_append] at *
  clear hR hb3 r4 KG KN s0 s1 s2 s3 s4 s5 s6 s7 q0 q1
  go_wp2_with fail
  refine (KG2.o).mono ?_
  rintro e w5 ⟨rfl,fv,hJ⟩
  have c11:=hJ.c11
  have HJ:=Aa hJ
  clear hJ t0 t1 t2 t3 t4 t5 t6 t7 t8 t9
  go_wp2_with fail
  obtain ⟨h0,hok,hInf,hll,hfl,hvn,hfn⟩:=HALL.o
  refine bodyPost_ret (v:=zm #[fv,U zd 0]) (by simp [results,Tryz.results35,go_sem]) rfl ?_
  exact ⟨0,h0,HB3.o.trans (HJ.o.below.mono HB3.o.size),Or.inr ⟨rfl,hok,n,st,fv,w3.heap.size,rfl,rfl,hInf,hll,hfl,hvn,hfn,HB3.o.size,HJ.o.own⟩⟩
theorem MR {W:World} {B e s n:Nat} {a:Option Addr} {k c:Nat} {xs:List Value} (h:W.ownsRow B e s (O a k c) n xs):k=n:=by
 rcases h.2 with ⟨h,h2⟩ | ⟨g,cap,cur,h,hb,hh,-⟩
 ·injection h with h1 h2' h3
  omega
 ·injection h with h1 h2 h3
def ME (K kf:Nat) (m:Int) (vn yn on:Nat) (gs:List (Int × Int)) (sp:List Int) (ls ms:List Lab) (vs:List (Bool × Lab)) (fs:List FnD) (l:List D) (P:Int->Prop) (w:World) (e:Ending) (w':World):Prop:=
 ∃ why:Int,P why/\Ov w w'/\((why≠0/\e=zk (zm #[zg false,U zd why])) \/
  (why=0/\okP K kf m vn yn on gs sp ls ms vs fs l/\∃ (n:Nat) (st:ISt),m=n/\e=zk (zm #[zg (decide (BQ n K kf gs sp st.vs st.fs vs ls ms fs l=[])),U zd 0])/\Bz n K kf gs vs ls fs l st/\(∀ x∈st.vs,x.len n)/\(∀ x∈st.fs,x.len n)/\st.vs.length=vn/\st.fs.length=fs.length))
theorem NM (K kf:Nat) (m:Int) (ga gn gc sa sn sc ya yn yc oa on oc va vn vc fa fn fc ba bn bc) (gs sp ls ms vs fs l) (w:World) (h:BE K kf m ga gn gc sa sn sc ya yn yc oa on oc va vn vc fa fn fc ba bn bc gs sp ls ms vs fs l w) (P:Int->Prop) (KS:∀ W,Ov w W->Calls Tryz.prog 53 #[zh #[U zd m,O ga gn gc,O sa sn sc,O ya yn yc,O oa on oc,O va vn vc,O fa fn fc,O ba bn bc]] W fun e w'=>∃ why:Int,e=zk (U zd why)/\P why/\Ov W w') (hP:P 0->okP K kf m vn yn on gs sp ls ms vs fs l) (hS:P 0->(sp.length:Int)<=m) :
  Calls Tryz.prog 10 #[zh #[U zd m,O ga gn gc,O sa sn sc,O ya yn yc,O oa on oc,O va vn vc,O fa fn fc,O ba bn bc]] w (ME K kf m vn yn on gs sp ls ms vs fs l P w):=by
 have hb0:Ov w (w.alloc (ze #[U zd m,O ga gn gc,O sa sn sc,O ya yn yc,O oa on oc,O va vn vc,O fa fn fc,O ba bn bc] 31)):=bA w _
 have rowP:=Ae.new [U zd m,O ga gn gc,O sa sn sc,O ya yn yc,O oa on oc,O va vn vc,O fa fn fc,O ba bn bc] 31 w
 have K1:=Aa (J8 K kf m ga gn gc sa sn sc ya yn yc oa on oc va vn vc fa fn fc ba bn bc gs sp ls ms vs fs l _ (h.over hb0) P (fun W hW=>KS W (Ac hb0 hW)) hP hS)
 have HB0:=Aa hb0
 obtain ⟨p0,p1,p2,p3,p4,p5,p6,p7⟩:=rc8 rowP
 clear hb0 rowP h KS hP hS
 go_enter Tryz.func10,Tryz.ntmps10
 go_wp2_with fail
 refine (K1.o).mono ?_
 rintro e w1 ⟨why,hPw,hb1,hcase⟩
 have HB1:=Aa (Ac HB0.o hb1)
 rcases hcase with ⟨hne,rfl⟩ | ⟨rfl,hok,n,st,fv,B,rfl,rfl,hInf,hll,hfl,hvn,hfn,hB,hown⟩
 ·have hz:¬ why=0:=hne
  have HPW:=Aa hPw
  have HNE:=Aa hne
  clear hPw hb1 hne
  go_wp2_with fail
  refine bodyPost_ret (v:=zm #[zg false,U zd why]) (by simp [results,Tryz.results10,go_sem]) rfl ?_
  exact ⟨why,HPW.o,HB1.o,Or.inl ⟨HNE.o,rfl⟩⟩
 ·have HALL:=Aa (show P 0/\okP K kf (n:Int) vn yn on gs sp ls ms vs fs l/\Bz n K kf gs vs ls fs l st/\(∀ x∈st.vs,x.len n)/\(∀ x∈st.fs,x.len n)/\st.vs.length=vn/\st.fs.length=fs.length from ⟨hPw,hok,hInf,hll,hfl,hvn,hfn⟩)
  obtain ⟨fa',fn',fc',rfl⟩:=Ak hown
  have hlen:fn'=(BQ n K kf gs sp st.vs st.fs vs ls ms fs l).length:=MR hown
  have HLEN:=Aa hlen
  clear hPw hb1 hok hInf hll hfl hvn hfn hB hown hlen
  go_wp2_with fail
  obtain ⟨h0,hok,hInf,hll,hfl,hvn,hfn⟩:=HALL.o
  have hz:((fn':Int) == 0)=decide (BQ n K kf gs sp st.vs st.fs vs ls ms fs l=[]):=by
   rw [HLEN.o]
   by_cases hq:BQ n K kf gs sp st.vs st.fs vs ls ms fs l=[]
   ·simp [hq]
   ·have:(BQ n K kf gs sp st.vs st.fs vs ls ms fs l).length≠0:=fun e=>hq (List.length_eq_zero_iff.1 e)
    simp [hq]
  refine bodyPost_ret (v:=zm #[zg ((fn':Int) == 0),U zd 0]) (by simp [results,Tryz.results10,go_sem]) rfl ?_
  exact ⟨0,h0,HB1.o,Or.inr ⟨rfl,hok,n,st,rfl,by rw [hz],hInf,hll,hfl,hvn,hfn⟩⟩
abbrev Vis:=List (Int × D × Lev)
def LC (n K kf:Nat) (Ls Fs:List Lev) (fs:List FnD) (main:List D):Vis:=CA n K (fun _=>Ls) (fun a d p (acc:Vis)=>acc++[(a,d,p)]) (fun _=>Fs) kf fs main []
theorem H7 {τ:Type} (n K kf:Nat) (Ls Fs:List Lev) (fs main) (step:Int->D->Lev->τ->τ) (st:τ):CA n K (fun _=>Ls) step (fun _=>Fs) kf fs main st=(LC n K kf Ls Fs fs main).foldl (fun s x=>step x.1 x.2.1 x.2.2 s) st:=by
 unfold LC
 exact (Fb n K (fun _=>Ls) (fun _=>Fs) (fun a d p (acc:Vis)=>acc++[(a,d,p)]) (fun _=>Ls) (fun _=>Fs) step (fun p q=>p=q) (fun acc t=>t=acc.foldl (fun s x=>step x.1 x.2.1 x.2.2 s) st) (fun _=>True) (fun _=>True) (fun _ _ _ _ _=>trivial) (fun _ _ _ _ _=>trivial)
  (fun a d p p' s t h hp _ _=>by subst hp;subst h;exact ⟨by simp,rfl⟩) (fun _ _ _ _=>rfl) rfl kf fs main [] st rfl trivial trivial)
theorem MG {P:Nat->Nat->D->Prop} {Pm:Nat->D->Prop} {P1:D->Prop} (hPm:∀ k d,Pm (k+1) d->P1 d/\(∀ s∈Av d,Pm k s)/\∀ s∈Ax d,Pm k s) (hQ:∀ i k d,P i (k+1) d->P1 d/\(∀ s∈Av d,P i k s)/\∀ s∈Ax d,P i k s) (n K kf:Nat) (Ls Fs:List Lev) (fs:List FnD) (main:List D)
  (hf:∀ i (h:i < fs.length),∀ s∈fs[i].body,P i kf s) (hm:∀ s∈main,Pm kf s):∀ x∈LC n K kf Ls Fs fs main,P1 x.2.1:=by
 have h:=Ft n K (fun _=>Ls) (fun a d p (acc:Vis)=>acc++[(a,d,p)]) (P:=Pm) hPm hQ (R:=fun a b=>(∀ x∈a,P1 x.2.1)->∀ x∈b,P1 x.2.1) (fun _ h=>h) (fun h1 h2 h=>h2 (h1 h)) (fun a d p st hd h x hx=>by
  rcases List.mem_append.1 hx with hx | hx
  ·exact h x hx
  ·rw [List.mem_singleton.1 hx];exact hd) (fun _=>Fs) kf fs main [] hf hm
 exact h (fun x hx=>by cases hx)
theorem Bh {a k:Int} {fl:List (Int × Int)} {b:Bool} (h:addF a k fl b=[]):b=false/\fl=[]:=by
 cases b with
 | true=>simp [addF] at h
 | false=>exact ⟨rfl,h⟩
section
variable {n K:Nat} {gn:List (Nat × Nat)} {sp:List Int} {Ls:List Lev} {vs:List (Bool × Lab)} {ins outs:List Lab} {fs:List FnD}
theorem Ju {a:Int} {d:D} {p:Lev} {fl:List (Int × Int)} (h:CD n K gn sp Ls vs ins outs fs a d p fl=[]):fl=[]:=by
 unfold CD at h
 split at h
 ·exact (Bh h).2
 split at h
 ·exact (Bh h).2
 split at h
 ·exact (Bh h).2
 split at h
 ·exact (Bh h).2
 split at h
 ·unfold DB at h
  exact (Bh (Bh (Bh (Bh (Bh h).2).2).2).2).2
 split at h
 ·unfold Ep at h
  exact (Bh (Bh (Bh (Bh h).2).2).2).2
 ·exact h
theorem Mo {l:Vis}:∀ {fl:List (Int × Int)},l.foldl (fun s x=>CD n K gn sp Ls vs ins outs fs x.1 x.2.1 x.2.2 s) fl=[]->fl=[]/\∀ x∈l,CD n K gn sp Ls vs ins outs fs x.1 x.2.1 x.2.2 []=[]:=by
 induction l with
 | nil=>intro fl h;exact ⟨h,fun x hx=>by cases hx⟩
 | cons y l ih=>
  intro fl h
  obtain ⟨h1,h2⟩:=ih h
  have h3:=Ju h1
  subst h3
  exact ⟨rfl,fun x hx=>by
   rcases List.mem_cons.1 hx with rfl | hx
   ·exact h1
   ·exact h2 x hx⟩
end
theorem Gc (n:Nat) (L:List Lev):∀ (vs:List Int) (l q:Lev),Ay l q n=true->Ay l (AZ n L q vs) n=true
 | [],_,_,h=>h
 | v::vs,l,q,h=>Gc n L vs l _ (CR h (Gd _ _ _))
section
variable {n K:Nat} {known known':List Bool} {L:ISt} {fs:List FnD}
theorem Dx (l:Lev) (v:Int) (b:Bool):toVar known (BM n L) l v b=(b && (known.getD v.toNat false || Ay l (L.vs.getD v.toNat AE) n)):=by
 unfold toVar BM ISt.at
 cases known.getD v.toNat false <;> simp
theorem JL (p:Lev):∀ (qs:List (Int × D)) (b:Bool),qs.foldl (CF n K (fun _=>L.vs) known (BM n L) p) b=(b && qs.all (fun q=>known.getD q.1.toNat false || Ay (AZ n L.vs p (AF K q.2)) (L.vs.getD q.1.toNat AE) n))
 | [],b=>by simp
 | q::qs,b=>by
  rw [List.foldl_cons,JL p qs]
  unfold CF
  rw [Dx]
  simp [Bool.and_assoc]
theorem Mx (ins:List Lev) (a:Int) (d p) (b:Bool):BX n K (fun _=>L.vs) known ins fs (BM n L) a d p b=(b && BX n K (fun _=>L.vs) known ins fs (BM n L) a d p true):=by
 unfold BX DM
 simp only [Dx,JL]
 unfold BM
 cases b <;> simp
theorem IG (ins:List Lev):∀ (l:Vis) (b:Bool),l.foldl (fun s x=>BX n K (fun _=>L.vs) known ins fs (BM n L) x.1 x.2.1 x.2.2 s) b=(b && l.all (fun x=>BX n K (fun _=>L.vs) known ins fs (BM n L) x.1 x.2.1 x.2.2 true))
 | [],b=>by simp
 | x::l,b=>by
  rw [List.foldl_cons,IG ins l,Mx]
  simp [Bool.and_assoc]
theorem LA {n:Nat} {L:List Lev} {i:Nat} (hi:i < n):∀ {vs:List Int} {p:Lev},(AZ n L p vs).w[i]?.getD false=true->p.w[i]?.getD false=true\/(AZ n L (Bw n) vs).w[i]?.getD false=true
 | [],p,h=>Or.inl h
 | v::vs,p,h=>by
  have h1:=LA hi (vs:=vs) (p:=Bs p (L.getD v.toNat AE) n) h
  have key:∀ (q:Lev),((L.getD v.toNat AE).w[i]?.getD false=true\/(AZ n L (Bw n) vs).w[i]?.getD false=true)->(AZ n L (Bs q (L.getD v.toNat AE) n) vs).w[i]?.getD false=true:=fun q hq=>by
   rcases hq with hq | hq
   ·exact (AL.1 (Gc n L vs _ _ (Hm q (L.getD v.toNat AE) n)) i hi).2 hq
   ·exact (AL.1 (FE (fun _=>Ck _ _) vs _ _ (Ho n _)) i hi).2 hq
  rcases h1 with h1 | h1
  ·simp only [Bs,Cs _ hi,EH,Bool.or_eq_true] at h1
   rcases h1 with h1 | h1
   ·exact Or.inl h1
   ·exact Or.inr (key (Bw n) (Or.inl h1))
  ·exact Or.inr (key (Bw n) (Or.inr h1))
theorem LB {n:Nat} {L:List Lev} {i:Nat} (hi:i < n):∀ {vs:List Int} {p:Lev},p.r[i]?.getD false=true->(AZ n L (Bw n) vs).r[i]?.getD false=true->(AZ n L p vs).r[i]?.getD false=true
 | [],p,h,_=>h
 | v::vs,p,h,h2=>by
  have hb:(AZ n L (Bw n) vs).r[i]?.getD false=true:=(AL.1 (FE (fun _=>Ck _ _) vs _ _ (Ho n (Bs (Bw n) (L.getD v.toNat AE) n))) i hi).1 h2
  have hv:(L.getD v.toNat AE).r[i]?.getD false=true:=(AL.1 (Gc n L vs _ _ (Hm (Bw n) (L.getD v.toNat AE) n)) i hi).1 h2
  refine LB hi (vs:=vs) (p:=Bs p (L.getD v.toNat AE) n) ?_ hb
  simp only [Bs,Cs _ hi,Dk,h,hv,Bool.and_self]
theorem Nm {gn:List (Nat × Nat)} {sp:List Int} {vs:List (Bool × Lab)} {ls ms:List Lab} (hk:∀ i,known'.getD i false=false) {a:Int} {d:D} {p:Lev} (hr:Am d=3->(Ah d).toNat < ls.length)
  (h:BX n K (fun _=>L.vs) known (ls.map (AA gn n)) fs (BM n L) a d p true=true) (hf:CD n K gn sp L.vs vs ls ms fs a d p []=[]):BX n K (fun _=>L.vs) known' (ls.map (AA gn n)) fs (BM n L) a d p true=true:=by
 unfold CD at hf
 unfold BX at h ⊢
 by_cases h1:Am d=1
 ·rw [if_pos h1] at hf ⊢
  have:=(Bh hf).1
  rw [Dx,hk]
  simpa using this
 rw [if_neg h1] at hf h ⊢
 by_cases h2:Am d=2
 ·rw [if_pos h2] at hf h ⊢
  have hc:=(Bh hf).1
  unfold DJ at hc
  unfold DM at h ⊢
  simp only [Dx,JL,hk,Bool.true_and,Bool.false_or] at h ⊢
  unfold BM at h ⊢
  rw [Bool.and_eq_true] at h
  rw [Bool.and_eq_true]
  refine ⟨?_,h.2⟩
  simpa using hc
 rw [if_neg h2] at hf h ⊢
 by_cases h3:Am d=3
 ·rw [if_pos h3] at hf ⊢
  have hc:=(Bh hf).1
  rw [Dx,hk,Bool.true_and,Bool.false_or]
  rw [Bool.or_eq_false_iff] at hc
  have hg:(ls.map (AA gn n)).getD (Ah d).toNat AE=AA gn n (ls.getD (Ah d).toNat ⟨[],[]⟩):=by
   simp [List.getD_eq_getElem?_getD,hr h3]
  rw [hg]
  have h4:Ay (Bs (AA gn n (ls.getD (Ah d).toNat ⟨[],[]⟩)) p n) (L.vs.getD (AK d).toNat AE) n=true:=by simpa using hc.1
  exact Hn (CR (Hm _ _ _) h4) (CR (Gd _ _ _) h4)
 rw [if_neg h3] at hf h ⊢
 by_cases h5:Am d=5
 ·rw [if_pos h5] at ⊢
  rw [if_neg (by omega),if_pos h5] at hf
  unfold DB at hf
  have e1:=Bh hf
  have e2:=Bh e1.2
  have e3:=Bh (Bh (Bh e2.2).2).2
  rw [Dx,hk,Bool.true_and,Bool.false_or]
  have hp:Ay p (L.vs.getD (AK d).toNat AE) n=true:=by simpa [toL] using e3.1
  refine AL.2 fun i hi=>⟨(AL.1 hp i hi).1,fun hw=>?_⟩
  have hv:=List.any_eq_false.1 e2.1 i (List.mem_range.2 hi)
  have hpw:=(AL.1 hp i hi).2
  have hw2:=LA hi hw
  unfold FK toL at hv
  cases ht:(L.vs.getD (AK d).toNat AE).w[i]?.getD false with
  | true=>rfl
  | false=>
   rw [ht] at hv hpw
   rcases hw2 with hw2 | hw2
   ·exact absurd (hpw hw2) (by decide)
   ·rw [hw2] at hv
    exact absurd rfl hv
 rw [if_neg h5] at hf h ⊢
 by_cases h6:Am d=6
 ·rw [if_pos h6] at ⊢
  rw [if_neg (by omega),if_pos h6] at hf
  unfold Ep at hf
  have e1:=Bh hf
  have e3:=Bh (Bh (Bh e1.2).2).2
  rw [Dx,hk,Bool.true_and,Bool.false_or]
  have hp:Ay p (L.vs.getD (AK d).toNat AE) n=true:=by simpa [toL] using e3.1
  refine AL.2 fun i hi=>⟨fun hr=>?_,(AL.1 hp i hi).2⟩
  have hv:=List.any_eq_false.1 e1.1 i (List.mem_range.2 hi)
  unfold FK toL at hv
  rw [hr] at hv
  refine LB hi ((AL.1 hp i hi).1 hr) ?_
  cases ht:(AZ n L.vs (Bw n) (AF K (AV d))).r[i]?.getD false with
  | true=>rfl
  | false=>rw [ht] at hv;exact absurd rfl hv
 rw [if_neg h6]
theorem I8 {kf:Nat} {main:List D} {gn:List (Nat × Nat)} {sp:List Int} {vs:List (Bool × Lab)} {ls ms:List Lab} (hk:∀ i,known'.getD i false=false) (hr:∀ x∈LC n K kf L.vs L.fs fs main,Am x.2.1=3->(Ah x.2.1).toNat < ls.length)
  (h:Dh n K kf known (ls.map (AA gn n)) fs main L true=true) (hf:CA n K (fun _=>L.vs) (CD n K gn sp L.vs vs ls ms fs) (fun _=>L.fs) kf fs main []=[]):Dh n K kf known' (ls.map (AA gn n)) fs main L true=true:=by
 unfold Dh at h ⊢
 rw [H7,IG,Bool.true_and,List.all_eq_true] at h ⊢
 rw [H7] at hf
 have hf2:=(Mo hf).2
 exact fun x hx=>Nm hk (hr x hx) (h x hx) (hf2 x hx)
end
theorem Iw {n K kf:Nat} {m:Int} {vn yn on sn:Nat} {gs:List (Int × Int)} {sp:List Int} {vs vs':List (Bool × Lab)} {ls ms:List Lab} {fs:List FnD} {l:List D} {st st':ISt} (hX:Ey.xP K kf m vn yn on sn gs sp ls ms vs fs l) (hy:yn=ls.length) (hI:Bz n K kf gs vs ls fs l st) (hv:st.vs.length=vs.length) (hfl:st.fs.length=fs.length)
  (hF:BQ n K kf gs sp st.vs st.fs vs ls ms fs l=[]) (h0:∀ v∈vs',v.1=false) (hl:vs'.length=vs.length) (hI':Bz n K kf gs vs' ls fs l st') (i:Nat):Ay (st'.vs.getD i AE) (st.vs.getD i AE) n=true:=by
 have hk:∀ i,(vs'.map Prod.fst).getD i false=false:=fun i=>by
  rw [List.getD_eq_getElem?_getD,List.getElem?_map]
  cases hi:vs'[i]? with
  | none=>rfl
  | some v=>exact h0 v (List.mem_of_getElem? hi)
 have hr:∀ x∈LC n K kf st.vs st.fs fs l,Am x.2.1=3->(Ah x.2.1).toNat < ls.length:=MG (P:=fun i k d=>okS K vn yn on (i:Int) fs k d) (Pm:=fun k d=>okS K vn yn on (fs.length:Int) fs k d) (P1:=fun d=>Am d=3->(Ah d).toNat < ls.length)
  (fun k d h=>⟨fun h3=>by have:=h.1.2.2.2.1 h3;omega,h.2.1,h.2.2⟩) (fun i k d h=>⟨fun h3=>by have:=h.1.2.2.2.1 h3;omega,h.2.1,h.2.2⟩) n K kf st.vs st.fs fs l (fun i hi s hs=>((hX.body i hi).2.2.2.1 s hs).ok) (fun s hs=>(hX.main s hs).ok)
 exact (F6 hI' (hv.trans hl.symm) hfl (fun i hi hh=>by rw [h0 _ (List.getElem_mem hi)] at hh;cases hh) (I8 (known:=vs.map Prod.fst) hk hr (Gq hI) hF)).1 i
end Go.Proofs.YtfffpjkcfnekaaaGreat.Ex
