/- One who judges is made. -/
import Derived.Test.YtfffpjkcfnekaaaGreatI35
import Derived.Test.YtfffpjkcfnekaaaGreatI29
set_option linter.unusedVariables false
set_option maxHeartbeats 8000000
set_option maxRecDepth 100000
namespace Go.Proofs.YtfffpjkcfnekaaaGreat.Ex
open Go.RowKit
open Go.Value renaming slice -> O, int -> zd, bool -> zg, agg -> zh, pointer -> zj, tuple -> zm
open Go.IntKind renaming i64 -> U
open Go.Obj renaming cells -> ze
open Go.Ending renaming returned -> zk
theorem O1 (cs:List Value) (av:Value) (w:World) (hl:cs.length=10):AV cs w w.heap.size av [] (O none 0 0) (w.alloc (.cells (cs++[av,Value.slice none 0 0]:List Value).toArray 165)):=
 ⟨bA w _,Ad.new _ _ _,fun j=>by simp [go_sem],World.ownsRow_nil ..,by simp [Value.ownBlock],⟨Nat.le_refl _,by simp⟩,hl⟩
theorem M8 (c:WC) (gs) (w:World) (hg:AB w (O c.ga c.gn c.gc) gs) (hE:AN c.n gs=0) :
  Calls Tryz.prog 86 #[zh #[zd U (c.n:Int),O c.ga c.gn c.gc,O c.sa c.sn c.sc,O c.ya c.yn c.yc,O c.oa c.on c.oc,O c.va c.vn c.vc,O c.fa c.fn c.fc,O c.ba c.bn c.bc],zh #[O c.la c.ln c.lc,O c.ka c.kn c.kc]] w fun e w'=>∃ w1 ob,e=zk (zj (some ⟨w1.heap.size,0,none⟩))/\C4 w1 ob c.n (AE gs) c.n/\Ov w w1/\w'=w1.alloc (.cells (c.cs++[Value.slice (some ⟨ob,0,none⟩) c.n c.n,Value.slice none 0 0]:List Value).toArray 165):=by
 obtain ⟨n,G,I,H,f,i,g⟩:=Fh hE;obtain rfl:c.n=n:=by omega
 have p:Ov w ((w.alloc (ze #[zd U (c.n:Int),O c.ga c.gn c.gc,O c.sa c.sn c.sc,O c.ya c.yn c.yc,O c.oa c.on c.oc,O c.va c.vn c.vc,O c.fa c.fn c.fc,O c.ba c.bn c.bc] 31)).alloc (ze #[O c.la c.ln c.lc,O c.ka c.kn c.kc] 44)):=(bA w _).alloc (by simp) _;have J:=Aa (O9 c.n I H (O c.ga c.gn c.gc) (AE gs) ((w.alloc (ze #[zd U (c.n:Int),O c.ga c.gn c.gc,O c.sa c.sn c.sc,O c.ya c.yn c.yc,O c.oa c.on c.oc,O c.va c.vn c.vc,O c.fa c.fn c.fc,O c.ba c.bn c.bc] 31)).alloc (ze #[O c.la c.ln c.lc,O c.ka c.kn c.kc] 44)) (by rw [f];exact Aj hg p) i g (by rw [f];exact hE));have L:=Aa p;have k:Ad [zd U (c.n:Int),O c.ga c.gn c.gc,O c.sa c.sn c.sc,O c.ya c.yn c.yc,O c.oa c.on c.oc,O c.va c.vn c.vc,O c.fa c.fn c.fc,O c.ba c.bn c.bc] ((w.alloc (ze #[zd U (c.n:Int),O c.ga c.gn c.gc,O c.sa c.sn c.sc,O c.ya c.yn c.yc,O c.oa c.on c.oc,O c.va c.vn c.vc,O c.fa c.fn c.fc,O c.ba c.bn c.bc] 31)).alloc (ze #[O c.la c.ln c.lc,O c.ka c.kn c.kc] 44)) w.heap.size:=(Ad.new _ _ _).over (bA _ _);have l:Ad [O c.la c.ln c.lc,O c.ka c.kn c.kc] ((w.alloc (ze #[zd U (c.n:Int),O c.ga c.gn c.gc,O c.sa c.sn c.sc,O c.ya c.yn c.yc,O c.oa c.on c.oc,O c.va c.vn c.vc,O c.fa c.fn c.fc,O c.ba c.bn c.bc] 31)).alloc (ze #[O c.la c.ln c.lc,O c.ka c.kn c.kc] 44)) (w.heap.size+1):=by
  have r:=Ad.new [O c.la c.ln c.lc,O c.ka c.kn c.kc] 44 (w.alloc (ze #[zd U (c.n:Int),O c.ga c.gn c.gc,O c.sa c.sn c.sc,O c.ya c.yn c.yc,O c.oa c.on c.oc,O c.va c.vn c.vc,O c.fa c.fn c.fc,O c.ba c.bn c.bc] 31));simpa using r
 have d:=Aa k;have t:=Aa l;clear hg hE f i g p G;obtain ⟨F,E,C,B,A,z,y,u⟩:=rc8 k;obtain ⟨u0,u1⟩:=rc2 l;clear k l;go_enter Tryz.func86,Tryz.ntmps86;go_wp2_with fail;refine (J.o).mono ?_;rintro e w1 ⟨ob,rfl,s,b⟩;have X:=Ab b _ _ (d.o 0 _ rfl);have W:=Ab b _ _ (d.o 1 _ rfl);have V:=Ab b _ _ (d.o 2 _ rfl);have T:=Ab b _ _ (d.o 3 _ rfl);have S:=Ab b _ _ (d.o 4 _ rfl);have R:=Ab b _ _ (d.o 5 _ rfl);have Q:=Ab b _ _ (d.o 6 _ rfl);have P:=Ab b _ _ (d.o 7 _ rfl);have N:=Ab b _ _ (t.o 0 _ rfl);have M:=Ab b _ _ (t.o 1 _ rfl);have q:=Aa (Ac L.o b);have K:=Aa s;clear b s F E C B A z y u u0 u1;go_wp2_with fail;go_ret;exact ⟨w1,ob,rfl,K.o,q.o,rfl⟩
def BB (n K kf:Nat) (gs:List (Int × Int)) (sp:List Int) (Ls Fs:List Lev) (vs:List (Bool × Lab)) (ls ms:List Lab) (fs:List FnD) (l:List D):List (Int × Int):=
 CO n K (fun _=>Ls) (Cn n K (AE gs) sp Ls vs ls ms fs) (fun _=>Fs) kf fs l []
def QF (K kf:Nat) (m:Int) (vn yn on:Nat) (gs:List (Int × Int)) (sp:List Int) (ls ms:List Lab) (vs:List (Bool × Lab)) (fs:List FnD) (l:List D) (P:Int->Prop) (w:World) (e:Ending) (w':World):Prop:=
 ∃ why:Int,P why/\Ov w w'/\((why≠0/\e=zk (zm #[O none 0 0,zd U why])) \/
  (why=0/\okP K kf m vn yn on gs sp ls ms vs fs l/\∃ (n:Nat) (st:ISt) (fv:Value) (B:Nat),m=n/\e=zk (zm #[fv,zd U 0])/\Br n K kf gs vs ls fs l st/\(∀ x∈st.vs,x.len n)/\(∀ x∈st.fs,x.len n)/\st.vs.length=vn/\st.fs.length=fs.length/\w.heap.size<=B/\w'.ownsRow B 89 2 fv (BB n K kf gs sp st.vs st.fs vs ls ms fs l).length (D2 (BB n K kf gs sp st.vs st.fs vs ls ms fs l))))
theorem L7 (args:Array Value) (w:World):(callFunc 88 args).run Tryz.prog w=.ok (.enter 88 args) w:=by simp [go_sem]
theorem P4 (K kf n:Nat) (ga gn gc sa sn sc ya yn yc oa on oc va vn vc fa fn fc ba bn bc) (la ln lc ka kn kc) (gs sp ls ms vs fs l) (st:ISt) (w:World) (h:Bg K kf (n:Int) ga gn gc sa sn sc ya yn yc oa on oc va vn vc fa fn fc ba bn bc gs sp ls ms vs fs l w) (hok:okP K kf (n:Int) vn yn on gs sp ls ms vs fs l) (hs:(sp.length:Int)<=n) (hlv:Cp w (O la ln lc) st.vs) (hlf:Cp w (O ka kn kc) st.fs) (hll:∀ x∈st.vs,x.len n) (hfl:∀ x∈st.fs,x.len n) (hvn:st.vs.length=vn) (hfn:st.fs.length=fs.length) (ob:Nat) (hR:C4 w ob n (AE gs) n) :
  Calls Tryz.prog 87 #[zh #[zd U (n:Int),O ga gn gc,O sa sn sc,O ya yn yc,O oa on oc,O va vn vc,O fa fn fc,O ba bn bc,O la ln lc,O ka kn kc],.func (.func 88) #[zj (some ⟨w.heap.size,0,none⟩)] #[]] (w.alloc (ze #[zd U (n:Int),O ga gn gc,O sa sn sc,O ya yn yc,O oa on oc,O va vn vc,O fa fn fc,O ba bn bc,O la ln lc,O ka kn kc,O (some ⟨ob,0,none⟩) n n,O none 0 0] 165)) fun e W'=>e=zk (zm #[])/\(∃ fv,AV [zd U (n:Int),O ga gn gc,O sa sn sc,O ya yn yc,O oa on oc,O va vn vc,O fa fn fc,O ba bn bc,O la ln lc,O ka kn kc] w w.heap.size (O (some ⟨ob,0,none⟩) n n) (BB n K kf gs sp st.vs st.fs vs ls ms fs l) fv W'):=by
 obtain ⟨d,M,S,R,-⟩:=Fh hok.chk;obtain rfl:d=n:=by omega
 clear M;have L:=h.vars;obtain rfl:vn=vs.length:=by obtain ⟨-,a,c,p,-⟩:=h.vars;injection p
 obtain rfl:yn=ls.length:=by obtain ⟨-,a,c,p,-⟩:=h.ins;injection p
 obtain rfl:on=ms.length:=by obtain ⟨-,a,c,p,-⟩:=h.outs;injection p
 obtain rfl:fn=fs.length:=by obtain ⟨-,a,c,p,-⟩:=h.funcs;injection p
 obtain ⟨c,f⟩:∃ c:WC,c=⟨d,ga,gn,gc,sa,sn,sc,ya,ls.length,yc,oa,ms.length,oc,va,vs.length,vc,fa,fs.length,fc,ba,bn,bc,la,ln,lc,ka,kn,kc⟩:=⟨_,rfl⟩;have J:JSt c w gs st.vs st.fs:=by
  subst f;exact ⟨S,R,h.grants,hok.chk,hlv,hll,hlf,hfl,by have:=hok.vars;omega⟩
 have A:JAc c w (O (some ⟨ob,0,none⟩) d d) (AE gs) sp:=by
  subst f;exact ⟨⟨ob,rfl,hR⟩,h.speak,by show sp.length<=6;omega,fun x I=>hok.speak x I⟩
 have g:Bo w (O c.va c.vn c.vc) vs:=by subst f;exact h.vars
 have C:AX w (O c.ya c.yn c.yc) ls:=by subst f;exact h.ins
 have y:AX w (O c.oa c.on c.oc) ms:=by subst f;exact h.outs
 have u:Bi w K kf (O c.fa c.fn c.fc) fs:=by subst f;exact h.funcs
 have N:AI w K kf (O c.ba c.bn c.bc) l:=by subst f;exact h.main
 have q:c.n=d:=by subst f;rfl
 have k:∀ v∈vs,Bs c.n gs v.2=0:=by rw [q];exact hok.labs.2.1
 have E:∀ b∈ls,Bs c.n gs b=0:=by rw [q];exact fun b F=>hok.labs.1 b (List.mem_append.2 (Or.inl F))
 have B:∀ b∈ms,Bs c.n gs b=0:=by rw [q];exact fun b F=>hok.labs.1 b (List.mem_append.2 (Or.inr F))
 have t:∀ i (h:i < fs.length),okF K st.vs.length ls.length ms.length (i:Int) fs kf fs[i]:=by rw [hvn];exact hok.body
 have z:∀ s∈l,okS K st.vs.length ls.length ms.length (fs.length:Int) fs kf s:=by rw [hvn];exact hok.main
 have H:=PS c w w.heap.size (O (some ⟨ob,0,none⟩) d d) gs st.vs st.fs J sp A K ls.length ms.length fs vs g hvn.symm k;have G:=Q8 c w w.heap.size (O (some ⟨ob,0,none⟩) d d) gs st.vs st.fs J sp A K ls.length ms.length fs vs g hvn.symm k;have Q:=jDo c w w.heap.size (O (some ⟨ob,0,none⟩) d d) gs st.vs st.fs J sp A K ls.length ms.length fs vs g hvn.symm k ls C E rfl hok.ins ms y B rfl hok.outs kf u hok.funcs t H G;have P:=Q3 (K:=K) (nv:=st.vs.length) (ni:=ls.length) (no:=ms.length) (kf:=kf) (SE (bj:=w.heap.size) (av:=O (some ⟨ob,0,none⟩) d d) J fs hfn) (Cn c.n K (AE gs) sp st.vs vs ls ms fs) 88 [zj (some ⟨w.heap.size,0,none⟩)] [] pmJ (Rx c.n K (AE gs) sp st.vs vs ls ms fs) L7 Q l u N t z hok.many hok.funcs [] (w.alloc (.cells (c.cs++[Value.slice (some ⟨ob,0,none⟩) d d,Value.slice none 0 0]:List Value).toArray 165)) ⟨_,O1 c.cs (O (some ⟨ob,0,none⟩) d d) w rfl⟩ (by unfold pmJ;simp);subst f;exact P.mono fun e W' h=>⟨h.1,h.2.1⟩
theorem Ji (K kf:Nat) (m:Int) (ga gn gc sa sn sc ya yn yc oa on oc va vn vc fa fn fc ba bn bc) (gs sp ls ms vs fs l) (w:World) (h:Bg K kf m ga gn gc sa sn sc ya yn yc oa on oc va vn vc fa fn fc ba bn bc gs sp ls ms vs fs l w) (P:Int->Prop) (KS:∀ W,Ov w W->Calls Tryz.prog 53 #[zh #[zd U m,O ga gn gc,O sa sn sc,O ya yn yc,O oa on oc,O va vn vc,O fa fn fc,O ba bn bc]] W fun e w'=>∃ why:Int,e=zk (zd U why)/\P why/\Ov W w') (hP:P 0->okP K kf m vn yn on gs sp ls ms vs fs l) (hS:P 0->(sp.length:Int)<=m) :
  Calls Tryz.prog 35 #[zh #[zd U m,O ga gn gc,O sa sn sc,O ya yn yc,O oa on oc,O va vn vc,O fa fn fc,O ba bn bc]] w (QF K kf m vn yn on gs sp ls ms vs fs l P w):=by
 have y:Ov w (w.alloc (ze #[zd U m,O ga gn gc,O sa sn sc,O ya yn yc,O oa on oc,O va vn vc,O fa fn fc,O ba bn bc] 31)):=bA w _;have g:=Ad.new [zd U m,O ga gn gc,O sa sn sc,O ya yn yc,O oa on oc,O va vn vc,O fa fn fc,O ba bn bc] 31 w;have K1:=Aa (RH K kf m ga gn gc sa sn sc ya yn yc oa on oc va vn vc fa fn fc ba bn bc gs sp ls ms vs fs l _ (h.over y) P (fun W hW=>KS W (Ac y hW)) hP);have T:=Aa y;have HR:=Aa g;have HH:=Aa h;have HS:=Aa hS;obtain ⟨p0,p1,p2,p3,p4,p5,Z,Y⟩:=rc8 g;clear y g h KS hP hS;go_enter Tryz.func35,Tryz.ntmps35;go_wp2_with fail;refine (K1.o).mono ?_;rintro e J ⟨why,t,s,B⟩;have u:=Aa (Ac T.o s);have H:=Aa s;rcases B with ⟨A,rfl⟩ | ⟨rfl,f,n,st,la,ln,lc,ka,kn,kc,rfl,rfl,F,G,k,q,i,p,d,-,-⟩
 ·have hz:¬ why=0:=A
  have Q:=Aa t;have R:=Aa A;clear t s A;go_wp2_with fail;refine bodyPost_ret (v:=zm #[O none 0 0,zd U why]) (by simp [results,Tryz.results35,go_sem]) rfl ?_;exact ⟨why,Q.o,Ac u.o (bA _ _),Or.inl ⟨R.o,rfl⟩⟩
 ·have c:Ov J (J.alloc (ze #[O la ln lc,O ka kn kc] 44)):=bA _ _
  have X:=Ad.new [O la ln lc,O ka kn kc] 44 J;obtain ⟨q0,q1⟩:=rc2 X;obtain ⟨s0,s1,s2,s3,s4,s5,s6,s7⟩:=co8 (Ac s c) p0 p1 p2 p3 p4 p5 Z Y;have KN:=Aa (M8 ⟨n,ga,gn,gc,sa,sn,sc,ya,yn,yc,oa,on,oc,va,vn,vc,fa,fn,fc,ba,bn,bc,la,ln,lc,ka,kn,kc⟩ gs _ (Aj HH.o.grants (Ac u.o c)) f.chk);have KG:=Aa (fun (z:World) (b:Ov (J.alloc (ze #[O la ln lc,O ka kn kc] 44)) z) (E:Nat) (L:C4 z E n (AE gs) n)=>P4 K kf n ga gn gc sa sn sc ya yn yc oa on oc va vn vc fa fn fc ba bn bc la ln lc ka kn kc gs sp ls ms vs fs l st z (HH.o.over (Ac (Ac u.o c) b)) f (HS.o t) (CK (CK F c) b) (CK (CK G c) b) k q i p E L);have S:=Aa (Ac u.o c);have I:=Aa (show P 0/\okP K kf (n:Int) vn yn on gs sp ls ms vs fs l/\Br n K kf gs vs ls fs l st/\(∀ x∈st.vs,x.len n)/\(∀ x∈st.fs,x.len n)/\st.vs.length=vn/\st.fs.length=fs.length from ⟨t,f,d,k,q,i,p⟩);clear t s f F G k q i p d X c u H HR p0 p1 p2 p3 p4 p5 Z Y;go_wp2_with fail;refine (KN.o).mono ?_;rintro e w4 ⟨z,E,rfl,L,b,rfl⟩;have N:=Aa (KG.o z b E L);have C:=Aa (Ac S.o b);have V:=Ad.new [zd U (n:Int),O ga gn gc,O sa sn sc,O ya yn yc,O oa on oc,O va vn vc,O fa fn fc,O ba bn bc,O la ln lc,O ka kn kc,O (some ⟨E,0,none⟩) n n,O none 0 0] 165 z;obtain ⟨t0,t1,t2,t3,t4,t5,t6,t7,t8,t9⟩:=CA V;simp only [List.cons_append,List.nil_append] at *;clear L b V KG KN s0 s1 s2 s3 s4 s5 s6 s7 q0 q1;go_wp2_with fail;refine (N.o).mono ?_;rintro e w5 ⟨rfl,fv,M⟩;have c11:=M.c11;have HJ:=Aa M;clear M t0 t1 t2 t3 t4 t5 t6 t7 t8 t9;go_wp2_with fail;obtain ⟨h0,f,d,k,q,i,p⟩:=I.o;refine bodyPost_ret (v:=zm #[fv,zd U 0]) (by simp [results,Tryz.results35,go_sem]) rfl ?_;exact ⟨0,h0,C.o.trans (HJ.o.below.mono C.o.size),Or.inr ⟨rfl,f,n,st,fv,z.heap.size,rfl,rfl,d,k,q,i,p,C.o.size,HJ.o.own⟩⟩
theorem Mq {W:World} {B e s n:Nat} {a:Option Addr} {k c:Nat} {xs:List Value} (h:W.ownsRow B e s (O a k c) n xs):k=n:=by
 rcases h.2 with ⟨h,f⟩ | ⟨g,p,l,h,t,q,-⟩
 ·injection h with i d b
  omega
 ·injection h with i f b
def Px (K kf:Nat) (m:Int) (vn yn on:Nat) (gs:List (Int × Int)) (sp:List Int) (ls ms:List Lab) (vs:List (Bool × Lab)) (fs:List FnD) (l:List D) (P:Int->Prop) (w:World) (e:Ending) (w':World):Prop:=
 ∃ why:Int,P why/\Ov w w'/\((why≠0/\e=zk (zm #[zg false,zd U why])) \/
  (why=0/\okP K kf m vn yn on gs sp ls ms vs fs l/\∃ (n:Nat) (st:ISt),m=n/\e=zk (zm #[zg (decide (BB n K kf gs sp st.vs st.fs vs ls ms fs l=[])),zd U 0])/\Br n K kf gs vs ls fs l st/\(∀ x∈st.vs,x.len n)/\(∀ x∈st.fs,x.len n)/\st.vs.length=vn/\st.fs.length=fs.length))
theorem SN (K kf:Nat) (m:Int) (ga gn gc sa sn sc ya yn yc oa on oc va vn vc fa fn fc ba bn bc) (gs sp ls ms vs fs l) (w:World) (h:Bg K kf m ga gn gc sa sn sc ya yn yc oa on oc va vn vc fa fn fc ba bn bc gs sp ls ms vs fs l w) (P:Int->Prop) (KS:∀ W,Ov w W->Calls Tryz.prog 53 #[zh #[zd U m,O ga gn gc,O sa sn sc,O ya yn yc,O oa on oc,O va vn vc,O fa fn fc,O ba bn bc]] W fun e w'=>∃ why:Int,e=zk (zd U why)/\P why/\Ov W w') (hP:P 0->okP K kf m vn yn on gs sp ls ms vs fs l) (hS:P 0->(sp.length:Int)<=m) :
  Calls Tryz.prog 10 #[zh #[zd U m,O ga gn gc,O sa sn sc,O ya yn yc,O oa on oc,O va vn vc,O fa fn fc,O ba bn bc]] w (Px K kf m vn yn on gs sp ls ms vs fs l P w):=by
 have p:Ov w (w.alloc (ze #[zd U m,O ga gn gc,O sa sn sc,O ya yn yc,O oa on oc,O va vn vc,O fa fn fc,O ba bn bc] 31)):=bA w _;have s:=Ad.new [zd U m,O ga gn gc,O sa sn sc,O ya yn yc,O oa on oc,O va vn vc,O fa fn fc,O ba bn bc] 31 w;have R:=Aa (Ji K kf m ga gn gc sa sn sc ya yn yc oa on oc va vn vc fa fn fc ba bn bc gs sp ls ms vs fs l _ (h.over p) P (fun W hW=>KS W (Ac p hW)) hP hS);have I:=Aa p;obtain ⟨p0,p1,p2,Z,Y,X,V,T⟩:=rc8 s;clear p s h KS hP hS;go_enter Tryz.func10,Tryz.ntmps10;go_wp2_with fail;refine (R.o).mono ?_;rintro e S ⟨why,q,z,y⟩;have E:=Aa (Ac I.o z);rcases y with ⟨u,rfl⟩ | ⟨rfl,f,n,st,fv,B,rfl,rfl,b,g,k,d,i,L,c⟩
 ·have J:¬ why=0:=u
  have G:=Aa q;have H:=Aa u;clear q z u;go_wp2_with fail;refine bodyPost_ret (v:=zm #[zg false,zd U why]) (by simp [results,Tryz.results10,go_sem]) rfl ?_;exact ⟨why,G.o,E.o,Or.inl ⟨H.o,rfl⟩⟩
 ·have F:=Aa (show P 0/\okP K kf (n:Int) vn yn on gs sp ls ms vs fs l/\Br n K kf gs vs ls fs l st/\(∀ x∈st.vs,x.len n)/\(∀ x∈st.fs,x.len n)/\st.vs.length=vn/\st.fs.length=fs.length from ⟨q,f,b,g,k,d,i⟩)
  obtain ⟨Q,A,N,rfl⟩:=AG c;have t:A=(BB n K kf gs sp st.vs st.fs vs ls ms fs l).length:=Mq c;have C:=Aa t;clear q z f b g k d i L c t;go_wp2_with fail;obtain ⟨M,f,b,g,k,d,i⟩:=F.o;have J:((A:Int) == 0)=decide (BB n K kf gs sp st.vs st.fs vs ls ms fs l=[]):=by
   rw [C.o];by_cases hq:BB n K kf gs sp st.vs st.fs vs ls ms fs l=[]
   ·simp [hq]
   ·have:(BB n K kf gs sp st.vs st.fs vs ls ms fs l).length≠0:=fun e=>hq (List.length_eq_zero_iff.1 e)
    simp [hq]
  refine bodyPost_ret (v:=zm #[zg ((A:Int) == 0),zd U 0]) (by simp [results,Tryz.results10,go_sem]) rfl ?_;exact ⟨0,M,E.o,Or.inr ⟨rfl,f,n,st,rfl,by rw [J],b,g,k,d,i⟩⟩
theorem Ha {n K kf:Nat} {gs:List (Int × Int)} {vs:List (Bool × Lab)} {ls:List Lab} {fs:List FnD} {main:List D} {st st':ISt} (h:Br n K kf gs vs ls fs main st) (h':Br n K kf gs vs ls fs main st'):st=st':=by
 obtain ⟨k,e,m,l⟩:=h;obtain ⟨b,c,d,f⟩:=h';rcases Nat.lt_trichotomy k b with hk | hk | hk
 ·have:=f k hk
  rw [<-e,m] at this;cases this
 ·rw [e,c,hk]
 ·have:=l b hk
  rw [<-c,d] at this;cases this
def qO:Lab:=⟨[],[⟨0,[]⟩]⟩
theorem Ks:Br 2 1 1 [] [(false,⟨[],[]⟩)] [Jq] [] [sm1,sm2] ⟨[⟨[true,false],[true,true]⟩],[],false⟩:=⟨1,by rfl,rfl,fun j hj=>by
 have:j=0:=by omega
 subst this;rfl⟩
theorem Rv:Br 1 1 1 [] [(false,⟨[],[]⟩)] [Jq] [] [sm1,sm2] ⟨[⟨[true],[true]⟩],[],false⟩:=⟨1,by rfl,rfl,fun j hj=>by
 have:j=0:=by omega
 subst this;rfl⟩
theorem MS:BB 1 1 1 [] [] [⟨[true],[true]⟩] [] [(false,⟨[],[]⟩)] [⟨[],[]⟩] [⟨[],[]⟩] [] [sm1,sm2]=[]:=by rfl
theorem MJ:BB 2 1 1 [] [] [⟨[true,false],[true,true]⟩] [] [(false,⟨[],[]⟩)] [Jq] [⟨[],[]⟩] [] [sm1,sm2]=[(1,4)]:=by rfl
theorem Sv:BB 1 1 1 [] [] [⟨[true],[true]⟩] [] [(false,⟨[],[]⟩)] [Jq] [qO] [] [sm1,sm2]=[]:=by rfl
structure Qq (bi bo bv bm p1 p2:Nat) (w:World):Prop where
 ins:Ad [O (some ⟨p2,0,none⟩) 1 1,O none 0 0] w bi
 pol2:Ad [zd U 0,O none 0 0] w p2
 outs:Ad [O none 0 0,O (some ⟨p1,0,none⟩) 1 1] w bo
 pol1:Ad [zd U 0,O none 0 0] w p1
 vars:Ad [zg false,O none 0 0,O none 0 0] w bv
 main:Ad B0 w bm
theorem Qq.over {bi bo bv bm p1 p2:Nat} {w w':World} (h:Qq bi bo bv bm p1 p2 w) (hb:Ov w w'):Qq bi bo bv bm p1 p2 w':=⟨h.ins.over hb,h.pol2.over hb,h.outs.over hb,h.pol1.over hb,h.vars.over hb,h.main.over hb⟩
theorem Sx {p:Nat} {w:World} (h:Ad [zd U 0,O none 0 0] w p):Au w (O (some ⟨p,0,none⟩) 1 1) [⟨0,[]⟩]:=⟨_,_,rfl,fun _=>⟨p,0,rfl,fun k hk=>by
 have:k=0:=by simp at hk;omega
 subst this;exact ⟨h 0 _ rfl,_,h 1 _ rfl,⟨none,0,rfl,fun h=>absurd rfl h⟩⟩⟩⟩
theorem Sw {bi bo bv bm p1 p2:Nat} {w:World} (h:Qq bi bo bv bm p1 p2 w):Bg 1 1 1 none 0 0 none 0 0 (some ⟨bi,0,none⟩) 1 1 (some ⟨bo,0,none⟩) 1 1 (some ⟨bv,0,none⟩) 1 1 none 0 0 (some ⟨bm,0,none⟩) 2 2 [] [] [Jq] [qO] [(false,⟨[],[]⟩)] [] [sm1,sm2] w:=by
 have one:∀ {b:Nat} {x y:Value} {L:Lab},Ad [x,y] w b->Au w x L.r->Au w y L.w->AX w (O (some ⟨b,0,none⟩) 1 1) [L]:=fun k p l=>⟨by simp [maxLen],_,1,rfl,fun _=>⟨_,0,rfl,fun i g=>by
  have:i=0:=by simp at g;omega
  subst this;exact ⟨_,_,k 0 _ rfl,k 1 _ rfl,p,l⟩⟩⟩
 refine ⟨Ay 1 (by omega) (by omega),⟨none,0,rfl,fun h=>absurd rfl h⟩,⟨none,0,rfl,fun h=>absurd rfl h⟩,by simp,one h.ins (Sx h.pol2) BN,one h.outs BN (Sx h.pol1),?_,?_,?_,fun h=>absurd h (by simp),fun h=>absurd h (by simp)⟩
 ·refine ⟨by simp [maxLen],some ⟨bv,0,none⟩,1,rfl,fun _=>⟨bv,0,rfl,fun i g=>?_⟩⟩
  have:i=0:=by simp at g;omega
  subst this;exact ⟨_,_,h.vars 0 _ rfl,h.vars 1 _ rfl,h.vars 2 _ rfl,BN,BN⟩
 ·exact ⟨by simp,none,0,rfl,fun h=>absurd rfl h⟩
 ·refine ⟨by simp [maxLen],some ⟨bm,0,none⟩,2,rfl,fun _=>⟨bm,0,rfl,fun i d c=>?_⟩⟩
  match i,c with
  | 0,c=>
   simp at c;subst c;refine ⟨B0.take 9,rfl,fun j u f=>?_,3,0,0,_,_,_,xD 0 0 [],_,[],_,[],_,[],rfl,rfl,Ay _ (by omega) (by omega),Ay _ (by omega) (by omega),Ay _ (by omega) (by omega),⟨0,0,_,[],rfl,rfl,Ay _ (by omega) (by omega),Ay _ (by omega) (by omega),BA⟩,BA,BA,BA⟩;rw [List.getElem?_take] at f;split at f
   ·have:=h.main j u f
    simpa using this
   ·cases f
  | 1,c=>
   simp at c;subst c;refine ⟨B0.drop 9,rfl,fun j u f=>?_,4,0,0,_,_,_,xD 2 0 [],_,[],_,[],_,[],rfl,rfl,Ay _ (by omega) (by omega),Ay _ (by omega) (by omega),Ay _ (by omega) (by omega),⟨2,0,_,[],rfl,rfl,Ay _ (by omega) (by omega),Ay _ (by omega) (by omega),BA⟩,BA,BA,BA⟩;rw [List.getElem?_drop] at f;have:=h.main (9+j) u f;simpa [Nat.add_assoc] using this
  | i+2,c=>simp at c
theorem qX:Ey.xP 1 1 1 1 1 1 0 [] [] [Jq] [qO] [(false,⟨[],[]⟩)] [] [sm1,sm2]:=by
 refine ⟨rfl,by simp,fun x d=>absurd d (by simp),⟨?_,DD.labs.2.1,DD.labs.2.2⟩,DD.many,DD.body,DD.main⟩;intro b c;simp at c;rcases c with rfl | rfl
 ·rfl
 ·rfl
theorem Hl {m:Int} {bi bo bv bm:Nat} {ls ms:List Lab} {w:World} {n:Nat} {st:ISt} (hm:m=n) (hP:Bg 1 1 m none 0 0 none 0 0 (some ⟨bi,0,none⟩) 1 1 (some ⟨bo,0,none⟩) 1 1 (some ⟨bv,0,none⟩) 1 1 none 0 0 (some ⟨bm,0,none⟩) 2 2 [] [] ls ms [(false,⟨[],[]⟩)] [] [sm1,sm2] w) (hX:Ey.xP 1 1 m 1 1 1 0 [] [] ls ms [(false,⟨[],[]⟩)] [] [sm1,sm2]) (hI:Br n 1 1 [] [(false,⟨[],[]⟩)] ls [] [sm1,sm2] st) :
  Calls Tryz.prog 10 #[zh #[zd U m,O none 0 0,O none 0 0,O (some ⟨bi,0,none⟩) 1 1,O (some ⟨bo,0,none⟩) 1 1,O (some ⟨bv,0,none⟩) 1 1,O none 0 0,O (some ⟨bm,0,none⟩) 2 2]] w fun e w'=>e=zk (zm #[zg (decide (BB n 1 1 [] [] st.vs st.fs [(false,⟨[],[]⟩)] ls ms [] [sm1,sm2]=[])),zd U 0])/\Ov w w':=by
 refine (SN 1 1 m none 0 0 none 0 0 (some ⟨bi,0,none⟩) 1 1 (some ⟨bo,0,none⟩) 1 1 (some ⟨bv,0,none⟩) 1 1 none 0 0 (some ⟨bm,0,none⟩) 2 2 [] [] ls ms [(false,⟨[],[]⟩)] [] [sm1,sm2] w hP (fun b=>b=0 ↔ Ey.xP 1 1 m 1 1 1 0 [] [] ls ms [(false,⟨[],[]⟩)] [] [sm1,sm2]) (fun W hW=>Ey.scopeCheck_any 1 1 m none 0 0 none 0 0 (some ⟨bi,0,none⟩) 1 1 (some ⟨bo,0,none⟩) 1 1 (some ⟨bv,0,none⟩) 1 1 none 0 0 (some ⟨bm,0,none⟩) 2 2 [] [] ls ms [(false,⟨[],[]⟩)] [] [sm1,sm2] W (hP.over hW)) (fun h=>(h.1 rfl).ok) (fun h=>by have:=(h.1 rfl).lim.2.2.2.2;simpa using this)).mono ?_;rintro e w' ⟨b,hw,i,⟨c,-⟩ | ⟨-,-,f,d,k,rfl,g,-⟩⟩
 ·exact absurd (hw.2 hX) c
 ·obtain rfl:f=n:=by omega
  obtain rfl:=Ha hI g;exact ⟨rfl,i⟩
theorem LM {m:Int} {bi bo bv bm:Nat} {ls ms:List Lab} {w:World} {n:Nat} {st:ISt} (hm:m=n) (hP:Bg 1 1 m none 0 0 none 0 0 (some ⟨bi,0,none⟩) 1 1 (some ⟨bo,0,none⟩) 1 1 (some ⟨bv,0,none⟩) 1 1 none 0 0 (some ⟨bm,0,none⟩) 2 2 [] [] ls ms [(false,⟨[],[]⟩)] [] [sm1,sm2] w) (hX:Ey.xP 1 1 m 1 1 1 0 [] [] ls ms [(false,⟨[],[]⟩)] [] [sm1,sm2]) (hI:Br n 1 1 [] [(false,⟨[],[]⟩)] ls [] [sm1,sm2] st) :
  Calls Tryz.prog 35 #[zh #[zd U m,O none 0 0,O none 0 0,O (some ⟨bi,0,none⟩) 1 1,O (some ⟨bo,0,none⟩) 1 1,O (some ⟨bv,0,none⟩) 1 1,O none 0 0,O (some ⟨bm,0,none⟩) 2 2]] w fun e w'=>∃ fv B,e=zk (zm #[fv,zd U 0])/\w'.ownsRow B 89 2 fv (BB n 1 1 [] [] st.vs st.fs [(false,⟨[],[]⟩)] ls ms [] [sm1,sm2]).length (D2 (BB n 1 1 [] [] st.vs st.fs [(false,⟨[],[]⟩)] ls ms [] [sm1,sm2]))/\Ov w w':=by
 refine (Ji 1 1 m none 0 0 none 0 0 (some ⟨bi,0,none⟩) 1 1 (some ⟨bo,0,none⟩) 1 1 (some ⟨bv,0,none⟩) 1 1 none 0 0 (some ⟨bm,0,none⟩) 2 2 [] [] ls ms [(false,⟨[],[]⟩)] [] [sm1,sm2] w hP (fun b=>b=0 ↔ Ey.xP 1 1 m 1 1 1 0 [] [] ls ms [(false,⟨[],[]⟩)] [] [sm1,sm2]) (fun W hW=>Ey.scopeCheck_any 1 1 m none 0 0 none 0 0 (some ⟨bi,0,none⟩) 1 1 (some ⟨bo,0,none⟩) 1 1 (some ⟨bv,0,none⟩) 1 1 none 0 0 (some ⟨bm,0,none⟩) 2 2 [] [] ls ms [(false,⟨[],[]⟩)] [] [sm1,sm2] W (hP.over hW)) (fun h=>(h.1 rfl).ok) (fun h=>by have:=(h.1 rfl).lim.2.2.2.2;simpa using this)).mono ?_;rintro e w' ⟨b,hw,k,⟨c,-⟩ | ⟨-,-,f,d,fv,B,l,rfl,i,-,-,-,-,-,g⟩⟩
 ·exact absurd (hw.2 hX) c
 ·obtain rfl:f=n:=by omega
  obtain rfl:=Ha hI i;exact ⟨fv,B,rfl,g,k⟩
theorem Rq (w:World):Calls Tryz.prog 38 #[] w fun e w'=>∃ bi bo bv bm,e=zk (E6 bi bo bv bm)/\IQ bi bo bv bm w'/\Ov w w'/\(w.heap.size < bi/\bi < bo/\bo < bv/\bv < bm/\bm < w'.heap.size)/\(∀ j,w'.frozen? ⟨bi,j,none⟩=false)/\∀ j,w'.frozen? ⟨bo,j,none⟩=false:=by
 go_enter Tryz.func38,Tryz.ntmps38;go_wp2_with fail;have b:=fun (W:World) (o:Obj)=>bA W o;refine bodyPost_ret (v:=E6 (w.heap.size+1) (w.heap.size+1+1) (w.heap.size+1+1+1) (w.heap.size+1+1+1+1)) (by simp [results,Tryz.results38,go_sem]) rfl ⟨_,_,_,_,rfl,⟨?_,?_,?_,?_⟩,?_,?_,?_,?_⟩
 ·exact C7 rfl (by simp) (Ac (Ac (b _ _) (b _ _)) (b _ _))
 ·exact C7 rfl (by simp) (Ac (b _ _) (b _ _))
 ·exact C7 rfl (by simp) (b _ _)
 ·exact C7 rfl (by simp) (Below.refl _ _)
 ·exact Ac (Ac (Ac (Ac (b _ _) (b _ _)) (b _ _)) (b _ _)) (b _ _)
 ·refine ⟨by omega,by omega,by omega,by omega,by simp⟩
 ·intro j
  simp [go_sem]
 ·intro j
  simp [go_sem]
theorem KU:Br 1 1 1 [] [(false,⟨[],[]⟩)] [⟨[],[]⟩] [] [sm1,sm2] ⟨[⟨[true],[true]⟩],[],false⟩:=⟨1,by rfl,rfl,fun j hj=>by
 have:j=0:=by omega
 subst this;rfl⟩
theorem G5 (w:World):Calls Tryz.prog 11 #[] w fun e w'=>e=zk (zg true)/\Ov w w':=by
 have KS:=Aa Rq;have KB:=Aa L9;go_enter Tryz.func11,Tryz.ntmps11;go_wp2_with fail;refine (KS.o _).mono ?_;rintro e w1 ⟨d,c,f,i,rfl,p,S,-,-,-⟩;have s:=Aa (Hl (m:=1) rfl (Ie p) DD (st:=⟨[⟨[true],[true]⟩],[],false⟩) KU);rw [MS] at s;have J:=Aa S;clear p S;unfold E6;go_wp2_with fail;refine (s.o).mono ?_;rintro e w2 ⟨rfl,R⟩;have E:=Aa (J.o.trans (R.mono J.o.size));clear R s;go_wp2_with fail;refine (KS.o _).mono ?_;rintro e b ⟨d,c,f,i,rfl,p,Q,⟨l0,l1,l2,l3,l4⟩,zi,zo⟩;have ad:=Aa (E.o.trans (Q.mono E.o.size));obtain ⟨c0,c1⟩:=rc2 p.ins;obtain ⟨d0,d1⟩:=rc2 p.outs;have z0:=zi 0;have y1:=zo 1;have b1:d < b.heap.size:=by omega
 have b2:c < b.heap.size:=by omega
 have n1:d≠c:=by omega
 have n2:c≠d:=by omega
 have n3:d≠b.heap.size:=by omega
 have n4:c≠b.heap.size:=by omega
 have n5:d≠b.heap.size+1:=by omega
 have n6:c≠b.heap.size+1:=by omega
 have n7:d≠b.heap.size+1+1:=by omega
 have n8:c≠b.heap.size+1+1:=by omega
 have k:Ov (b.setCell ⟨c,1,none⟩ (O (some ⟨b.heap.size+1,0,none⟩) 1 1)) ((((b.setCell ⟨c,1,none⟩ (O (some ⟨b.heap.size+1,0,none⟩) 1 1)).alloc (ze #[zd U 1,O none 0 0,O none 0 0,O (some ⟨d,0,none⟩) 1 1,O (some ⟨c,0,none⟩) 1 1,O (some ⟨f,0,none⟩) 1 1,O none 0 0,O (some ⟨i,0,none⟩) 2 2] 31)).alloc (ze #[zd U 0,O none 0 0] 87)).alloc (ze #[zd U 0,O none 0 0] 87)):=((bA _ _).trans ((bA _ _).mono (by simp))).trans ((bA _ _).mono (by simp;omega));have g0:((((b.setCell ⟨c,1,none⟩ (O (some ⟨b.heap.size+1,0,none⟩) 1 1)).alloc (ze #[zd U 1,O none 0 0,O none 0 0,O (some ⟨d,0,none⟩) 1 1,O (some ⟨c,0,none⟩) 1 1,O (some ⟨f,0,none⟩) 1 1,O none 0 0,O (some ⟨i,0,none⟩) 2 2] 31)).alloc (ze #[zd U 0,O none 0 0] 87)).alloc (ze #[zd U 0,O none 0 0] 87)).cell? ⟨d,0,none⟩=some (O none 0 0):=((p.ins.other (b':=c) (j:=1) (v:=(O (some ⟨b.heap.size+1,0,none⟩) 1 1)) n1).over k) 0 _ rfl;have g1:((((b.setCell ⟨c,1,none⟩ (O (some ⟨b.heap.size+1,0,none⟩) 1 1)).alloc (ze #[zd U 1,O none 0 0,O none 0 0,O (some ⟨d,0,none⟩) 1 1,O (some ⟨c,0,none⟩) 1 1,O (some ⟨f,0,none⟩) 1 1,O none 0 0,O (some ⟨i,0,none⟩) 2 2] 31)).alloc (ze #[zd U 0,O none 0 0] 87)).alloc (ze #[zd U 0,O none 0 0] 87)).frozen? ⟨d,0,none⟩=false:=((Am k).2 d 0 (by simpa [World.setCell] using b1)).trans (LD.trans z0);have K:Ad [zd U 1,O none 0 0,O none 0 0,O (some ⟨d,0,none⟩) 1 1,O (some ⟨c,0,none⟩) 1 1,O (some ⟨f,0,none⟩) 1 1,O none 0 0,O (some ⟨i,0,none⟩) 2 2] (((((b.setCell ⟨c,1,none⟩ (O (some ⟨b.heap.size+1,0,none⟩) 1 1)).alloc (ze #[zd U 1,O none 0 0,O none 0 0,O (some ⟨d,0,none⟩) 1 1,O (some ⟨c,0,none⟩) 1 1,O (some ⟨f,0,none⟩) 1 1,O none 0 0,O (some ⟨i,0,none⟩) 2 2] 31)).alloc (ze #[zd U 0,O none 0 0] 87)).alloc (ze #[zd U 0,O none 0 0] 87)).setCell ⟨d,0,none⟩ (O (some ⟨b.heap.size+1+1,0,none⟩) 1 1)) b.heap.size:=by
  have:=((Ad.newA #[zd U 1,O none 0 0,O none 0 0,O (some ⟨d,0,none⟩) 1 1,O (some ⟨c,0,none⟩) 1 1,O (some ⟨f,0,none⟩) 1 1,O none 0 0,O (some ⟨i,0,none⟩) 2 2] 31 (b.setCell ⟨c,1,none⟩ (O (some ⟨b.heap.size+1,0,none⟩) 1 1))).over (bA _ (ze #[zd U 0,O none 0 0] 87))).over (bA _ (ze #[zd U 0,O none 0 0] 87));exact (show Ad [zd U 1,O none 0 0,O none 0 0,O (some ⟨d,0,none⟩) 1 1,O (some ⟨c,0,none⟩) 1 1,O (some ⟨f,0,none⟩) 1 1,O none 0 0,O (some ⟨i,0,none⟩) 2 2] ((((b.setCell ⟨c,1,none⟩ (O (some ⟨b.heap.size+1,0,none⟩) 1 1)).alloc (ze #[zd U 1,O none 0 0,O none 0 0,O (some ⟨d,0,none⟩) 1 1,O (some ⟨c,0,none⟩) 1 1,O (some ⟨f,0,none⟩) 1 1,O none 0 0,O (some ⟨i,0,none⟩) 2 2] 31)).alloc (ze #[zd U 0,O none 0 0] 87)).alloc (ze #[zd U 0,O none 0 0] 87)) b.heap.size by simpa [World.setCell] using this).other (b':=d) (j:=0) (v:=(O (some ⟨b.heap.size+1+1,0,none⟩) 1 1)) (by omega)
 have N:Ad [zd U 0,O none 0 0] (((((b.setCell ⟨c,1,none⟩ (O (some ⟨b.heap.size+1,0,none⟩) 1 1)).alloc (ze #[zd U 1,O none 0 0,O none 0 0,O (some ⟨d,0,none⟩) 1 1,O (some ⟨c,0,none⟩) 1 1,O (some ⟨f,0,none⟩) 1 1,O none 0 0,O (some ⟨i,0,none⟩) 2 2] 31)).alloc (ze #[zd U 0,O none 0 0] 87)).alloc (ze #[zd U 0,O none 0 0] 87)).setCell ⟨d,0,none⟩ (O (some ⟨b.heap.size+1+1,0,none⟩) 1 1)) (b.heap.size+1):=by
  have:=(Ad.newA #[zd U 0,O none 0 0] 87 ((b.setCell ⟨c,1,none⟩ (O (some ⟨b.heap.size+1,0,none⟩) 1 1)).alloc (ze #[zd U 1,O none 0 0,O none 0 0,O (some ⟨d,0,none⟩) 1 1,O (some ⟨c,0,none⟩) 1 1,O (some ⟨f,0,none⟩) 1 1,O none 0 0,O (some ⟨i,0,none⟩) 2 2] 31))).over (bA _ (ze #[zd U 0,O none 0 0] 87));exact (show Ad [zd U 0,O none 0 0] ((((b.setCell ⟨c,1,none⟩ (O (some ⟨b.heap.size+1,0,none⟩) 1 1)).alloc (ze #[zd U 1,O none 0 0,O none 0 0,O (some ⟨d,0,none⟩) 1 1,O (some ⟨c,0,none⟩) 1 1,O (some ⟨f,0,none⟩) 1 1,O none 0 0,O (some ⟨i,0,none⟩) 2 2] 31)).alloc (ze #[zd U 0,O none 0 0] 87)).alloc (ze #[zd U 0,O none 0 0] 87)) (b.heap.size+1) by simpa [World.setCell] using this).other (b':=d) (j:=0) (v:=(O (some ⟨b.heap.size+1+1,0,none⟩) 1 1)) (by omega)
 have M:Ad [zd U 0,O none 0 0] (((((b.setCell ⟨c,1,none⟩ (O (some ⟨b.heap.size+1,0,none⟩) 1 1)).alloc (ze #[zd U 1,O none 0 0,O none 0 0,O (some ⟨d,0,none⟩) 1 1,O (some ⟨c,0,none⟩) 1 1,O (some ⟨f,0,none⟩) 1 1,O none 0 0,O (some ⟨i,0,none⟩) 2 2] 31)).alloc (ze #[zd U 0,O none 0 0] 87)).alloc (ze #[zd U 0,O none 0 0] 87)).setCell ⟨d,0,none⟩ (O (some ⟨b.heap.size+1+1,0,none⟩) 1 1)) (b.heap.size+1+1):=by
  have:=Ad.newA #[zd U 0,O none 0 0] 87 (((b.setCell ⟨c,1,none⟩ (O (some ⟨b.heap.size+1,0,none⟩) 1 1)).alloc (ze #[zd U 1,O none 0 0,O none 0 0,O (some ⟨d,0,none⟩) 1 1,O (some ⟨c,0,none⟩) 1 1,O (some ⟨f,0,none⟩) 1 1,O none 0 0,O (some ⟨i,0,none⟩) 2 2] 31)).alloc (ze #[zd U 0,O none 0 0] 87));exact (show Ad [zd U 0,O none 0 0] ((((b.setCell ⟨c,1,none⟩ (O (some ⟨b.heap.size+1,0,none⟩) 1 1)).alloc (ze #[zd U 1,O none 0 0,O none 0 0,O (some ⟨d,0,none⟩) 1 1,O (some ⟨c,0,none⟩) 1 1,O (some ⟨f,0,none⟩) 1 1,O none 0 0,O (some ⟨i,0,none⟩) 2 2] 31)).alloc (ze #[zd U 0,O none 0 0] 87)).alloc (ze #[zd U 0,O none 0 0] 87)) (b.heap.size+1+1) by simpa [World.setCell] using this).other (b':=d) (j:=0) (v:=(O (some ⟨b.heap.size+1+1,0,none⟩) 1 1)) (by omega)
 have hQ:Qq d c f i (b.heap.size+1) (b.heap.size+1+1) (((((b.setCell ⟨c,1,none⟩ (O (some ⟨b.heap.size+1,0,none⟩) 1 1)).alloc (ze #[zd U 1,O none 0 0,O none 0 0,O (some ⟨d,0,none⟩) 1 1,O (some ⟨c,0,none⟩) 1 1,O (some ⟨f,0,none⟩) 1 1,O none 0 0,O (some ⟨i,0,none⟩) 2 2] 31)).alloc (ze #[zd U 0,O none 0 0] 87)).alloc (ze #[zd U 0,O none 0 0] 87)).setCell ⟨d,0,none⟩ (O (some ⟨b.heap.size+1+1,0,none⟩) 1 1)):=⟨((p.ins.other (b':=c) (j:=1) (v:=(O (some ⟨b.heap.size+1,0,none⟩) 1 1)) n1).over k).set (j:=0) (v:=(O (some ⟨b.heap.size+1+1,0,none⟩) 1 1)) (by simp),M,((p.outs.set (j:=1) (v:=(O (some ⟨b.heap.size+1,0,none⟩) 1 1)) (by simp)).over k).other (b':=d) (j:=0) (v:=(O (some ⟨b.heap.size+1+1,0,none⟩) 1 1)) n2,N,((p.vars.other (b':=c) (j:=1) (v:=(O (some ⟨b.heap.size+1,0,none⟩) 1 1)) (by omega)).over k).other (b':=d) (j:=0) (v:=(O (some ⟨b.heap.size+1+1,0,none⟩) 1 1)) (by omega),((p.main.other (b':=c) (j:=1) (v:=(O (some ⟨b.heap.size+1,0,none⟩) 1 1)) (by omega)).over k).other (b':=d) (j:=0) (v:=(O (some ⟨b.heap.size+1+1,0,none⟩) 1 1)) (by omega)⟩;have V:Ov w (((((b.setCell ⟨c,1,none⟩ (O (some ⟨b.heap.size+1,0,none⟩) 1 1)).alloc (ze #[zd U 1,O none 0 0,O none 0 0,O (some ⟨d,0,none⟩) 1 1,O (some ⟨c,0,none⟩) 1 1,O (some ⟨f,0,none⟩) 1 1,O none 0 0,O (some ⟨i,0,none⟩) 2 2] 31)).alloc (ze #[zd U 0,O none 0 0] 87)).alloc (ze #[zd U 0,O none 0 0] 87)).setCell ⟨d,0,none⟩ (O (some ⟨b.heap.size+1+1,0,none⟩) 1 1)):=by
  have h2:=E.o.size;have h3:Ov w (b.setCell ⟨c,1,none⟩ (O (some ⟨b.heap.size+1,0,none⟩) 1 1)):=ad.o.setCell (show w.heap.size<=c by omega) _;exact (h3.trans (k.mono h3.size)).setCell (show w.heap.size<=d by omega) _
 have HQ:=Aa hQ;have A:=Aa K;have C:=Aa V;clear k hQ K N M V;have HS:=Aa p;have HL:=Aa (And.intro l0 (And.intro l1 (And.intro l2 (And.intro l3 l4))));clear p Q zi zo l0 l1 l2 l3 l4;unfold E6;go_wp2_with fail;obtain ⟨W5,T⟩:=nm (((((b.setCell ⟨c,1,none⟩ (O (some ⟨b.heap.size+1,0,none⟩) 1 1)).alloc (ze #[zd U 1,O none 0 0,O none 0 0,O (some ⟨d,0,none⟩) 1 1,O (some ⟨c,0,none⟩) 1 1,O (some ⟨f,0,none⟩) 1 1,O none 0 0,O (some ⟨i,0,none⟩) 2 2] 31)).alloc (ze #[zd U 0,O none 0 0] 87)).alloc (ze #[zd U 0,O none 0 0] 87)).setCell ⟨d,0,none⟩ (O (some ⟨b.heap.size+1+1,0,none⟩) 1 1));rw [<-T] at HQ A C ⊢;obtain ⟨bq,P⟩:=nm b.heap.size;rw [<-P] at HQ A ⊢;clear T P g0 g1 c0 c1 d0 d1 z0 y1 n1 n2 n3 n4 n5 n6 n7 n8 b1 b2 HS HL ad E J;refine (KB.o _).mono ?_;rintro e w6 ⟨b5,bz,bs,b3,bu,rfl,l,z⟩;have s:=Aa (Hl (m:=2) rfl (MK l) SU Ks);rw [MJ] at s;have I:=Aa (C.o.trans (z.mono C.o.size));have ac:=Aa (HQ.o.over z);have Y:=Aa (A.o.over z);clear l z HQ A C;unfold Qx;go_wp2_with fail;refine (s.o).mono ?_;rintro e w7 ⟨rfl,y⟩;have H:=Aa (I.o.trans (y.mono I.o.size));have ab:=Aa (ac.o.over y);have X:=Aa (Y.o.over y);clear y ac Y I s;go_wp2_with fail;refine (KB.o _).mono ?_;rintro e w8 ⟨b4,bw,br,b0,bt,rfl,l,u⟩;have s:=Aa (LM (m:=2) rfl (MK l) SU Ks);rw [MJ] at s;have G:=Aa (H.o.trans (u.mono H.o.size));have aa:=Aa (ab.o.over u);have W:=Aa (X.o.over u);clear l u ab X H;unfold Qx;go_wp2_with fail;refine (s.o).mono ?_;rintro e w9 ⟨fv,B,rfl,ho,t⟩;have F:=Aa (G.o.trans (t.mono G.o.size));have Z:=Aa (aa.o.over t);have L:=W.o.over t;obtain ⟨q0,q1,q2,q3,q4,q5,q6,q7⟩:=rc8 L;have KG:=Aa (Hl (m:=1) rfl (Sw Z.o) qX Rv);rw [Sv] at KG;rcases id ho.2 with ⟨-,h0⟩ | ⟨g,bp,bl,rfl,-⟩
 ·exact absurd h0 (by simp)
 have x0:=ho.cells (g:=g) rfl 0 (zd U 1) rfl;have x1:=ho.cells (g:=g) rfl 1 (zd U 4) rfl;rw [Addr.add_lit] at x0 x1;clear t aa W G s L ho;go_wp2_with fail;refine (KG.o).mono ?_;rintro e az ⟨rfl,q⟩;have ae:=Aa (F.o.trans (q.mono F.o.size));obtain ⟨x0,x1⟩:=co2 q x0 x1;clear q Z F KG q0 q1 q2 q3 q4 q5 q6 q7;go_wp2_with fail;go_ret;exact ⟨rfl,ae.o⟩
end Go.Proofs.YtfffpjkcfnekaaaGreat.Ex
