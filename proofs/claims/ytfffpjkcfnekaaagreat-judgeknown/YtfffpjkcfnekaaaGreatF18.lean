/- All commands of a program, function by function: something is done with each. -/
import Derived.Test.YtfffpjkcfnekaaaGreatF15
import Derived.Test.YtfffpjkcfnekaaaGreatF17
import Derived.Deep.RegionHeld3
set_option linter.unusedVariables false
set_option maxHeartbeats 8000000
set_option maxRecDepth 100000
namespace Go.Proofs.YtfffpjkcfnekaaaGreat.Ex
open Go.RowKit
open Go.Value renaming slice -> O, int -> U, bool -> zg, agg -> zh, pointer -> zj, tuple -> zm
open Go.IntKind renaming i64 -> zd
open Go.Obj renaming cells -> ze
open Go.Ending renaming returned -> zk
section
variable {σ:Type} {c:WC} {w0:World} {K kf nv ni no:Nat} {fs:List FnD} {gs:List (Int × Int)} {lev flev:σ->List Lev} {Inv:σ->World->Prop} {X:World->Nat->Prop}
theorem H0 {fs:List FnD} {j:Nat} (h:j < fs.length):((List.range fs.length).zip fs).take (j+1)=((List.range fs.length).zip fs).take j++[(j,fs[j])]:=by
 rw [List.take_succ_eq_append_getElem (by simpa using h)]
 simp
theorem J7 {n K kf:Nat} {lev flev:σ->List Lev} {step:Int->D->Lev->σ->σ} (st:σ):∀ (j:Nat),j<=fs.length->((((List.range fs.length).zip fs).take j).foldl (goF n K lev step flev kf) (0,st)).1=(Ca kf (fs.take j):Nat)
 | 0,_=>by simp [Ca]
 | j+1,h=>by
  rw [H0 (by omega),List.foldl_append,List.foldl_cons,List.foldl_nil,Fe (by omega)]
  simp only [goF]
  rw [J7 st j (by omega)]
  push_cast
  rfl
theorem NL {n K kf:Nat} {lev flev:σ->List Lev} {step:Int->D->Lev->σ->σ} {Pm:Int->σ->Prop} (h:JQ Pm step):∀ (xs:List (Nat × FnD)) (q:Int × σ),Pm q.1 q.2->Pm (xs.foldl (goF n K lev step flev kf) q).1 (xs.foldl (goF n K lev step flev kf) q).2
 | [],q,hq=>hq
 | x::xs,q,hq=>by
  rw [List.foldl_cons]
  exact NL h xs _ (IB h kf x.2.body q.1 _ q.2 hq)
theorem Hr {k:Nat} {l:List FnD} {j:Nat} (hj:j < l.length):Ca k (l.take j)+A7 k l[j].body<=Ca k l:=by
 rw [<-Fe hj]
 unfold Ca
 conv=>rhs;rw [<-List.take_append_drop (j+1) l]
 rw [List.map_append,List.sum_append]
 omega
abbrev Lq (W:World) (c:WC) (b off b4 off4:Nat) (wr:World) (pa:Option Addr) (pn pc:Nat) (za:Option Addr) (zn zc:Nat) (ek en:Int) (xa:Option Addr) (xl xc:Nat) (Wz:World):Prop:=Wz.cell? ⟨W.heap.size,0,none⟩=some (U zd (c.n:Int))/\CE Wz W.heap.size 1 (O c.ga c.gn c.gc)/\CE Wz W.heap.size 2 (O c.sa c.sn c.sc)/\CE Wz W.heap.size 3 (O c.ya c.yn c.yc)/\CE Wz W.heap.size 4 (O c.oa c.on c.oc)/\CE Wz W.heap.size 5 (O c.va c.vn c.vc)/\CE Wz W.heap.size 6 (O (some ⟨b,off,none⟩) c.fn c.fc)/\CE Wz W.heap.size 7 (O c.ba c.bn c.bc)/\CE Wz W.heap.size 8 (O c.la c.ln c.lc)/\CE Wz W.heap.size 9 (O (some ⟨b4,off4,none⟩) c.kn c.kc)/\CE Wz wr.heap.size 0 (O pa pn pc)/\CE Wz wr.heap.size 1 (O za zn zc)/\CE Wz wr.heap.size 2 (U zd ek)/\CE Wz wr.heap.size 3 (U zd en)/\CE Wz wr.heap.size 4 (O xa xl xc)
abbrev JU (W:World) (c:WC) (Wz:World):Prop:=Wz.cell? ⟨W.heap.size,0,none⟩=some (U zd (c.n:Int))/\CE Wz W.heap.size 1 (O c.ga c.gn c.gc)/\CE Wz W.heap.size 2 (O c.sa c.sn c.sc)/\CE Wz W.heap.size 3 (O c.ya c.yn c.yc)/\CE Wz W.heap.size 4 (O c.oa c.on c.oc)/\CE Wz W.heap.size 5 (O c.va c.vn c.vc)/\CE Wz W.heap.size 6 (O c.fa c.fn c.fc)/\CE Wz W.heap.size 7 (O c.ba c.bn c.bc)/\CE Wz W.heap.size 8 (O c.la c.ln c.lc)/\CE Wz W.heap.size 9 (O c.ka c.kn c.kc)
theorem NN (I:Eg c w0 nv fs gs lev flev Inv X) (step:Int->D->Lev->σ->σ) (F:FuncId) (fre cap:List Value) (Pm:Int->σ->Prop) (hPm:Hx (JQ Pm step)) (hC:∀ (args:Array Value) (w:World),(callFunc F args).run Tryz.prog w=.ok (.enter F args) w) (hdo:Hx (Nu c w0 K nv ni no fs Inv X step F fre cap Pm))
  (l:List D) (hfs:BC w0 K kf (O c.fa c.fn c.fc) fs) (hm:Bf w0 K kf (O c.ba c.bn c.bc) l) (hof:∀ i (h:i < fs.length),okF K nv ni no (i:Int) fs kf fs[i]) (hom:∀ s∈l,okS K nv ni no (fs.length:Int) fs kf s) (h50:Ca kf fs+A7 kf l<=50) (hf5:fs.length<=5)
  (st:σ) (W:World) (hI:Inv st W) (hpm:Pm 0 st) :
  Calls Tryz.prog 87 #[c.v,.func (.func F) fre.toArray cap.toArray] W fun e W'=>e=zk (zm #[])/\Inv (CA c.n K lev step flev kf fs l st) W'/\FrW X W W':=by
 have hb:Ov W (W.alloc (ze #[U zd (c.n:Int),O c.ga c.gn c.gc,O c.sa c.sn c.sc,O c.ya c.yn c.yc,O c.oa c.on c.oc,O c.va c.vn c.vc,O c.fa c.fn c.fc,O c.ba c.bn c.bc,O c.la c.ln c.lc,O c.ka c.kn c.kc] 108)):=bA W _
 have xs0:¬ X (W.alloc (ze #[U zd (c.n:Int),O c.ga c.gn c.gc,O c.sa c.sn c.sc,O c.ya c.yn c.yc,O c.oa c.on c.oc,O c.va c.vn c.vc,O c.fa c.fn c.fc,O c.ba c.bn c.bc,O c.la c.ln c.lc,O c.ka c.kn c.kc] 108)) W.heap.size:=fun h=>by have:=I.xlt _ _ hI _ (I.xok.below _ _ hb _ h);omega
 have row0:Ae c.cs (W.alloc (ze #[U zd (c.n:Int),O c.ga c.gn c.gc,O c.sa c.sn c.sc,O c.ya c.yn c.yc,O c.oa c.on c.oc,O c.va c.vn c.vc,O c.fa c.fn c.fc,O c.ba c.bn c.bc,O c.la c.ln c.lc,O c.ka c.kn c.kc] 108)) W.heap.size:=Ae.new c.cs 108 W
 have KS:=Aa (NV (K:=K) (ni:=ni) (no:=no) I step F fre cap Pm hPm hC hdo)
 have HX0:=Aa xs0
 have HR0:=Aa row0
 have HI0:=Aa (I.over _ _ _ hI hb)
 have HF0:=Aa (FrW.of_below I.xok hb)
 have HI:=Aa I
 have HOF:=Aa hof
 have HOM:=Aa hom
 have HM:=Aa hm
 have H50:=Aa h50
 obtain ⟨hfl,fa',fc',hfe,hfc⟩:=hfs
 injection hfe with f1 f2 f3
 have hfn:c.fn<=5:=by omega
 have HFN:=Aa f2
 have HFC:=Aa hfc
 have HFA:=Aa f1
 obtain ⟨Q,hQ⟩:∃ Q:Nat->Int × σ,Q=fun j=>(((List.range fs.length).zip fs).take j).foldl (goF c.n K lev step flev kf) (0,st):=⟨_,rfl⟩
 have HQ:=Aa hQ
 have HQ1:Hx (∀ j,j<=fs.length->(Q j).1=(Ca kf (fs.take j):Nat)):=fun j hj=>by rw [hQ];exact J7 st j hj
 have HQ0:Hx (Q 0=(0,st)):=by rw [hQ];rfl
 have HPQ:Hx (∀ j,Pm (Q j).1 (Q j).2):=fun j=>by rw [hQ];exact NL hPm.o _ (0,st) hpm
 obtain ⟨W0,hW0⟩:=nm ((W.alloc (ze #[U zd (c.n:Int),O c.ga c.gn c.gc,O c.sa c.sn c.sc,O c.ya c.yn c.yc,O c.oa c.on c.oc,O c.va c.vn c.vc,O c.fa c.fn c.fc,O c.ba c.bn c.bc,O c.la c.ln c.lc,O c.ka c.kn c.kc] 108)))
 rw [<-hW0] at HX0 HR0 HI0 HF0
 clear hb xs0 row0 hdo hof hom hm h50 hfc f1 f2 f3 hQ hI I hfl hf5
 go_enter Tryz.func87,Tryz.ntmps87
 go_wp2_with fail
 go_loopw [4,11] (fun x i wr=>∃ j:Nat,j<=c.fn/\i=U zd j/\x=U zd (Q j).1/\Inv (Q j).2 wr/\FrW X W0 wr) (fun _ i _=>c.fn - (intOf i).toNat)
 case atStart=>exact ⟨0,Nat.zero_le _,rfl,by rw [HQ0.o],by rw [HQ0.o,<-hW0];exact HI0.o,by rw [<-hW0];exact FrW.refl _⟩
 case round=>
  obtain ⟨j,hj,rfl,rfl,hI,hF⟩:=hrel
  clear hW0
  have hj2:j<=fs.length:=by rw [<-HFN.o];exact hj
  obtain ⟨at_,hat⟩:=nm ((Q j).1)
  have hatv:at_=(Ca kf (fs.take j):Nat):=hat.trans (HQ1.o j hj2)
  rw [<-hat]
  have HAT:=Aa hat
  by_cases hlt:j < c.fn
  ·have hlt2:j < fs.length:=by rw [<-HFN.o];exact hlt
   have hcl:=Hr (k:=kf) hlt2
   have h50':=H50.o
   have ha0:0<=at_:=by omega
   have ha1:at_+(A7 kf fs[j].body:Nat)<=50:=by omega
   have hcell:=Ab (HI.o.below _ _ hI)
   obtain ⟨b,off,hao,hcs⟩:=HFC.o (by intro h;rw [h] at hlt2;simp at hlt2)
   obtain ⟨vP,vB,y0,y1,y2,g0,g1,g2,g3,g4,hps,-,hbody,hres⟩:=hcs j hlt2
   have hfa:c.fa=some ⟨b,off,none⟩:=HFA.o.trans hao
   obtain ⟨pa,pc,rfl,-⟩:=hps
   have hb0:=hbody
   obtain ⟨-,za,zc,rfl,-⟩:=hb0
   obtain ⟨xa,xc,hxf⟩:=hres.form
   simp only [List.cons.injEq,and_true] at hxf
   obtain ⟨rfl,rfl,rfl⟩:=hxf
   have g0:=hcell _ _ g0
   have g1:=hcell _ _ g1
   have g2:=hcell _ _ g2
   have g3:=hcell _ _ g3
   have g4:=hcell _ _ g4
   obtain ⟨pn,hpn⟩:=nm (fs[j].ps.length)
   obtain ⟨zn,hzn⟩:=nm (fs[j].body.length)
   obtain ⟨ek,hek⟩:=nm (AI fs[j].res)
   obtain ⟨en,hen⟩:=nm (Bc fs[j].res)
   obtain ⟨xl,hxl⟩:=nm ((AH fs[j].res).length)
   rw [<-hpn] at g0
   rw [<-hzn] at g1 hbody
   rw [<-hek] at g2
   rw [<-hen] at g3
   rw [<-hxl] at g4
   have hba:=bA wr (ze #[O pa pn pc,O za zn zc,U zd ek,U zd en,O xa xl xc] 105)
   have hI1:=HI.o.over _ _ _ hI hba
   have hF1:=hF.trans (FrW.of_below HI.o.xok hba)
   have rowS:=Ae.new [O pa pn pc,O za zn zc,U zd ek,U zd en,O xa xl xc] 105 wr
   have xsS:¬ X (wr.alloc (ze #[O pa pn pc,O za zn zc,U zd ek,U zd en,O xa xl xc] 105)) wr.heap.size:=fun h=>by have:=HI.o.xlt _ _ hI _ (HI.o.xok.below _ _ hba _ h);omega
   have row0:=hF1.row HR0.o HX0.o
   have x0:¬ X (wr.alloc (ze #[O pa pn pc,O za zn zc,U zd ek,U zd en,O xa xl xc] 105)) W.heap.size:=fun h=>HX0.o (hF1.mov _ (bL (HR0.o 0 _ rfl)) h)
   obtain ⟨hfl1,hfl2⟩:=HI.o.flevs _ _ hI1
   have hjf:j < (flev (Q j).2).length:=by rw [hfl2];exact hlt2
   obtain ⟨ao4,cap4,hk1,hk2⟩:=hfl1
   obtain ⟨b4,off4,hk3,hk4⟩:=hk2 (by intro h;rw [h] at hjf;simp at hjf)
   obtain ⟨rv,wv,m0,m1,hlv⟩:=hk4 j hjf
   injection hk1 with n1 n2 n3
   have hka:c.ka=some ⟨b4,off4,none⟩:=n1.trans hk3
   have hkn:j < c.kn:=by omega
   have hkn5:c.kn<=5:=by have:=HFN.o;omega
   obtain ⟨p1,q1,r1,p2,q2,r2,hform⟩:=hlv.form
   simp at hform
   obtain ⟨rfl,rfl⟩:=hform
   have hgd:(flev (Q j).2).getD j AE=(flev (Q j).2)[j]:=by simp [List.getD_eq_getElem?_getD,hjf]
   have HQS:Hx (Q (j+1)=(at_+(A7 kf fs[j].body:Nat),goS c.n K lev step kf fs[j].body at_ (flev (Q j).2)[j] (Q j).2)):=by
    have e1:Q (j+1)=goF c.n K lev step flev kf (Q j) (j,fs[j]):=by
     rw [HQ.o]
     dsimp only
     rw [H0 hlt2,List.foldl_append]
     rfl
    rw [e1]
    unfold goF
    rw [<-HAT.o]
    dsimp only
    rw [hgd]
    exact rfl
   have K1:=Aa (fun (W1:World) (hb1:Ov (wr.alloc (ze #[O pa pn pc,O za zn zc,U zd ek,U zd en,O xa xl xc] 105)) W1)=>KS.o (j:Int) (by omega) kf (O za zn zc) fs[j].body at_ (zh #[O p1 q1 r1,O p2 q2 r2]) _ (Q j).2 W1 hbody (HOF.o j hlt2).2.2.1 (HI.o.over _ _ _ hI1 hb1) (hlv.over HI.o.xok hb1) ha0 ha1 (by rw [HAT.o];exact HPQ.o j))
   have HRW0:=Aa row0
   have HRWS:=Aa rowS
   have HX0':=Aa x0
   have HXS:=Aa xsS
   have HF1:=Aa hF1
   have hj3:(j:Int) < (c.fn:Int):=by omega
   have hk5:(j:Int) < (c.kn:Int):=by omega
   obtain ⟨t0,t1,t2,t3,t4,t5,t6,t7,t8,t9⟩:=Cd HRW0.o
   obtain ⟨s0,s1,s2,s3,s4⟩:=rc5 HRWS.o
   have lt0:=bL (HRW0.o 0 _ rfl)
   have ltS:=bL (HRWS.o 0 _ rfl)
   have HLT:=Aa (And.intro lt0 ltS)
   rw [hka] at t9
   rw [hfa] at t6
   clear hatv hat hcl h50' hcell hcs hao hbody hres hpn hzn hek hen hxl hI1 hF1 hI hF rowS xsS row0 x0 hfl2 hk2 hk3 hk4 hlv n1 n2 n3 hgd lt0 ltS hba ha1 HAT
   simp only [WC.v,hka,hfa] at K1
   rw [hfa]
   go_wp2_with fail
   have hS0:Lq W c b off b4 off4 wr pa pn pc za zn zc ek en xa xl xc (wr.alloc (ze #[O pa pn pc,O za zn zc,U zd ek,U zd en,O xa xl xc] 105)):=⟨t0,t1,t2,t3,t4,t5,t6,t7,t8,t9,s0,s1,s2,s3,s4⟩
   refine gS (Lq W c b off b4 off4 wr pa pn pc za zn zc ek en xa xl xc) (hS0) fun hHeld=>?_
   refine kT 0 ?_
   refine kT 1 ?_
   refine kT 2 ?_
   refine kT 3 ?_
   refine kT 4 ?_
   refine kT 5 ?_
   refine kT 6 ?_
   refine kT 7 ?_
   refine kT 8 ?_
   refine kT 10 ?_
   refine rdA 9 rfl fun K hK=>?_
   go_simp
   refine xK hK (hHeld) fun hHeld=>?_
   refine rdA 11 rfl fun K hK=>?_
   go_simp
   refine (K1.o _ (bD _)).mono ?_
   rintro e W2 ⟨rfl,hI2,hF2⟩
   have hr0:=hF2.row (show Ae c.cs _ W.heap.size from HRW0.o) (fun h=>HX0'.o (HI.o.xok.below _ _ (bD _) _ h))
   have hrS:=hF2.row (show Ae [O pa pn pc,O za zn zc,U zd ek,U zd en,O xa xl xc] _ wr.heap.size from HRWS.o) (fun h=>HXS.o (HI.o.xok.below _ _ (bD _) _ h))
   have hS2:Lq W c b off b4 off4 wr pa pn pc za zn zc ek en xa xl xc W2:=⟨hr0 0 _ rfl,hr0 1 _ rfl,hr0 2 _ rfl,hr0 3 _ rfl,hr0 4 _ rfl,hr0 5 _ rfl,by rw [<-hfa];exact hr0 6 _ rfl,hr0 7 _ rfl,hr0 8 _ rfl,by rw [<-hka];exact hr0 9 _ rfl,hrS 0 _ rfl,hrS 1 _ rfl,hrS 2 _ rfl,hrS 3 _ rfl,hrS 4 _ rfl⟩
   clear hr0 hrS
   go_simp
   refine xK hK (hS2) fun hHeld=>?_
   refine rdA 12 rfl fun K hK=>?_
   go_simp
   refine xK hK (hS2) fun hHeld=>?_
   refine gE ?_
   have HI2:=Aa hI2
   have HF2:=Aa ((HF1.o.trans (FrW.of_below HI.o.xok (bD _))).trans hF2)
   clear hS2 hI2 hF2 hS0 K1 t0 t1 t2 t3 t4 t5 t6 t7 t8 t9 s0 s1 s2 s3 s4 g0 g1 g2 g3 g4 m0 m1
   go_wp2_with fail
   refine ⟨⟨j+1,by omega,by go_num,by rw [HQS.o],by rw [HQS.o];exact HI2.o,HF2.o⟩,by simp [intOf];omega⟩
  ·have hjf:j=fs.length:=by rw [<-HFN.o];omega
   have h50':=H50.o
   have htk:fs.take j=fs:=List.take_of_length_le (by omega)
   rw [htk] at hatv
   have ha0:0<=at_:=by omega
   have ha1:at_+(A7 kf l:Nat)<=50:=by omega
   have hrx:=hF.row HR0.o HX0.o
   have HRWx:=Aa hrx
   have HIW:=Aa hI
   have HFW:=Aa hF
   have HXW:Hx (¬ X wr W.heap.size):=fun h=>HX0.o (hF.mov _ (bL (HR0.o 0 _ rfl)) h)
   have KB:=Aa fun W=>ER c.n HI.o.n1 HI.o.n6 c.ga c.gn c.gc c.sa c.sn c.sc c.ya c.yn c.yc c.oa c.on c.oc c.va c.vn c.vc c.fa c.fn c.fc c.ba c.bn c.bc c.la c.ln c.lc c.ka c.kn c.kc W
   obtain ⟨t0,t1,t2,t3,t4,t5,t6,t7,t8,t9⟩:=Cd hrx
   have hS0:JU W c wr:=⟨t0,t1,t2,t3,t4,t5,t6,t7,t8,t9⟩
   have HALL:Hx (CA c.n K lev step flev kf fs l st=goS c.n K lev step kf l at_ (Bw c.n) (Q j).2):=by
    unfold CA
    dsimp only
    have e1:Q j=((List.range fs.length).zip fs).foldl (goF c.n K lev step flev kf) (0,st):=by
     rw [HQ.o]
     dsimp only
     rw [List.take_of_length_le (by simp;omega)]
    rw [<-e1,<-hat]
    rfl
   have HPA:Hx (Pm at_ (Q j).2):=by rw [HAT.o];exact HPQ.o j
   clear hatv hat h50' htk hrx hI hF hjf HAT
   go_wp2_with fail
   refine gS (JU W c) (hS0) fun hHeld=>?_
   refine kT 0 ?_
   refine kT 1 ?_
   refine kT 2 ?_
   refine kT 3 ?_
   refine kT 4 ?_
   refine kT 5 ?_
   refine kT 7 ?_
   refine rdA 6 rfl fun K hK=>?_
   go_simp
   refine (KB.o _).mono ?_
   rintro e W2 ⟨vj,rfl,hfr,hb2⟩
   have hbz:=Ac (bD wr) hb2
   have hnew:=BP hfr
   have hlA:=Aq hfr
   obtain ⟨o1,o2,o3,o4,o5,o6,hvj⟩:∃ o1 o2 o3 o4 o5 o6,vj=zh #[O o1 o2 o3,O o4 o5 o6]:=by
    obtain ⟨x,y,rfl,-⟩:=hlA
    obtain ⟨a1,a2,a3,a4,a5,a6,rfl,rfl⟩:=AP (Aq hfr)
    exact ⟨_,_,_,_,_,_,rfl⟩
   subst hvj
   have hL2:AY c.n X W2 (zh #[O o1 o2 o3,O o4 o5 o6]) (Bw c.n):=⟨hlA,⟨by simp [Bw],by simp [Bw]⟩,Cz HI.o.xok hbz (HI.o.xlt _ _ HIW.o) hnew⟩
   have hr0:=HRWx.o.over hbz
   have hS2:JU W c W2:=⟨hr0 0 _ rfl,hr0 1 _ rfl,hr0 2 _ rfl,hr0 3 _ rfl,hr0 4 _ rfl,hr0 5 _ rfl,hr0 6 _ rfl,hr0 7 _ rfl,hr0 8 _ rfl,hr0 9 _ rfl⟩
   have KM:=Aa (KS.o (fs.length:Int) (Int.le_refl _) kf (O c.ba c.bn c.bc) l at_ _ _ _ W2 HM.o HOM.o (HI.o.over _ _ _ HIW.o hbz) hL2 ha0 ha1 HPA.o)
   have HR2:=Aa hr0
   have HXW2:Hx (¬ X W2 W.heap.size):=fun h=>HXW.o (HI.o.xok.below _ _ hbz _ h)
   have HFZ:=Aa (HFW.o.trans (FrW.of_below HI.o.xok hbz))
   clear hfr hb2 hbz hnew hlA hL2 hr0
   go_simp
   refine xK hK (hS2) fun hHeld=>?_
   refine rdA 8 rfl fun K hK=>?_
   go_simp
   refine (KM.o).mono ?_
   rintro e W3 ⟨rfl,hI3,hF3⟩
   have hr3:=hF3.row HR2.o HXW2.o
   have hS3:JU W c W3:=⟨hr3 0 _ rfl,hr3 1 _ rfl,hr3 2 _ rfl,hr3 3 _ rfl,hr3 4 _ rfl,hr3 5 _ rfl,hr3 6 _ rfl,hr3 7 _ rfl,hr3 8 _ rfl,hr3 9 _ rfl⟩
   clear hr3
   go_simp
   refine xK hK (hS3) fun hHeld=>?_
   refine gE ?_
   go_end0
   refine ⟨rfl,by rw [HALL.o];exact hI3,?_⟩
   exact (HF0.o.trans HFZ.o).trans hF3
end
section
variable {σ:Type} (c:WC) (w0:World) (nv:Nat) (fs:List FnD) (Inv:σ->World->Prop) (X:World->Nat->Prop)
def Df (flow:Lev->Bool × Nat->σ->σ) (G:FuncId) (d1 d2:Value):Prop:=
 ∀ (st:σ) (W:World) (v:Value) (l:Lev) (i:Bool × Nat) (b off:Nat),Inv st W->AY c.n X W v l->(i.1=true->i.2 < nv)->(i.1=false->i.2 < fs.length)->(if i.1=true then c.la else c.ka)=some ⟨b,off,none⟩ ->
  Calls Tryz.prog G #[v,zj (some ⟨b,off+i.2*2,none⟩),d1,d2] W fun e W'=>e=zk (zm #[])/\Inv (flow l i st) W'/\FrW X W W'
structure BK (s:Nat) (G:FuncId) (d1 d2:Value) (W:World):Prop where
 row:Ae c.cs W s
 flow:W.cell? ⟨s+1,0,none⟩=some (.func (.func G) #[] #[d1,d2])
 toVar:W.cell? ⟨s+1+1,0,none⟩=some (.func (.func 115) #[] #[zj (some ⟨s,0,none⟩),zj (some ⟨s+1,0,none⟩)])
 x0:¬ X W s
 x1:¬ X W (s+1)
 x2:¬ X W (s+1+1)
end
section
variable {σ:Type} {c:WC} {w0:World} {K nv ni no:Nat} {fs:List FnD} {gs:List (Int × Int)} {lev flev:σ->List Lev} {Inv:σ->World->Prop} {X:World->Nat->Prop} {s:Nat} {G:FuncId} {d1 d2:Value}
theorem BK.over (hX:XOk X) {W W':World} (h:BK c X s G d1 d2 W) (hb:Ov W W'):BK c X s G d1 d2 W':=
 ⟨h.row.over hb,Ab hb _ _ h.flow,Ab hb _ _ h.toVar,fun x=>h.x0 (hX.below _ _ hb _ x),fun x=>h.x1 (hX.below _ _ hb _ x),fun x=>h.x2 (hX.below _ _ hb _ x)⟩
theorem BK.keep {W W':World} (h:BK c X s G d1 d2 W) (hf:FrW X W W'):BK c X s G d1 d2 W':=
 ⟨hf.row h.row h.x0,hf.cell h.flow h.x1,hf.cell h.toVar h.x2,fun x=>h.x0 (hf.mov _ (bL (h.row 0 _ rfl)) x),fun x=>h.x1 (hf.mov _ (bL h.flow) x),fun x=>h.x2 (hf.mov _ (bL h.toVar) x)⟩
abbrev Lp (s:Nat) (c:WC) (bv ov bl ol:Nat) (G:FuncId) (d1 d2:Value) (W:World) (p1:Option Addr) (q1 r1:Nat) (p2:Option Addr) (q2 r2:Nat) (Wz:World):Prop:=Wz.cell? ⟨s,0,none⟩=some (U zd (c.n:Int))/\CE Wz s 1 (O c.ga c.gn c.gc)/\CE Wz s 2 (O c.sa c.sn c.sc)/\CE Wz s 3 (O c.ya c.yn c.yc)/\CE Wz s 4 (O c.oa c.on c.oc)/\CE Wz s 5 (O (some ⟨bv,ov,none⟩) c.vn c.vc)/\CE Wz s 6 (O c.fa c.fn c.fc)/\CE Wz s 7 (O c.ba c.bn c.bc)/\CE Wz s 8 (O (some ⟨bl,ol,none⟩) c.ln c.lc)/\CE Wz s 9 (O c.ka c.kn c.kc)/\CE Wz (s+1) 0 (.func (.func G) #[] #[d1,d2])/\CE Wz W.heap.size 0 (O p1 q1 r1)/\CE Wz W.heap.size 1 (O p2 q2 r2)
theorem EX (I:Eg c w0 nv fs gs lev flev Inv X) (flow:Lev->Bool × Nat->σ->σ) (hC:∀ (args:Array Value) (w:World),(callFunc G args).run Tryz.prog w=.ok (.enter G args) w) (hfl:Hx (Df c nv fs Inv X flow G d1 d2)) (vs) (hvs:Br w0 (O c.va c.vn c.vc) vs) (hnv:vs.length=nv)
  (st:σ) (W:World) (v:Value) (l:Lev) (i:Int) (hI:Inv st W) (hB:BK c X s G d1 d2 W) (hl:AY c.n X W v l) (h0:0<=i) (hi:i < nv) :
  Calls Tryz.prog 115 #[v,U zd i,zj (some ⟨s,0,none⟩),zj (some ⟨s+1,0,none⟩)] W fun e W'=>e=zk (zm #[])/\Inv (toVar (vs.map Prod.fst) flow l i st) W'/\FrW X W W':=by
 obtain ⟨p1,q1,r1,p2,q2,r2,rfl⟩:=hl.form
 obtain ⟨j,rfl⟩:∃ j:Nat,i=(j:Int):=⟨i.toNat,by omega⟩
 have hj:j < vs.length:=by omega
 obtain ⟨hvm,va',vc',hve,hvc⟩:=hvs
 injection hve with v1 v2 v3
 obtain ⟨bv,ov,hvo,hvel⟩:=hvc (by intro h;rw [h] at hj;simp at hj)
 obtain ⟨pr,pw,k0,-,-,-,-⟩:=hvel j hj
 have hva:c.va=some ⟨bv,ov,none⟩:=v1.trans hvo
 have k0:=Ab (I.below _ _ hI) _ _ k0
 have hb:Ov W (W.alloc (ze #[O p1 q1 r1,O p2 q2 r2] 50)):=bA W _
 have k0b:=Ab hb _ _ k0
 have hI1:=I.over _ _ _ hI hb
 have hB1:=hB.over I.xok hb
 have hl1:=hl.over I.xok hb
 have hF1:=FrW.of_below I.xok hb
 have hvn:j < c.vn:=by omega
 have hvn16:c.vn<=16:=by have:=I.nv16;omega
 have hgd:(vs.map Prod.fst).getD (j:Int).toNat false=vs[j].1:=by simp [List.getD_eq_getElem?_getD,hj]
 obtain ⟨kn,hkn⟩:=nm (vs[j].1)
 rw [<-hkn] at k0b hgd
 obtain ⟨t0,t1,t2,t3,t4,t5,t6,t7,t8,t9⟩:=Cd hB1.row
 rw [hva] at t5
 cases kn with
 | true=>
  have HR:Hx (toVar (vs.map Prod.fst) flow l (j:Int) st=st):=by unfold toVar;rw [if_pos hgd];rfl
  have HI1:=Aa hI1
  have HF1:=Aa hF1
  clear hfl hgd hkn hI1 hF1 hB1 hl1 hB hl hI hb k0 hvel hvc hvo v1 v2 v3
  go_enter Tryz.func115,Tryz.ntmps115
  go_wp2_with fail
  go_end0
  exact ⟨rfl,by rw [HR.o];exact HI1.o,HF1.o⟩
 | false=>
  have HR:Hx (toVar (vs.map Prod.fst) flow l (j:Int) st=flow l (true,j) st):=by unfold toVar;rw [if_neg (by rw [hgd];simp)];rfl
  obtain ⟨hlv,hll⟩:=I.levs _ _ hI1
  obtain ⟨ao,cap,hle,hlc⟩:=hlv
  injection hle with l1 l2 l3
  obtain ⟨bl,ol,hlo,-⟩:=hlc (by intro h;rw [h] at hll;simp at hll;omega)
  have hla:c.la=some ⟨bl,ol,none⟩:=l1.trans hlo
  have hln:j < c.ln:=by omega
  have hln16:c.ln<=16:=by have:=I.nv16;omega
  have KF:=Aa fun (W1:World) (hb1:Ov (W.alloc (ze #[O p1 q1 r1,O p2 q2 r2] 50)) W1)=>hfl.o st W1 _ l (true,j) bl ol (I.over _ _ _ hI1 hb1) (hl1.over I.xok hb1) (fun _=>by omega) (fun h=>by cases h) (by rw [if_pos rfl];exact hla)
  rw [hla] at t8
  have f0:=hB1.flow
  have HR0:=Aa hB1.row
  have HX0:=Aa hB1.x0
  have HX1:=Aa hB1.x1
  have rowB:=Ae.new [O p1 q1 r1,O p2 q2 r2] 50 W
  have xB:¬ X (W.alloc (ze #[O p1 q1 r1,O p2 q2 r2] 50)) W.heap.size:=fun h=>by have:=I.xlt _ _ hI _ (I.xok.below _ _ hb _ h);omega
  have HRB:=Aa rowB
  have HXB:=Aa xB
  obtain ⟨b0,b1⟩:=rc2 rowB
  have hS0:Lp s c bv ov bl ol G d1 d2 W p1 q1 r1 p2 q2 r2 (W.alloc (ze #[O p1 q1 r1,O p2 q2 r2] 50)):=⟨t0,t1,t2,t3,t4,t5,t6,t7,t8,t9,f0,b0,b1⟩
  have HI:=Aa I
  have HF1:=Aa hF1
  have hj1:(j:Int) < (c.vn:Int):=by omega
  have hj2:(j:Int) < (c.ln:Int):=by omega
  clear hfl hgd hkn hI1 hF1 hB1 hl1 hB hl hI hb k0 hvel hvc hvo v1 v2 v3 hlc hlo l1 l2 l3 hll rowB xB I
  go_enter Tryz.func115,Tryz.ntmps115
  go_wp2_with fail
  refine gS (Lp s c bv ov bl ol G d1 d2 W p1 q1 r1 p2 q2 r2) (hS0) fun hHeld=>?_
  refine kT 0 ?_
  refine kT 1 ?_
  refine kT 2 ?_
  refine kT 3 ?_
  refine kT 4 ?_
  refine kT 5 ?_
  refine kT 6 ?_
  refine kT 7 ?_
  refine rdA 8 rfl fun K hK=>?_
  go_simp
  refine (KF.o _ (bD _)).mono ?_
  rintro e W2 ⟨rfl,hI2,hF2⟩
  have hr0:=hF2.row (show Ae c.cs _ s from HR0.o) (fun h=>HX0.o (HI.o.xok.below _ _ (bD _) _ h))
  have hr1:=hF2.cell (show (W.alloc (ze #[O p1 q1 r1,O p2 q2 r2] 50)).drew.cell? ⟨s+1,0,none⟩=some (.func (.func G) #[] #[d1,d2]) from f0) (fun h=>HX1.o (HI.o.xok.below _ _ (bD _) _ h))
  have hr2:=hF2.row (show Ae [O p1 q1 r1,O p2 q2 r2] _ W.heap.size from HRB.o) (fun h=>HXB.o (HI.o.xok.below _ _ (bD _) _ h))
  have hS2:Lp s c bv ov bl ol G d1 d2 W p1 q1 r1 p2 q2 r2 W2:=⟨hr0 0 _ rfl,hr0 1 _ rfl,hr0 2 _ rfl,hr0 3 _ rfl,hr0 4 _ rfl,by rw [<-hva];exact hr0 5 _ rfl,hr0 6 _ rfl,hr0 7 _ rfl,by rw [<-hla];exact hr0 8 _ rfl,hr0 9 _ rfl,hr1,hr2 0 _ rfl,hr2 1 _ rfl⟩
  go_simp
  refine xK hK (hS2) fun hHeld=>?_
  refine gE ?_
  go_end0
  exact ⟨rfl,by rw [HR.o];exact hI2,HF1.o.trans ((FrW.of_below HI.o.xok (bD _)).trans hF2)⟩
end
theorem AY.mix {n:Nat} {X:World->Nat->Prop} {W:World} {x y x' y':Value} {l k:Lev} (h:AY n X W (zh #[x,y]) l) (h2:AY n X W (zh #[x',y']) k):AY n X W (zh #[x,y']) ⟨l.r,k.w⟩:=by
 obtain ⟨a,b,e,ha,hb⟩:=h.at_
 obtain ⟨a',b',e',ha',hb'⟩:=h2.at_
 obtain ⟨u,v,f,hu,hv⟩:=h.off
 obtain ⟨u',v',f',hu',hv'⟩:=h2.off
 simp at e e' f f'
 obtain ⟨rfl,rfl⟩:=e
 obtain ⟨rfl,rfl⟩:=e'
 obtain ⟨rfl,rfl⟩:=f
 obtain ⟨rfl,rfl⟩:=f'
 exact ⟨⟨_,_,rfl,ha,hb'⟩,⟨h.len.1,h2.len.2⟩,_,_,rfl,hu,hv'⟩
section
variable {σ:Type} {c:WC} {w0:World} {K nv ni no:Nat} {fs:List FnD} {gs:List (Int × Int)} {lev flev:σ->List Lev} {Inv:σ->World->Prop} {X:World->Nat->Prop} {s:Nat} {G:FuncId} {d1 d2:Value}
theorem O1 (I:Eg c w0 nv fs gs lev flev Inv X) (flow:Lev->Bool × Nat->σ->σ) (hC:∀ (args:Array Value) (w:World),(callFunc G args).run Tryz.prog w=.ok (.enter G args) w) (hfl:Hx (Df c nv fs Inv X flow G d1 d2)) (vs) (hvs:Br w0 (O c.va c.vn c.vc) vs) (hnv:vs.length=nv)
  (ls:List Lab) (hls:Bb w0 (O c.ya c.yn c.yc) ls) (hlc:∀ b∈ls,Bo c.n gs b=0) (hni:ls.length=ni) (hni5:ni<=5) (kf:Nat) (hfs:BC w0 K kf (O c.fa c.fn c.fc) fs) (hf5:fs.length<=5) (hof:∀ i (h:i < fs.length),okF K nv ni no (i:Int) fs kf fs[i])
  (st:σ) (W:World) (a:Int) (k:Nat) (cs:List Value) (d:D) (v:Value) (p:Lev) (funcs:Int) (hI:Inv st W) (hB:BK c X s G d1 d2 W) (hrs:RS w0 K (k+1) cs d) (hfn:funcs<=fs.length) (hok:CJ K nv ni no funcs fs d) (hl:AY c.n X W v p) (hk:Am d=1) :
  Calls Tryz.prog 116 #[U zd a,.agg cs.toArray,v,zj (some ⟨s,0,none⟩),zj (some ⟨s+1+1,0,none⟩),zj (some ⟨s+1,0,none⟩)] W fun e W'=>e=zk (zm #[])/\(Inv (BX c.n K lev (vs.map Prod.fst) (ls.map (AA (AD gs) c.n)) fs flow a d p st) W'/\BK c X s G d1 d2 W')/\FrW X W W':=by
 obtain ⟨p1,q1,r1,p2,q2,r2,rfl⟩:=hl.form
 obtain ⟨ek,en,xa,xl,xc,aa,ac,ta,tc,ea,ec,rfl,i0,i1,i2,hX,hA,hT,hE,-,-,-⟩:=hrs.form
 obtain ⟨vr,hvr⟩:=nm (AK d)
 obtain ⟨ot,hot⟩:=nm (Ah d)
 obtain ⟨al,hal⟩:=nm ((Ap d).length)
 obtain ⟨tl,htl⟩:=nm ((Av d).length)
 obtain ⟨el,hel⟩:=nm ((Ax d).length)
 have hkd:sC (Am d) (AK d) (Ah d) ek en xa xl xc aa (Ap d).length ac ta (Av d).length tc ea (Ax d).length ec=sC 1 (AK d) (Ah d) ek en xa xl xc aa (Ap d).length ac ta (Av d).length tc ea (Ax d).length ec:=by rw [hk]
 rw [hkd]
 clear hkd
 rw [<-hvr,<-hot,<-hal,<-htl,<-hel]
 have HVR:=Aa hvr
 have HOT:=Aa hot
 have HAL:=Aa hal
 have hb:Ov W ((W.alloc (ze #[U zd 1,U zd vr,U zd ot,U zd ek,U zd en,O xa xl xc,O aa al ac,O ta tl tc,O ea el ec] 130)).alloc (ze #[O p1 q1 r1,O p2 q2 r2] 50)):=(bA W _).alloc (by simp) _
 have hI1:=I.over _ _ _ hI hb
 have hB1:=hB.over I.xok hb
 have hl1:=hl.over I.xok hb
 have hF1:=FrW.of_below I.xok hb
 have rowS:Ae [U zd 1,U zd vr,U zd ot,U zd ek,U zd en,O xa xl xc,O aa al ac,O ta tl tc,O ea el ec] ((W.alloc (ze #[U zd 1,U zd vr,U zd ot,U zd ek,U zd en,O xa xl xc,O aa al ac,O ta tl tc,O ea el ec] 130)).alloc (ze #[O p1 q1 r1,O p2 q2 r2] 50)) W.heap.size:=(Ae.new [U zd 1,U zd vr,U zd ot,U zd ek,U zd en,O xa xl xc,O aa al ac,O ta tl tc,O ea el ec] 130 W).over (bA _ _)
 have rowP:Ae [O p1 q1 r1,O p2 q2 r2] ((W.alloc (ze #[U zd 1,U zd vr,U zd ot,U zd ek,U zd en,O xa xl xc,O aa al ac,O ta tl tc,O ea el ec] 130)).alloc (ze #[O p1 q1 r1,O p2 q2 r2] 50)) (W.heap.size+1):=by
  have r:=Ae.new [O p1 q1 r1,O p2 q2 r2] 50 (W.alloc (ze #[U zd 1,U zd vr,U zd ot,U zd ek,U zd en,O xa xl xc,O aa al ac,O ta tl tc,O ea el ec] 130))
  simpa using r
 have xS:¬ X ((W.alloc (ze #[U zd 1,U zd vr,U zd ot,U zd ek,U zd en,O xa xl xc,O aa al ac,O ta tl tc,O ea el ec] 130)).alloc (ze #[O p1 q1 r1,O p2 q2 r2] 50)) W.heap.size:=fun h=>by have:=I.xlt _ _ hI _ (I.xok.below _ _ hb _ h);omega
 have xP:¬ X ((W.alloc (ze #[U zd 1,U zd vr,U zd ot,U zd ek,U zd en,O xa xl xc,O aa al ac,O ta tl tc,O ea el ec] 130)).alloc (ze #[O p1 q1 r1,O p2 q2 r2] 50)) (W.heap.size+1):=fun h=>by have:=I.xlt _ _ hI _ (I.xok.below _ _ hb _ h);omega
 have hBe:=I.below _ _ hI1
 have hlv:=I.levs _ _ hI1
 have KW:=Aa (DU c I.n1 I.n6 gs (lev st) X I.xok _ p K [U zd ek,U zd en,O xa xl xc] (AV d) _ (Af I.gr hBe) I.chk hlv.1 hl1 (by rw [hlv.2];exact I.nv16) (I.xlt _ _ hI1) (hX.over hBe) (by rw [hlv.2];exact BD hok))
 have KV:=Aa (fun (st:σ) (W:World) (v:Value) (l:Lev) (i:Int)=>EX (s:=s) I flow hC hfl vs hvs hnv st W v l i)
 obtain ⟨t0,t1,t2,t3,t4,t5,t6,t7,t8,t9⟩:=Cd hB1.row
 obtain ⟨g0,g1,g2,g3,g4,g5,g6,g7,g8⟩:=rc9 rowS
 obtain ⟨u0,u1⟩:=rc2 rowP
 have HI:=Aa I
 have HI1:=Aa hI1
 have HB1:=Aa hB1
 have HL1:=Aa hl1
 have HF1:=Aa hF1
 have HRS:=Aa rowS
 have HRP:=Aa rowP
 have HXS:=Aa xS
 have HXP:=Aa xP
 have HOK:=Aa hok
 have HFL:=Aa hfl.o
 have HFS:=Aa hfs
 have HOF:=Aa hof
 have HLS:=Aa hls
 have HA:=Aa hA
 have HLC:=Aa hlc
 clear hI1 hB1 hl1 hF1 rowS rowP xS xP hBe hlv hvr hot hal htl hel hb hrs hX hA hT hE hI hB hl hfl hvs hok hfs hof hls hlc I
 go_enter Tryz.func116,Tryz.ntmps116
 go_wp2_with fail
 refine (KW.o).mono ?_
 rintro e W3 ⟨⟨o1,o2,o3,o4,o5,o6,rfl,hL3⟩,hb3⟩
 have hb34:=bA W3 (ze #[O o1 o2 o3,O o4 o5 o6] 50)
 have hb14:=Ac hb3 hb34
 have hI4:=HI.o.over _ _ _ HI1.o hb14
 have hI3:=HI.o.over _ _ _ HI1.o hb3
 have hB4:=HB1.o.over HI.o.xok hb14
 have hL4:=hL3.over HI.o.xok hb34
 have hP4:=HL1.o.over HI.o.xok hb14
 have rowA:=Ae.new [O o1 o2 o3,O o4 o5 o6] 50 W3
 have rowS:=HRS.o.over hb14
 have rowP:=HRP.o.over hb14
 have xS:¬ X (W3.alloc (ze #[O o1 o2 o3,O o4 o5 o6] 50)) W.heap.size:=fun h=>HXS.o (HI.o.xok.below _ _ hb14 _ h)
 have xP:¬ X (W3.alloc (ze #[O o1 o2 o3,O o4 o5 o6] 50)) (W.heap.size+1):=fun h=>HXP.o (HI.o.xok.below _ _ hb14 _ h)
 have xA:¬ X (W3.alloc (ze #[O o1 o2 o3,O o4 o5 o6] 50)) W3.heap.size:=fun h=>by have:=HI.o.xlt _ _ hI3 _ (HI.o.xok.below _ _ hb34 _ h);omega
 have hF4:=HF1.o.trans (FrW.of_below HI.o.xok hb14)
 have HI4:=Aa hI4
 have HB4:=Aa hB4
 have HL4:=Aa hL4
 have HP4:=Aa hP4
 have HF4:=Aa hF4
 have HRS4:=Aa rowS
 have HRP4:=Aa rowP
 have HRA4:=Aa rowA
 have HXS4:=Aa xS
 have HXP4:=Aa xP
 have HXA4:=Aa xA
 clear t0 t1 t2 t3 t4 t5 t6 t7 t8 t9 g0 g1 g2 g3 g4 g5 g6 g7 g8 u0 u1 hb3 hb34 hb14 hL3 hI4 hI3 hB4 hL4 hP4 hF4 rowA rowS rowP xS xP xA KW HI1 HB1 HL1 HF1 HRS HRP HXS HXP
 obtain ⟨t0,t1,t2,t3,t4,t5,t6,t7,t8,t9⟩:=Cd HB4.o.row
 obtain ⟨g0,g1,g2,g3,g4,g5,g6,g7,g8⟩:=rc9 HRS4.o
 obtain ⟨u0,u1⟩:=rc2 HRP4.o
 obtain ⟨y0,y1⟩:=rc2 HRA4.o
 have tv:=HB4.o.toVar
 have fl:=HB4.o.flow
 go_wp2_with fail
 refine (KV.o st _ _ _ vr HI4.o HB4.o HL4.o (by rw [HVR.o];exact (HOK.o.2.1 (by omega)).1) (by rw [HVR.o];exact (HOK.o.2.1 (by omega)).2)).mono ?_
 rintro e W5 ⟨rfl,hI5,hF5⟩
 go_wp2_with fail
 go_end0
 refine ⟨rfl,⟨?_,HB4.o.keep hF5⟩,HF4.o.trans hF5⟩
 unfold BX
 rw [if_pos hk,<-HVR.o]
 exact hI5
theorem OY (I:Eg c w0 nv fs gs lev flev Inv X) (flow:Lev->Bool × Nat->σ->σ) (hC:∀ (args:Array Value) (w:World),(callFunc G args).run Tryz.prog w=.ok (.enter G args) w) (hfl:Hx (Df c nv fs Inv X flow G d1 d2)) (vs) (hvs:Br w0 (O c.va c.vn c.vc) vs) (hnv:vs.length=nv)
  (ls:List Lab) (hls:Bb w0 (O c.ya c.yn c.yc) ls) (hlc:∀ b∈ls,Bo c.n gs b=0) (hni:ls.length=ni) (hni5:ni<=5) (kf:Nat) (hfs:BC w0 K kf (O c.fa c.fn c.fc) fs) (hf5:fs.length<=5) (hof:∀ i (h:i < fs.length),okF K nv ni no (i:Int) fs kf fs[i])
  (st:σ) (W:World) (a:Int) (k:Nat) (cs:List Value) (d:D) (v:Value) (p:Lev) (funcs:Int) (hI:Inv st W) (hB:BK c X s G d1 d2 W) (hrs:RS w0 K (k+1) cs d) (hfn:funcs<=fs.length) (hok:CJ K nv ni no funcs fs d) (hl:AY c.n X W v p) (hk:Am d=5) :
  Calls Tryz.prog 116 #[U zd a,.agg cs.toArray,v,zj (some ⟨s,0,none⟩),zj (some ⟨s+1+1,0,none⟩),zj (some ⟨s+1,0,none⟩)] W fun e W'=>e=zk (zm #[])/\(Inv (BX c.n K lev (vs.map Prod.fst) (ls.map (AA (AD gs) c.n)) fs flow a d p st) W'/\BK c X s G d1 d2 W')/\FrW X W W':=by
 obtain ⟨p1,q1,r1,p2,q2,r2,rfl⟩:=hl.form
 obtain ⟨ek,en,xa,xl,xc,aa,ac,ta,tc,ea,ec,rfl,i0,i1,i2,hX,hA,hT,hE,-,-,-⟩:=hrs.form
 obtain ⟨vr,hvr⟩:=nm (AK d)
 obtain ⟨ot,hot⟩:=nm (Ah d)
 obtain ⟨al,hal⟩:=nm ((Ap d).length)
 obtain ⟨tl,htl⟩:=nm ((Av d).length)
 obtain ⟨el,hel⟩:=nm ((Ax d).length)
 have hkd:sC (Am d) (AK d) (Ah d) ek en xa xl xc aa (Ap d).length ac ta (Av d).length tc ea (Ax d).length ec=sC 5 (AK d) (Ah d) ek en xa xl xc aa (Ap d).length ac ta (Av d).length tc ea (Ax d).length ec:=by rw [hk]
 rw [hkd]
 clear hkd
 rw [<-hvr,<-hot,<-hal,<-htl,<-hel]
 have HVR:=Aa hvr
 have HOT:=Aa hot
 have HAL:=Aa hal
 have hb:Ov W ((W.alloc (ze #[U zd 5,U zd vr,U zd ot,U zd ek,U zd en,O xa xl xc,O aa al ac,O ta tl tc,O ea el ec] 130)).alloc (ze #[O p1 q1 r1,O p2 q2 r2] 50)):=(bA W _).alloc (by simp) _
 have hI1:=I.over _ _ _ hI hb
 have hB1:=hB.over I.xok hb
 have hl1:=hl.over I.xok hb
 have hF1:=FrW.of_below I.xok hb
 have rowS:Ae [U zd 5,U zd vr,U zd ot,U zd ek,U zd en,O xa xl xc,O aa al ac,O ta tl tc,O ea el ec] ((W.alloc (ze #[U zd 5,U zd vr,U zd ot,U zd ek,U zd en,O xa xl xc,O aa al ac,O ta tl tc,O ea el ec] 130)).alloc (ze #[O p1 q1 r1,O p2 q2 r2] 50)) W.heap.size:=(Ae.new [U zd 5,U zd vr,U zd ot,U zd ek,U zd en,O xa xl xc,O aa al ac,O ta tl tc,O ea el ec] 130 W).over (bA _ _)
 have rowP:Ae [O p1 q1 r1,O p2 q2 r2] ((W.alloc (ze #[U zd 5,U zd vr,U zd ot,U zd ek,U zd en,O xa xl xc,O aa al ac,O ta tl tc,O ea el ec] 130)).alloc (ze #[O p1 q1 r1,O p2 q2 r2] 50)) (W.heap.size+1):=by
  have r:=Ae.new [O p1 q1 r1,O p2 q2 r2] 50 (W.alloc (ze #[U zd 5,U zd vr,U zd ot,U zd ek,U zd en,O xa xl xc,O aa al ac,O ta tl tc,O ea el ec] 130))
  simpa using r
 have xS:¬ X ((W.alloc (ze #[U zd 5,U zd vr,U zd ot,U zd ek,U zd en,O xa xl xc,O aa al ac,O ta tl tc,O ea el ec] 130)).alloc (ze #[O p1 q1 r1,O p2 q2 r2] 50)) W.heap.size:=fun h=>by have:=I.xlt _ _ hI _ (I.xok.below _ _ hb _ h);omega
 have xP:¬ X ((W.alloc (ze #[U zd 5,U zd vr,U zd ot,U zd ek,U zd en,O xa xl xc,O aa al ac,O ta tl tc,O ea el ec] 130)).alloc (ze #[O p1 q1 r1,O p2 q2 r2] 50)) (W.heap.size+1):=fun h=>by have:=I.xlt _ _ hI _ (I.xok.below _ _ hb _ h);omega
 have hBe:=I.below _ _ hI1
 have hlv:=I.levs _ _ hI1
 have KW:=Aa (DU c I.n1 I.n6 gs (lev st) X I.xok _ p K [U zd ek,U zd en,O xa xl xc] (AV d) _ (Af I.gr hBe) I.chk hlv.1 hl1 (by rw [hlv.2];exact I.nv16) (I.xlt _ _ hI1) (hX.over hBe) (by rw [hlv.2];exact BD hok))
 have KV:=Aa (fun (st:σ) (W:World) (v:Value) (l:Lev) (i:Int)=>EX (s:=s) I flow hC hfl vs hvs hnv st W v l i)
 obtain ⟨t0,t1,t2,t3,t4,t5,t6,t7,t8,t9⟩:=Cd hB1.row
 obtain ⟨g0,g1,g2,g3,g4,g5,g6,g7,g8⟩:=rc9 rowS
 obtain ⟨u0,u1⟩:=rc2 rowP
 have HI:=Aa I
 have HI1:=Aa hI1
 have HB1:=Aa hB1
 have HL1:=Aa hl1
 have HF1:=Aa hF1
 have HRS:=Aa rowS
 have HRP:=Aa rowP
 have HXS:=Aa xS
 have HXP:=Aa xP
 have HOK:=Aa hok
 have HFL:=Aa hfl.o
 have HFS:=Aa hfs
 have HOF:=Aa hof
 have HLS:=Aa hls
 have HA:=Aa hA
 have HLC:=Aa hlc
 clear hI1 hB1 hl1 hF1 rowS rowP xS xP hBe hlv hvr hot hal htl hel hb hrs hX hA hT hE hI hB hl hfl hvs hok hfs hof hls hlc I
 go_enter Tryz.func116,Tryz.ntmps116
 go_wp2_with fail
 refine (KW.o).mono ?_
 rintro e W3 ⟨⟨o1,o2,o3,o4,o5,o6,rfl,hL3⟩,hb3⟩
 have hb34:=bA W3 (ze #[O o1 o2 o3,O o4 o5 o6] 50)
 have hb14:=Ac hb3 hb34
 have hI4:=HI.o.over _ _ _ HI1.o hb14
 have hI3:=HI.o.over _ _ _ HI1.o hb3
 have hB4:=HB1.o.over HI.o.xok hb14
 have hL4:=hL3.over HI.o.xok hb34
 have hP4:=HL1.o.over HI.o.xok hb14
 have rowA:=Ae.new [O o1 o2 o3,O o4 o5 o6] 50 W3
 have rowS:=HRS.o.over hb14
 have rowP:=HRP.o.over hb14
 have xS:¬ X (W3.alloc (ze #[O o1 o2 o3,O o4 o5 o6] 50)) W.heap.size:=fun h=>HXS.o (HI.o.xok.below _ _ hb14 _ h)
 have xP:¬ X (W3.alloc (ze #[O o1 o2 o3,O o4 o5 o6] 50)) (W.heap.size+1):=fun h=>HXP.o (HI.o.xok.below _ _ hb14 _ h)
 have xA:¬ X (W3.alloc (ze #[O o1 o2 o3,O o4 o5 o6] 50)) W3.heap.size:=fun h=>by have:=HI.o.xlt _ _ hI3 _ (HI.o.xok.below _ _ hb34 _ h);omega
 have hF4:=HF1.o.trans (FrW.of_below HI.o.xok hb14)
 have HI4:=Aa hI4
 have HB4:=Aa hB4
 have HL4:=Aa hL4
 have HP4:=Aa hP4
 have HF4:=Aa hF4
 have HRS4:=Aa rowS
 have HRP4:=Aa rowP
 have HRA4:=Aa rowA
 have HXS4:=Aa xS
 have HXP4:=Aa xP
 have HXA4:=Aa xA
 clear t0 t1 t2 t3 t4 t5 t6 t7 t8 t9 g0 g1 g2 g3 g4 g5 g6 g7 g8 u0 u1 hb3 hb34 hb14 hL3 hI4 hI3 hB4 hL4 hP4 hF4 rowA rowS rowP xS xP xA KW HI1 HB1 HL1 HF1 HRS HRP HXS HXP
 obtain ⟨t0,t1,t2,t3,t4,t5,t6,t7,t8,t9⟩:=Cd HB4.o.row
 obtain ⟨g0,g1,g2,g3,g4,g5,g6,g7,g8⟩:=rc9 HRS4.o
 obtain ⟨u0,u1⟩:=rc2 HRP4.o
 obtain ⟨y0,y1⟩:=rc2 HRA4.o
 have tv:=HB4.o.toVar
 have fl:=HB4.o.flow
 go_wp2_with fail
 refine (KV.o st _ _ _ vr HI4.o HB4.o (AY.mix HP4.o HL4.o) (by rw [HVR.o];exact (HOK.o.2.1 (by omega)).1) (by rw [HVR.o];exact (HOK.o.2.1 (by omega)).2)).mono ?_
 rintro e W5 ⟨rfl,hI5,hF5⟩
 go_wp2_with fail
 go_end0
 refine ⟨rfl,⟨?_,HB4.o.keep hF5⟩,HF4.o.trans hF5⟩
 unfold BX
 rw [if_neg (by omega),if_neg (by omega),if_neg (by omega),if_pos hk,<-HVR.o]
 exact hI5
theorem OX (I:Eg c w0 nv fs gs lev flev Inv X) (flow:Lev->Bool × Nat->σ->σ) (hC:∀ (args:Array Value) (w:World),(callFunc G args).run Tryz.prog w=.ok (.enter G args) w) (hfl:Hx (Df c nv fs Inv X flow G d1 d2)) (vs) (hvs:Br w0 (O c.va c.vn c.vc) vs) (hnv:vs.length=nv)
  (ls:List Lab) (hls:Bb w0 (O c.ya c.yn c.yc) ls) (hlc:∀ b∈ls,Bo c.n gs b=0) (hni:ls.length=ni) (hni5:ni<=5) (kf:Nat) (hfs:BC w0 K kf (O c.fa c.fn c.fc) fs) (hf5:fs.length<=5) (hof:∀ i (h:i < fs.length),okF K nv ni no (i:Int) fs kf fs[i])
  (st:σ) (W:World) (a:Int) (k:Nat) (cs:List Value) (d:D) (v:Value) (p:Lev) (funcs:Int) (hI:Inv st W) (hB:BK c X s G d1 d2 W) (hrs:RS w0 K (k+1) cs d) (hfn:funcs<=fs.length) (hok:CJ K nv ni no funcs fs d) (hl:AY c.n X W v p) (hk:Am d=6) :
  Calls Tryz.prog 116 #[U zd a,.agg cs.toArray,v,zj (some ⟨s,0,none⟩),zj (some ⟨s+1+1,0,none⟩),zj (some ⟨s+1,0,none⟩)] W fun e W'=>e=zk (zm #[])/\(Inv (BX c.n K lev (vs.map Prod.fst) (ls.map (AA (AD gs) c.n)) fs flow a d p st) W'/\BK c X s G d1 d2 W')/\FrW X W W':=by
 obtain ⟨p1,q1,r1,p2,q2,r2,rfl⟩:=hl.form
 obtain ⟨ek,en,xa,xl,xc,aa,ac,ta,tc,ea,ec,rfl,i0,i1,i2,hX,hA,hT,hE,-,-,-⟩:=hrs.form
 obtain ⟨vr,hvr⟩:=nm (AK d)
 obtain ⟨ot,hot⟩:=nm (Ah d)
 obtain ⟨al,hal⟩:=nm ((Ap d).length)
 obtain ⟨tl,htl⟩:=nm ((Av d).length)
 obtain ⟨el,hel⟩:=nm ((Ax d).length)
 have hkd:sC (Am d) (AK d) (Ah d) ek en xa xl xc aa (Ap d).length ac ta (Av d).length tc ea (Ax d).length ec=sC 6 (AK d) (Ah d) ek en xa xl xc aa (Ap d).length ac ta (Av d).length tc ea (Ax d).length ec:=by rw [hk]
 rw [hkd]
 clear hkd
 rw [<-hvr,<-hot,<-hal,<-htl,<-hel]
 have HVR:=Aa hvr
 have HOT:=Aa hot
 have HAL:=Aa hal
 have hb:Ov W ((W.alloc (ze #[U zd 6,U zd vr,U zd ot,U zd ek,U zd en,O xa xl xc,O aa al ac,O ta tl tc,O ea el ec] 130)).alloc (ze #[O p1 q1 r1,O p2 q2 r2] 50)):=(bA W _).alloc (by simp) _
 have hI1:=I.over _ _ _ hI hb
 have hB1:=hB.over I.xok hb
 have hl1:=hl.over I.xok hb
 have hF1:=FrW.of_below I.xok hb
 have rowS:Ae [U zd 6,U zd vr,U zd ot,U zd ek,U zd en,O xa xl xc,O aa al ac,O ta tl tc,O ea el ec] ((W.alloc (ze #[U zd 6,U zd vr,U zd ot,U zd ek,U zd en,O xa xl xc,O aa al ac,O ta tl tc,O ea el ec] 130)).alloc (ze #[O p1 q1 r1,O p2 q2 r2] 50)) W.heap.size:=(Ae.new [U zd 6,U zd vr,U zd ot,U zd ek,U zd en,O xa xl xc,O aa al ac,O ta tl tc,O ea el ec] 130 W).over (bA _ _)
 have rowP:Ae [O p1 q1 r1,O p2 q2 r2] ((W.alloc (ze #[U zd 6,U zd vr,U zd ot,U zd ek,U zd en,O xa xl xc,O aa al ac,O ta tl tc,O ea el ec] 130)).alloc (ze #[O p1 q1 r1,O p2 q2 r2] 50)) (W.heap.size+1):=by
  have r:=Ae.new [O p1 q1 r1,O p2 q2 r2] 50 (W.alloc (ze #[U zd 6,U zd vr,U zd ot,U zd ek,U zd en,O xa xl xc,O aa al ac,O ta tl tc,O ea el ec] 130))
  simpa using r
 have xS:¬ X ((W.alloc (ze #[U zd 6,U zd vr,U zd ot,U zd ek,U zd en,O xa xl xc,O aa al ac,O ta tl tc,O ea el ec] 130)).alloc (ze #[O p1 q1 r1,O p2 q2 r2] 50)) W.heap.size:=fun h=>by have:=I.xlt _ _ hI _ (I.xok.below _ _ hb _ h);omega
 have xP:¬ X ((W.alloc (ze #[U zd 6,U zd vr,U zd ot,U zd ek,U zd en,O xa xl xc,O aa al ac,O ta tl tc,O ea el ec] 130)).alloc (ze #[O p1 q1 r1,O p2 q2 r2] 50)) (W.heap.size+1):=fun h=>by have:=I.xlt _ _ hI _ (I.xok.below _ _ hb _ h);omega
 have hBe:=I.below _ _ hI1
 have hlv:=I.levs _ _ hI1
 have KW:=Aa (DU c I.n1 I.n6 gs (lev st) X I.xok _ p K [U zd ek,U zd en,O xa xl xc] (AV d) _ (Af I.gr hBe) I.chk hlv.1 hl1 (by rw [hlv.2];exact I.nv16) (I.xlt _ _ hI1) (hX.over hBe) (by rw [hlv.2];exact BD hok))
 have KV:=Aa (fun (st:σ) (W:World) (v:Value) (l:Lev) (i:Int)=>EX (s:=s) I flow hC hfl vs hvs hnv st W v l i)
 obtain ⟨t0,t1,t2,t3,t4,t5,t6,t7,t8,t9⟩:=Cd hB1.row
 obtain ⟨g0,g1,g2,g3,g4,g5,g6,g7,g8⟩:=rc9 rowS
 obtain ⟨u0,u1⟩:=rc2 rowP
 have HI:=Aa I
 have HI1:=Aa hI1
 have HB1:=Aa hB1
 have HL1:=Aa hl1
 have HF1:=Aa hF1
 have HRS:=Aa rowS
 have HRP:=Aa rowP
 have HXS:=Aa xS
 have HXP:=Aa xP
 have HOK:=Aa hok
 have HFL:=Aa hfl.o
 have HFS:=Aa hfs
 have HOF:=Aa hof
 have HLS:=Aa hls
 have HA:=Aa hA
 have HLC:=Aa hlc
 clear hI1 hB1 hl1 hF1 rowS rowP xS xP hBe hlv hvr hot hal htl hel hb hrs hX hA hT hE hI hB hl hfl hvs hok hfs hof hls hlc I
 go_enter Tryz.func116,Tryz.ntmps116
 go_wp2_with fail
 refine (KW.o).mono ?_
 rintro e W3 ⟨⟨o1,o2,o3,o4,o5,o6,rfl,hL3⟩,hb3⟩
 have hb34:=bA W3 (ze #[O o1 o2 o3,O o4 o5 o6] 50)
 have hb14:=Ac hb3 hb34
 have hI4:=HI.o.over _ _ _ HI1.o hb14
 have hI3:=HI.o.over _ _ _ HI1.o hb3
 have hB4:=HB1.o.over HI.o.xok hb14
 have hL4:=hL3.over HI.o.xok hb34
 have hP4:=HL1.o.over HI.o.xok hb14
 have rowA:=Ae.new [O o1 o2 o3,O o4 o5 o6] 50 W3
 have rowS:=HRS.o.over hb14
 have rowP:=HRP.o.over hb14
 have xS:¬ X (W3.alloc (ze #[O o1 o2 o3,O o4 o5 o6] 50)) W.heap.size:=fun h=>HXS.o (HI.o.xok.below _ _ hb14 _ h)
 have xP:¬ X (W3.alloc (ze #[O o1 o2 o3,O o4 o5 o6] 50)) (W.heap.size+1):=fun h=>HXP.o (HI.o.xok.below _ _ hb14 _ h)
 have xA:¬ X (W3.alloc (ze #[O o1 o2 o3,O o4 o5 o6] 50)) W3.heap.size:=fun h=>by have:=HI.o.xlt _ _ hI3 _ (HI.o.xok.below _ _ hb34 _ h);omega
 have hF4:=HF1.o.trans (FrW.of_below HI.o.xok hb14)
 have HI4:=Aa hI4
 have HB4:=Aa hB4
 have HL4:=Aa hL4
 have HP4:=Aa hP4
 have HF4:=Aa hF4
 have HRS4:=Aa rowS
 have HRP4:=Aa rowP
 have HRA4:=Aa rowA
 have HXS4:=Aa xS
 have HXP4:=Aa xP
 have HXA4:=Aa xA
 clear t0 t1 t2 t3 t4 t5 t6 t7 t8 t9 g0 g1 g2 g3 g4 g5 g6 g7 g8 u0 u1 hb3 hb34 hb14 hL3 hI4 hI3 hB4 hL4 hP4 hF4 rowA rowS rowP xS xP xA KW HI1 HB1 HL1 HF1 HRS HRP HXS HXP
 obtain ⟨t0,t1,t2,t3,t4,t5,t6,t7,t8,t9⟩:=Cd HB4.o.row
 obtain ⟨g0,g1,g2,g3,g4,g5,g6,g7,g8⟩:=rc9 HRS4.o
 obtain ⟨u0,u1⟩:=rc2 HRP4.o
 obtain ⟨y0,y1⟩:=rc2 HRA4.o
 have tv:=HB4.o.toVar
 have fl:=HB4.o.flow
 go_wp2_with fail
 refine (KV.o st _ _ _ vr HI4.o HB4.o (AY.mix HL4.o HP4.o) (by rw [HVR.o];exact (HOK.o.2.1 (by omega)).1) (by rw [HVR.o];exact (HOK.o.2.1 (by omega)).2)).mono ?_
 rintro e W5 ⟨rfl,hI5,hF5⟩
 go_wp2_with fail
 go_end0
 refine ⟨rfl,⟨?_,HB4.o.keep hF5⟩,HF4.o.trans hF5⟩
 unfold BX
 rw [if_neg (by omega),if_neg (by omega),if_neg (by omega),if_neg (by omega),if_pos hk,<-HVR.o]
 exact hI5
theorem O2 (I:Eg c w0 nv fs gs lev flev Inv X) (flow:Lev->Bool × Nat->σ->σ) (hC:∀ (args:Array Value) (w:World),(callFunc G args).run Tryz.prog w=.ok (.enter G args) w) (hfl:Hx (Df c nv fs Inv X flow G d1 d2)) (vs) (hvs:Br w0 (O c.va c.vn c.vc) vs) (hnv:vs.length=nv)
  (ls:List Lab) (hls:Bb w0 (O c.ya c.yn c.yc) ls) (hlc:∀ b∈ls,Bo c.n gs b=0) (hni:ls.length=ni) (hni5:ni<=5) (kf:Nat) (hfs:BC w0 K kf (O c.fa c.fn c.fc) fs) (hf5:fs.length<=5) (hof:∀ i (h:i < fs.length),okF K nv ni no (i:Int) fs kf fs[i])
  (st:σ) (W:World) (a:Int) (k:Nat) (cs:List Value) (d:D) (v:Value) (p:Lev) (funcs:Int) (hI:Inv st W) (hB:BK c X s G d1 d2 W) (hrs:RS w0 K (k+1) cs d) (hfn:funcs<=fs.length) (hok:CJ K nv ni no funcs fs d) (hl:AY c.n X W v p) (hk:Am d=4\/Am d=7\/Am d=8) :
  Calls Tryz.prog 116 #[U zd a,.agg cs.toArray,v,zj (some ⟨s,0,none⟩),zj (some ⟨s+1+1,0,none⟩),zj (some ⟨s+1,0,none⟩)] W fun e W'=>e=zk (zm #[])/\(Inv (BX c.n K lev (vs.map Prod.fst) (ls.map (AA (AD gs) c.n)) fs flow a d p st) W'/\BK c X s G d1 d2 W')/\FrW X W W':=by
 have hd:BX c.n K lev (vs.map Prod.fst) (ls.map (AA (AD gs) c.n)) fs flow a d p st=st:=by
  unfold BX
  rw [if_neg (by omega),if_neg (by omega),if_neg (by omega),if_neg (by omega),if_neg (by omega)]
 rw [hd]
 have HD:=Aa hd
 clear hd
 obtain ⟨p1,q1,r1,p2,q2,r2,rfl⟩:=hl.form
 obtain ⟨ek,en,xa,xl,xc,aa,ac,ta,tc,ea,ec,rfl,i0,i1,i2,hX,hA,hT,hE,-,-,-⟩:=hrs.form
 obtain ⟨vr,hvr⟩:=nm (AK d)
 obtain ⟨ot,hot⟩:=nm (Ah d)
 obtain ⟨al,hal⟩:=nm ((Ap d).length)
 obtain ⟨tl,htl⟩:=nm ((Av d).length)
 obtain ⟨el,hel⟩:=nm ((Ax d).length)
 obtain ⟨kd,hkd⟩:=nm (Am d)
 rw [<-hkd] at hk ⊢
 have n1:(kd == 1)=false:=by simp;omega
 have n2:(kd == 2)=false:=by simp;omega
 have n3:(kd == 3)=false:=by simp;omega
 have n5:(kd == 5)=false:=by simp;omega
 have n6:(kd == 6)=false:=by simp;omega
 clear hkd hk
 rw [<-hvr,<-hot,<-hal,<-htl,<-hel]
 have HVR:=Aa hvr
 have HOT:=Aa hot
 have HAL:=Aa hal
 have hb:Ov W ((W.alloc (ze #[U zd kd,U zd vr,U zd ot,U zd ek,U zd en,O xa xl xc,O aa al ac,O ta tl tc,O ea el ec] 130)).alloc (ze #[O p1 q1 r1,O p2 q2 r2] 50)):=(bA W _).alloc (by simp) _
 have hI1:=I.over _ _ _ hI hb
 have hB1:=hB.over I.xok hb
 have hl1:=hl.over I.xok hb
 have hF1:=FrW.of_below I.xok hb
 have rowS:Ae [U zd kd,U zd vr,U zd ot,U zd ek,U zd en,O xa xl xc,O aa al ac,O ta tl tc,O ea el ec] ((W.alloc (ze #[U zd kd,U zd vr,U zd ot,U zd ek,U zd en,O xa xl xc,O aa al ac,O ta tl tc,O ea el ec] 130)).alloc (ze #[O p1 q1 r1,O p2 q2 r2] 50)) W.heap.size:=(Ae.new [U zd kd,U zd vr,U zd ot,U zd ek,U zd en,O xa xl xc,O aa al ac,O ta tl tc,O ea el ec] 130 W).over (bA _ _)
 have rowP:Ae [O p1 q1 r1,O p2 q2 r2] ((W.alloc (ze #[U zd kd,U zd vr,U zd ot,U zd ek,U zd en,O xa xl xc,O aa al ac,O ta tl tc,O ea el ec] 130)).alloc (ze #[O p1 q1 r1,O p2 q2 r2] 50)) (W.heap.size+1):=by
  have r:=Ae.new [O p1 q1 r1,O p2 q2 r2] 50 (W.alloc (ze #[U zd kd,U zd vr,U zd ot,U zd ek,U zd en,O xa xl xc,O aa al ac,O ta tl tc,O ea el ec] 130))
  simpa using r
 have xS:¬ X ((W.alloc (ze #[U zd kd,U zd vr,U zd ot,U zd ek,U zd en,O xa xl xc,O aa al ac,O ta tl tc,O ea el ec] 130)).alloc (ze #[O p1 q1 r1,O p2 q2 r2] 50)) W.heap.size:=fun h=>by have:=I.xlt _ _ hI _ (I.xok.below _ _ hb _ h);omega
 have xP:¬ X ((W.alloc (ze #[U zd kd,U zd vr,U zd ot,U zd ek,U zd en,O xa xl xc,O aa al ac,O ta tl tc,O ea el ec] 130)).alloc (ze #[O p1 q1 r1,O p2 q2 r2] 50)) (W.heap.size+1):=fun h=>by have:=I.xlt _ _ hI _ (I.xok.below _ _ hb _ h);omega
 have hBe:=I.below _ _ hI1
 have hlv:=I.levs _ _ hI1
 have KW:=Aa (DU c I.n1 I.n6 gs (lev st) X I.xok _ p K [U zd ek,U zd en,O xa xl xc] (AV d) _ (Af I.gr hBe) I.chk hlv.1 hl1 (by rw [hlv.2];exact I.nv16) (I.xlt _ _ hI1) (hX.over hBe) (by rw [hlv.2];exact BD hok))
 have KV:=Aa (fun (st:σ) (W:World) (v:Value) (l:Lev) (i:Int)=>EX (s:=s) I flow hC hfl vs hvs hnv st W v l i)
 obtain ⟨t0,t1,t2,t3,t4,t5,t6,t7,t8,t9⟩:=Cd hB1.row
 obtain ⟨g0,g1,g2,g3,g4,g5,g6,g7,g8⟩:=rc9 rowS
 obtain ⟨u0,u1⟩:=rc2 rowP
 have HI:=Aa I
 have HI1:=Aa hI1
 have HB1:=Aa hB1
 have HL1:=Aa hl1
 have HF1:=Aa hF1
 have HRS:=Aa rowS
 have HRP:=Aa rowP
 have HXS:=Aa xS
 have HXP:=Aa xP
 have HOK:=Aa hok
 have HFL:=Aa hfl.o
 have HFS:=Aa hfs
 have HOF:=Aa hof
 have HLS:=Aa hls
 have HA:=Aa hA
 have HLC:=Aa hlc
 clear hI1 hB1 hl1 hF1 rowS rowP xS xP hBe hlv hvr hot hal htl hel hb hrs hX hA hT hE hI hB hl hfl hvs hok hfs hof hls hlc I
 go_enter Tryz.func116,Tryz.ntmps116
 go_wp2_with fail
 refine (KW.o).mono ?_
 rintro e W3 ⟨⟨o1,o2,o3,o4,o5,o6,rfl,hL3⟩,hb3⟩
 have hb34:=bA W3 (ze #[O o1 o2 o3,O o4 o5 o6] 50)
 have hb14:=Ac hb3 hb34
 have hI4:=HI.o.over _ _ _ HI1.o hb14
 have hI3:=HI.o.over _ _ _ HI1.o hb3
 have hB4:=HB1.o.over HI.o.xok hb14
 have hL4:=hL3.over HI.o.xok hb34
 have hP4:=HL1.o.over HI.o.xok hb14
 have rowA:=Ae.new [O o1 o2 o3,O o4 o5 o6] 50 W3
 have rowS:=HRS.o.over hb14
 have rowP:=HRP.o.over hb14
 have xS:¬ X (W3.alloc (ze #[O o1 o2 o3,O o4 o5 o6] 50)) W.heap.size:=fun h=>HXS.o (HI.o.xok.below _ _ hb14 _ h)
 have xP:¬ X (W3.alloc (ze #[O o1 o2 o3,O o4 o5 o6] 50)) (W.heap.size+1):=fun h=>HXP.o (HI.o.xok.below _ _ hb14 _ h)
 have xA:¬ X (W3.alloc (ze #[O o1 o2 o3,O o4 o5 o6] 50)) W3.heap.size:=fun h=>by have:=HI.o.xlt _ _ hI3 _ (HI.o.xok.below _ _ hb34 _ h);omega
 have hF4:=HF1.o.trans (FrW.of_below HI.o.xok hb14)
 have HI4:=Aa hI4
 have HB4:=Aa hB4
 have HL4:=Aa hL4
 have HP4:=Aa hP4
 have HF4:=Aa hF4
 have HRS4:=Aa rowS
 have HRP4:=Aa rowP
 have HRA4:=Aa rowA
 have HXS4:=Aa xS
 have HXP4:=Aa xP
 have HXA4:=Aa xA
 clear t0 t1 t2 t3 t4 t5 t6 t7 t8 t9 g0 g1 g2 g3 g4 g5 g6 g7 g8 u0 u1 hb3 hb34 hb14 hL3 hI4 hI3 hB4 hL4 hP4 hF4 rowA rowS rowP xS xP xA KW HI1 HB1 HL1 HF1 HRS HRP HXS HXP
 obtain ⟨t0,t1,t2,t3,t4,t5,t6,t7,t8,t9⟩:=Cd HB4.o.row
 obtain ⟨g0,g1,g2,g3,g4,g5,g6,g7,g8⟩:=rc9 HRS4.o
 obtain ⟨u0,u1⟩:=rc2 HRP4.o
 obtain ⟨y0,y1⟩:=rc2 HRA4.o
 have tv:=HB4.o.toVar
 have fl:=HB4.o.flow
 go_wp2_with fail
 go_end0
 exact ⟨rfl,⟨HI4.o,HB4.o⟩,HF4.o⟩
end
end Go.Proofs.YtfffpjkcfnekaaaGreat.Ex
