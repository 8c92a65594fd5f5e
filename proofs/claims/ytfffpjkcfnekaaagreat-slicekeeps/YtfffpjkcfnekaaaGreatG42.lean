/- What a channel needs, of any program that passes. -/
import Derived.Test.YtfffpjkcfnekaaaGreatG41
set_option linter.unusedVariables false
set_option maxHeartbeats 8000000
set_option maxRecDepth 100000
namespace Go.Proofs.YtfffpjkcfnekaaaGreat.Ex
open Go.RowKit
open Go.Value renaming slice -> O, int -> zd, bool -> ze, agg -> zg, pointer -> zi, tuple -> zj
open Go.IntKind renaming i64 -> U
open Go.Obj renaming cells -> zf
open Go.Ending renaming returned -> zh
theorem EB (kf:Nat) (fs:List FnD) (j:Nat):(List.range (j+1)).map (fun i=>Value.int U ((Am kf (fs.take i):Nat):Int))=(List.range j).map (fun i=>Value.int U ((Am kf (fs.take i):Nat):Int))++[zd U ((Am kf (fs.take j):Nat):Int)]:=by
 rw [List.range_succ,List.map_append]
 rfl
theorem E9 (kf:Nat):∀ (fs:List FnD) (a j:Nat) (h:j < fs.length),CV kf (fs.take (j+1)) a=CV kf (fs.take j) a++Bp kf fs[j].body (a+Am kf (fs.take j))
 | f::r,a,0,h=>by
  show Bp kf f.body a++[]=[]++Bp kf f.body (a+0)
  simp
 | f::r,a,j+1,h=>by
  show Bp kf f.body a++CV kf (r.take (j+1)) (a+Ai kf f.body)=(Bp kf f.body a++CV kf (r.take j) (a+Ai kf f.body))++Bp kf (r[j]'(Nat.lt_of_succ_lt_succ h)).body (a+Am kf (f::r.take j))
  rw [E9 kf r _ j (Nat.lt_of_succ_lt_succ h),List.append_assoc,show Am kf (f::r.take j)=Ai kf f.body+Am kf (r.take j) by unfold Am;simp,Nat.add_assoc]
theorem LF.start (w0:World) (cs:List Value) (rest:List Value) (hl:cs.length=9) (t:Nat):LF w0 cs w0.heap.size (O none 0 0) 0 [] (O none 0 0) 0 [] rest (w0.alloc (.cells (cs++O none 0 0::O none 0 0::rest).toArray t)):=
 ⟨⟨bA _ _,Az w0 _ t,fun j=>by simp [go_sem],World.ownsRow_nil _ _ _ _,by simp [Value.ownBlock],⟨Nat.le_refl _,by simp⟩,hl⟩,World.ownsRow_nil _ _ _ _,by simp [Value.ownBlock],fun g h=>by simp [Value.ownBlock] at h⟩
def Kv (w0:World) (pc:List Value) (ch:Int) (cv fv:Value) (b g1 g2 g3 K kf:Nat) (fs:List FnD) (l:List D) (vn yn n:Nat) (V8:World) (wr:World) (N:Nat):Prop:=
 ∃ st,NI w0 pc ch cv fv b g1 g2 g3 st wr/\Ln vn yn n st/\FrW (XN b g1 g2 g3) V8 wr/\BO ch K kf fs (B8 kf fs l) N st=AY ch K kf fs l vn yn/\(st.mo=true->st.left < N)
theorem Fh {ch:Int} {K kf:Nat} {fs:List FnD} {C:List (Nat × D × Nat)} {st:NS} (h:st.mo=false):∀ N,BO ch K kf fs C N st=st
 | 0=>rfl
 | N+1=>by unfold BO;rw [h];rfl
theorem E5 (K kf:Nat) (m:Int) (ga gn gc sa sn sc ya yn yc oa on oc va vn vc fa fn fc ba bn bc gs sp ls ms vs fs l) (ch:Int) (w:World) (h:A1 K kf m ga gn gc sa sn sc ya yn yc oa on oc va vn vc fa fn fc ba bn bc gs sp ls ms vs fs l w) (hX:Ey.xP K kf m vn yn on sn gs sp ls ms vs fs l) :
  Calls Tryz.prog 83 #[zg #[zd U m,O ga gn gc,O sa sn sc,O ya yn yc,O oa on oc,O va vn vc,O fa fn fc,O ba bn bc],zd U ch] w fun e w'=>∃ b bv bi bs cv fv w0,e=zh (zi (some ⟨b,0,none⟩))/\NI w0 [zd U m,O ga gn gc,O sa sn sc,O ya yn yc,O oa on oc,O va vn vc,O fa fn fc,O ba bn bc] ch cv fv b bv bi bs (AY ch K kf fs l vn yn) w'/\w.heap.size<=w0.heap.size/\Ov w w':=by
 have hb0:Ov w (w.alloc (zf #[zd U m,O ga gn gc,O sa sn sc,O ya yn yc,O oa on oc,O va vn vc,O fa fn fc,O ba bn bc] 31)):=bA _ _
 have hP0:=h.over hb0
 have hLF0:=LF.start (w.alloc (zf #[zd U m,O ga gn gc,O sa sn sc,O ya yn yc,O oa on oc,O va vn vc,O fa fn fc,O ba bn bc] 31)) [zd U m,O ga gn gc,O sa sn sc,O ya yn yc,O oa on oc,O va vn vc,O fa fn fc,O ba bn bc,zd U ch] [O none 0 0,O none 0 0,O none 0 0,ze false] rfl 156
 have hrow:Af [zd U m,O ga gn gc,O sa sn sc,O ya yn yc,O oa on oc,O va vn vc,O fa fn fc,O ba bn bc] (w.alloc (zf #[zd U m,O ga gn gc,O sa sn sc,O ya yn yc,O oa on oc,O va vn vc,O fa fn fc,O ba bn bc] 31)) w.heap.size:=Az w _ 31
 obtain ⟨V0,hV0⟩:=nm (w.alloc (zf #[zd U m,O ga gn gc,O sa sn sc,O ya yn yc,O oa on oc,O va vn vc,O fa fn fc,O ba bn bc] 31))
 rw [<-hV0] at hb0 hP0 hLF0 hrow
 have hfe:=hP0.funcs
 have hfl:fn=fs.length:=by obtain ⟨-,a,c,he,-⟩:=hfe;injection he
 have hvl:vn=vs.length:=by obtain ⟨-,a,c,he,-⟩:=hP0.vars;injection he
 have hyl:yn=ls.length:=by obtain ⟨-,a,c,he,-⟩:=hP0.ins;injection he
 have hlim:=hX.lim
 have hmany:=hX.many.1
 have hf5:fn<=5:=by omega
 have hv16:vn<=1000:=by omega
 have hy5:yn<=1000:=by omega
 have HROW:=Aa hrow
 have HB0:=Aa hb0
 have HP0:=Aa hP0
 have HX:=Aa hX
 have HLF0:=Aa hLF0
 have HFE:=Aa hfe
 have HFL:=Aa hfl
 have HMANY:=Aa hmany
 obtain ⟨B1,hB1⟩:=nm (V0.alloc (zf #[zd U m,O ga gn gc,O sa sn sc,O ya yn yc,O oa on oc,O va vn vc,O fa fn fc,O ba bn bc,zd U ch,O none 0 0,O none 0 0,O none 0 0,O none 0 0,O none 0 0,ze false] 156))
 have HLFB:Hx (LF V0 [zd U m,O ga gn gc,O sa sn sc,O ya yn yc,O oa on oc,O va vn vc,O fa fn fc,O ba bn bc,zd U ch] V0.heap.size (O none 0 0) 0 [] (O none 0 0) 0 [] [O none 0 0,O none 0 0,O none 0 0,ze false] B1):=by rw [hB1];exact hLF0
 obtain ⟨c0,c1,c2,c3,c4,c5,c6,c7⟩:=rc8 hrow
 have p6:=Ab (bA V0 (zf #[zd U m,O ga gn gc,O sa sn sc,O ya yn yc,O oa on oc,O va vn vc,O fa fn fc,O ba bn bc,zd U ch,O none 0 0,O none 0 0,O none 0 0,O none 0 0,O none 0 0,ze false] 156)) _ _ c6
 clear h hX hb0 hP0 hLF0 hrow hfe hfl hvl hyl hlim hmany HLF0
 have hV0s:V0.heap.size=w.heap.size+1:=by rw [hV0];simp
 go_enter Tryz.func83,Tryz.ntmps83
 go_wp2_with fail
 rw [<-hV0]
 clear hV0 c0 c1 c2 c3 c4 c5 c6 c7
 obtain ⟨b,hbE⟩:=nm (w.heap.size+1)
 rw [hV0s,<-hbE] at HLFB
 rw [<-hbE,<-hB1]
 clear hB1 p6
 have HBW:Hx (b=w.heap.size+1/\V0.heap.size=w.heap.size+1):=⟨hbE,hV0s⟩
 clear hbE hV0s
 go_loopw [15] (fun i wr=>∃ j:Nat,j<=fn/\i=zd U j/\∃ cv fv xs,LF V0 [zd U m,O ga gn gc,O sa sn sc,O ya yn yc,O oa on oc,O va vn vc,O fa fn fc,O ba bn bc,zd U ch] b cv (Am kf (fs.take j)) xs fv j ((List.range j).map (fun i=>Value.int U ((Am kf (fs.take i):Nat):Int))) [O none 0 0,O none 0 0,O none 0 0,ze false] wr/\Bx V0 K kf xs (CV kf (fs.take j) 0)) (fun i _=>fn - (intOf i).toNat)
 case atStart=>exact ⟨0,Nat.zero_le _,rfl,_,_,[],HLFB.o,Bx.nil⟩
 case round=>
  obtain ⟨j,hj,rfl,cv,fv,xs,hLF,hE⟩:=hrel
  by_cases hlt:j < fn
  ·have hjf:j < fs.length:=by rw [<-HFL.o];exact hlt
   obtain ⟨-,fa2,fc2,hfe,hfel⟩:=id HFE.o
   injection hfe with f1 f2 f3
   obtain ⟨fb,fo,hfo,hfel⟩:=hfel (by rintro rfl;simp at hjf)
   obtain ⟨vP,vB,z0,z1,z2,p0,p1,p2,p3,p4,hPs,hPok,hBs,hRs⟩:=hfel j hjf
   obtain ⟨-,pa,pcp,rfl,-⟩:=id hPok
   obtain ⟨-,za,zc,rfl,-⟩:=id hBs
   obtain ⟨ra,rc,hre⟩:=hRs.form
   injection hre with e0 hre
   injection hre with e1 hre
   injection hre with e2 hre
   subst e0 e1 e2
   obtain ⟨p0,p1,p2,p3,p4⟩:=co5 hLF.li.below p0 p1 p2 p3 p4
   replace p0:wr.cell? ⟨fb,fo+j*5,none⟩=_:=p0
   have HCT:Hx (Am kf (fs.take (j+1))=Am kf (fs.take j)+Ai kf fs[j].body):=B7 hjf
   have HLT:Hx (CV kf (fs.take (j+1)) 0=CV kf (fs.take j) 0++Bp kf fs[j].body (0+Am kf (fs.take j))):=E9 kf fs 0 j hjf
   have hcm:Am kf (fs.take j)+Ai kf fs[j].body<=1000:=by
    have h1:=FB (k:=kf) hjf
    have h2:=HCT.o
    have h3:=HMANY.o
    omega
   obtain ⟨oa',on',oc',rfl⟩:=A9 hLF.li.own
   have hon:on'=Am kf (fs.take j):=by
    rcases hLF.li.own.2 with ⟨he,h0⟩ | ⟨g,cap',cur,he,-⟩
    ·injection he with e1 e2 e3;omega
    ·injection he with e1 e2 e3
   obtain ⟨qa,qn,qc,rfl⟩:=A9 hLF.own
   have hqn:qn=j:=by
    rcases hLF.own.2 with ⟨he,h0⟩ | ⟨g,cap',cur,he,-⟩
    ·injection he with e1 e2 e3;omega
    ·injection he with e1 e2 e3
   subst hqn
   obtain ⟨pl,hpl⟩:=nm fs[qn].ps.length
   obtain ⟨zn,hzn⟩:=nm fs[qn].body.length
   obtain ⟨rk,hrk⟩:=nm (Au fs[qn].res)
   obtain ⟨rn,hrn⟩:=nm (AG fs[qn].res)
   obtain ⟨rl,hrl⟩:=nm (Ax fs[qn].res).length
   rw [<-hpl] at p0
   rw [<-hzn] at p1 hBs
   rw [<-hrk] at p2
   rw [<-hrn] at p3
   rw [<-hrl] at p4
   have KL:=Aa fun (Wz:World) (xs2 rest2:List Value) (cv2:Value) (hz:LI V0 [zd U m,O ga gn gc,O sa sn sc,O ya yn yc,O oa on oc,O va vn vc,O fa fn fc,O ba bn bc,zd U ch] b cv2 (Am kf (fs.take qn)) xs2 rest2 Wz)=>Jd K kf (O za zn zc) fs[qn].body V0 _ b cv2 (Am kf (fs.take qn)) xs2 rest2 Wz hBs hz hcm
   have hb1:Ov wr (wr.alloc (zf #[O pa pl pcp,O za zn zc,zd U rk,zd U rn,O ra rl rc] 105)):=bA _ _
   obtain ⟨V,hV⟩:=nm (wr.alloc (zf #[O pa pl pcp,O za zn zc,zd U rk,zd U rn,O ra rl rc] 105))
   have hrf:Af [O pa pl pcp,O za zn zc,zd U rk,zd U rn,O ra rl rc] V wr.heap.size:=by rw [hV];exact Az wr [O pa pl pcp,O za zn zc,zd U rk,zd U rn,O ra rl rc] 105
   rw [<-hV] at hb1
   have hLFV:=hLF.over hb1
   obtain ⟨v2,w2,hrun,hLF2,x10,f10,hkeep⟩:=Hj (hLFV.over (bD V)) (by omega) (on':Int)
   obtain ⟨a2,n2,e2,rfl⟩:=A9 hLF2.own
   have x9:=hLFV.li.c9
   have hWlt:wr.heap.size < V.heap.size:=by rw [hV];simp
   have hne1:wr.heap.size≠b:=by have:=hLF.li.lo.2;omega
   have hne2:(Value.slice qa qn qc).ownBlock≠some wr.heap.size:=fun e=>by have:=(Cv hLF.own _ e).2;omega
   have hrf2:=AQ (k:=0) (hrf.over (bD V)) (hkeep _ hWlt hne1 hne2).1
   have hS0:CE V.drew b 9 (O oa' on' oc'):=(hLFV.over (bD V)).li.c9
   have hS1:CE (V.drew.alloc (zf #[zd U (on':Int)] 3)) b 9 (O oa' on' oc'):=((hLFV.over (bD V)).over (bA _ _)).li.c9
   have hS3:CE (w2.setCell ⟨b,10,none⟩ (O a2 n2 e2)) b 9 (O oa' on' oc'):=hLF2.li.c9
   have hS2:CE w2 b 9 (O oa' on' oc'):=by
    have h3:(w2.setCell ⟨b,10,none⟩ (O a2 n2 e2)).cell? ⟨b,9,none⟩=some (O oa' on' oc'):=hS3
    rw [World.cell?_setCell_other _ _ _ _ (by intro e;injection e with e1 e2;omega)] at h3
    exact h3
   have z1:=hLFV.c10
   have z2:=((hLFV.over (bD V)).over (bA _ (zf #[zd U (on':Int)] 3))).c10
   have z3:=(hLFV.over (bA V (zf #[zd U (on':Int)] 3))).c10
   have HE:=Aa hE
   rw [hon] at hLF2
   have HHLF2:=Aa hLF2
   have HHRF2:=Aa hrf2
   have hlt1:(qn:Int) < (fn:Int):=by omega
   subst f1 hfo
   clear hLF hE hfel hPok hBs hRs hPs hpl hzn hrk hrn hrl hre hb1 hLFV hkeep hWlt hne1 hne2 hLF2 hrf2 hrf hon f2 f3 hcm
   go_wp2_with fail
   rw [<-hV]
   clear hV p0 p1 p2 p3 p4
   refine gS (fun Wz=>CE Wz b 9 (O oa' on' oc')) hS0 fun hHeld=>?_
   refine kT 0 ?_
   refine kT 1 ?_
   refine kT 2 ?_
   refine kT 3 ?_
   refine kT 5 ?_
   refine kT 6 ?_
   refine kT 7 ?_
   refine kT 8 ?_
   refine kT 9 ?_
   refine rdB 4 10 rfl (fun K hK=>?_) rfl fun K hK=>?_
   ·go_simp
    refine xK hK hS0 fun hHeld=>?_
    clear hK K
    refine rdA 10 rfl fun K hK=>?_
    go_simp
    refine xK hK hS1 fun hHeld=>?_
    clear hK K
    refine rdA 11 rfl fun K hK=>?_
    refine Cf rfl _ _ _ rfl _ _ _ _ rfl rfl hrun ?_
    refine xK hK hS2 fun hHeld=>?_
    clear hK K
    refine rdA 12 rfl fun K hK=>?_
    go_simp
    refine xK hK hS2 fun hHeld=>?_
    clear hK K
    refine rdA 13 rfl fun K hK=>?_
    go_simp
    refine xK hK hS2 fun hHeld=>?_
    clear hK K
    refine rdA 14 rfl fun K hK=>?_
    go_simp
    refine xK hK hS3 fun hHeld=>?_
    clear hK K
    refine gE ?_
    have KL2:=Aa (KL.o _ _ _ _ HHLF2.o.li)
    have f1:=HHRF2.o 1 _ rfl
    have HLF2:=Aa HHLF2.o
    go_wp2_with fail
    refine KL2.o.mono ?_
    rintro e W3 ⟨rfl,cv3,zs,hL3,hE3,hF3⟩
    have HFIN:Hx (LF V0 [zd U m,O ga gn gc,O sa sn sc,O ya yn yc,O oa on oc,O va vn vc,O (some ⟨fb,fo,none⟩) fn fc,O ba bn bc,zd U ch] b cv3 (Am kf (fs.take (qn+1))) (xs++zs) (O a2 n2 e2) (qn+1) ((List.range (qn+1)).map (fun i=>Value.int U ((Am kf (fs.take i):Nat):Int))) [O none 0 0,O none 0 0,O none 0 0,ze false] W3/\Bx V0 K kf (xs++zs) (CV kf (fs.take (qn+1)) 0)):=by
     refine ⟨?_,?_⟩
     ·have h1:=HLF2.o.listed hL3 hF3
      rw [HCT.o,EB]
      exact h1
     ·rw [HLT.o]
      exact HE.o.app (by rw [Nat.zero_add];exact hE3)
    clear hL3 hE3 hF3 KL2 f1
    go_wp2_with fail
    exact ⟨⟨qn+1,by omega,by go_num,_,_,_,HFIN.o.1,HFIN.o.2⟩,by simp [intOf];omega⟩
   ·go_simp
    refine xK hK hS1 fun hHeld=>?_
    clear hK K
    refine rdA 4 rfl fun K hK=>?_
    go_simp
    refine xK hK hS1 fun hHeld=>?_
    clear hK K
    refine rdA 11 rfl fun K hK=>?_
    refine Cf rfl _ _ _ rfl _ _ _ _ rfl rfl hrun ?_
    refine xK hK hS2 fun hHeld=>?_
    clear hK K
    refine rdA 12 rfl fun K hK=>?_
    go_simp
    refine xK hK hS2 fun hHeld=>?_
    clear hK K
    refine rdA 13 rfl fun K hK=>?_
    go_simp
    refine xK hK hS2 fun hHeld=>?_
    clear hK K
    refine rdA 14 rfl fun K hK=>?_
    go_simp
    refine xK hK hS3 fun hHeld=>?_
    clear hK K
    refine gE ?_
    have KL2:=Aa (KL.o _ _ _ _ HHLF2.o.li)
    have f1:=HHRF2.o 1 _ rfl
    have HLF2:=Aa HHLF2.o
    go_wp2_with fail
    refine KL2.o.mono ?_
    rintro e W3 ⟨rfl,cv3,zs,hL3,hE3,hF3⟩
    have HFIN:Hx (LF V0 [zd U m,O ga gn gc,O sa sn sc,O ya yn yc,O oa on oc,O va vn vc,O (some ⟨fb,fo,none⟩) fn fc,O ba bn bc,zd U ch] b cv3 (Am kf (fs.take (qn+1))) (xs++zs) (O a2 n2 e2) (qn+1) ((List.range (qn+1)).map (fun i=>Value.int U ((Am kf (fs.take i):Nat):Int))) [O none 0 0,O none 0 0,O none 0 0,ze false] W3/\Bx V0 K kf (xs++zs) (CV kf (fs.take (qn+1)) 0)):=by
     refine ⟨?_,?_⟩
     ·have h1:=HLF2.o.listed hL3 hF3
      rw [HCT.o,EB]
      exact h1
     ·rw [HLT.o]
      exact HE.o.app (by rw [Nat.zero_add];exact hE3)
    clear hL3 hE3 hF3 KL2 f1
    go_wp2_with fail
    exact ⟨⟨qn+1,by omega,by go_num,_,_,_,HFIN.o.1,HFIN.o.2⟩,by simp [intOf];omega⟩
  ·have hje:j=fn:=by omega
   have htk:fs.take j=fs:=List.take_of_length_le (by rw [<-HFL.o];omega)
   obtain ⟨oa',on',oc',rfl⟩:=A9 hLF.li.own
   have hon:on'=Am kf (fs.take j):=by
    rcases hLF.li.own.2 with ⟨he,h0⟩ | ⟨g,cap',cur,he,-⟩
    ·injection he with e1 e2 e3;omega
    ·injection he with e1 e2 e3
   obtain ⟨qa,qn,qc,rfl⟩:=A9 hLF.own
   have hqn:qn=j:=by
    rcases hLF.own.2 with ⟨he,h0⟩ | ⟨g,cap',cur,he,-⟩
    ·injection he with e1 e2 e3;omega
    ·injection he with e1 e2 e3
   subst hqn
   have HLF:=Aa hLF
   have HE:=Aa hE
   have HON:=Aa hon
   have HTK:=Aa htk
   have hj5:qn<=5:=by omega
   have hngt:¬ (qn:Int) < (fn:Int):=by omega
   have HJE:=Aa hje
   clear hLF hE hon htk HFE hje hlt hj
   go_wp2_with fail
   refine CM (fun act2 Wn=>∃ (y7 y16 y17 y18 y19 y20 y21 y22 y23 y24 y25 y26 y27 y28 y29 y30 y31 y32 y33 y34 y35 y36 y37 y38 y39 y40 y41 y42 y43 y44 y45 y46 y47 y48 y49 y50 y51:Value) (v2:Value),act2={ tmps:=#[zg #[zd U m,O ga gn gc,O sa sn sc,O ya yn yc,O oa on oc,O va vn vc,O fa fn fc,O ba bn bc],zd U ch,zi (some ⟨w.heap.size,0,none⟩),undef,zi none,zi (some ⟨b,0,none⟩),undef,y7,zg #[zd U m,O ga gn gc,O sa sn sc,O ya yn yc,O oa on oc,O va vn vc,O fa fn fc,O ba bn bc],zd U ch,zg #[zd U m,O ga gn gc,O sa sn sc,O ya yn yc,O oa on oc,O va vn vc,O fa fn fc,O ba bn bc,zd U ch,O none 0 0,O none 0 0,O none 0 0,O none 0 0,O none 0 0,ze false],zi (some ⟨b,0,none⟩),zi (some ⟨w.heap.size,6,none⟩),O fa fn fc,zd U (fn:Int),zd U (qn:Int),y16,y17,y18,y19,y20,y21,y22,y23,y24,y25,y26,y27,y28,y29,y30,y31,y32,y33,y34,y35,y36,y37,y38,y39,y40,y41,y42,y43,y44,y45,y46,y47,y48,y49,y50,y51,undef,undef,undef,undef,undef,undef,undef,undef,undef,undef,undef,undef,undef,undef,undef,undef,undef,undef,undef,undef,undef,undef,undef,undef,undef,undef,undef,undef,undef,undef,undef,undef,undef,undef,undef,undef,undef,undef,undef,undef],defers:=[] }/\LF V0 [zd U m,O ga gn gc,O sa sn sc,O ya yn yc,O oa on oc,O va vn vc,O fa fn fc,O ba bn bc,zd U ch] b (O oa' on' oc') (Am kf fs) xs v2 (qn+1) ((List.range (qn+1)).map (fun i=>Value.int U ((Am kf (fs.take i):Nat):Int))) [O none 0 0,O none 0 0,O none 0 0,ze false] Wn) ?_ ?_
   ·obtain ⟨v2,w2,hrun,hLF2,x10,f10,hkeep⟩:=Hj (HLF.o.over (bD wr)) (by omega) (on':Int)
    obtain ⟨a2,n2,e2,rfl⟩:=A9 hLF2.own
    have hS0:CE wr.drew b 9 (O oa' on' oc'):=(HLF.o.over (bD wr)).li.c9
    have hS1:CE (wr.drew.alloc (zf #[zd U (on':Int)] 3)) b 9 (O oa' on' oc'):=((HLF.o.over (bD wr)).over (bA _ _)).li.c9
    have hS3:CE (w2.setCell ⟨b,10,none⟩ (O a2 n2 e2)) b 9 (O oa' on' oc'):=hLF2.li.c9
    have hS2:CE w2 b 9 (O oa' on' oc'):=by
     have h3:(w2.setCell ⟨b,10,none⟩ (O a2 n2 e2)).cell? ⟨b,9,none⟩=some (O oa' on' oc'):=hS3
     rw [World.cell?_setCell_other _ _ _ _ (by intro e;injection e with e1 e2;omega)] at h3
     exact h3
    have z1:=HLF.o.c10
    have z2:=((HLF.o.over (bD wr)).over (bA _ (zf #[zd U (on':Int)] 3))).c10
    have z3:=(HLF.o.over (bA wr (zf #[zd U (on':Int)] 3))).c10
    have HFIN:Hx (LF V0 [zd U m,O ga gn gc,O sa sn sc,O ya yn yc,O oa on oc,O va vn vc,O fa fn fc,O ba bn bc,zd U ch] b (O oa' on' oc') (Am kf fs) xs (O a2 n2 e2) (qn+1) ((List.range (qn+1)).map (fun i=>Value.int U ((Am kf (fs.take i):Nat):Int))) [O none 0 0,O none 0 0,O none 0 0,ze false] (w2.setCell ⟨b,10,none⟩ (O a2 n2 e2))):=by
     have h1:=hLF2
     rw [HON.o] at h1
     rw [HTK.o] at h1
     rw [EB,HTK.o]
     rw [HON.o,HTK.o]
     exact h1
    clear hLF2 hkeep HLF HE
    refine gS (fun Wz=>CE Wz b 9 (O oa' on' oc')) hS0 fun hHeld=>?_
    refine kT 0 ?_
    refine kT 1 ?_
    refine kT 2 ?_
    refine kT 3 ?_
    refine kT 5 ?_
    refine kT 6 ?_
    refine kT 7 ?_
    refine kT 8 ?_
    refine kT 9 ?_
    refine rdB 4 10 rfl (fun K hK=>?_) rfl fun K hK=>?_
    ·go_simp
     refine xK hK hS0 fun hHeld=>?_
     clear hK K
     refine rdA 10 rfl fun K hK=>?_
     go_simp
     refine xK hK hS1 fun hHeld=>?_
     clear hK K
     refine rdA 11 rfl fun K hK=>?_
     refine Cf rfl _ _ _ rfl _ _ _ _ rfl rfl hrun ?_
     refine xK hK hS2 fun hHeld=>?_
     clear hK K
     refine rdA 12 rfl fun K hK=>?_
     go_simp
     refine xK hK hS2 fun hHeld=>?_
     clear hK K
     refine rdA 13 rfl fun K hK=>?_
     go_simp
     refine xK hK hS2 fun hHeld=>?_
     clear hK K
     refine rdA 14 rfl fun K hK=>?_
     go_simp
     refine xK hK hS3 fun hHeld=>?_
     clear hK K
     refine gE ?_
     exact Bj ⟨_,_,_,_,_,_,_,_,_,_,_,_,_,_,_,_,_,_,_,_,_,_,_,_,_,_,_,_,_,_,_,_,_,_,_,_,_,_,rfl,HFIN.o⟩
    ·go_simp
     refine xK hK hS1 fun hHeld=>?_
     clear hK K
     refine rdA 4 rfl fun K hK=>?_
     go_simp
     refine xK hK hS1 fun hHeld=>?_
     clear hK K
     refine rdA 11 rfl fun K hK=>?_
     refine Cf rfl _ _ _ rfl _ _ _ _ rfl rfl hrun ?_
     refine xK hK hS2 fun hHeld=>?_
     clear hK K
     refine rdA 12 rfl fun K hK=>?_
     go_simp
     refine xK hK hS2 fun hHeld=>?_
     clear hK K
     refine rdA 13 rfl fun K hK=>?_
     go_simp
     refine xK hK hS2 fun hHeld=>?_
     clear hK K
     refine rdA 14 rfl fun K hK=>?_
     go_simp
     refine xK hK hS3 fun hHeld=>?_
     clear hK K
     refine gE ?_
     exact Bj ⟨_,_,_,_,_,_,_,_,_,_,_,_,_,_,_,_,_,_,_,_,_,_,_,_,_,_,_,_,_,_,_,_,_,_,_,_,_,_,rfl,HFIN.o⟩
   ·rintro act2 Wn ⟨y7,y16,y17,y18,y19,y20,y21,y22,y23,y24,y25,y26,y27,y28,y29,y30,y31,y32,y33,y34,y35,y36,y37,y38,y39,y40,y41,y42,y43,y44,y45,y46,y47,y48,y49,y50,y51,v2,rfl,hLF⟩
    have KM:=Aa (Jd K kf (O ba bn bc) l V0 _ b _ (Am kf fs) xs _ Wn HP0.o.main hLF.li (by have:=HMANY.o;omega))
    have q7:=(HROW.o.over hLF.li.below) 7 _ rfl
    have HLF2:=Aa hLF
    clear hLF
    go_wp2_with fail
    refine KM.o.mono ?_
    rintro e W4 ⟨rfl,cv4,zs,hL4,hE4,hF4⟩
    have hLF4:=HLF2.o.listed hL4 hF4
    obtain ⟨ca,cn,cc,rfl⟩:=A9 hL4.own
    have hcn:cn=Am kf fs+Ai kf l:=by
     rcases hL4.own.2 with ⟨he,h0⟩ | ⟨g,cap',cur,he,-⟩
     ·injection he with e1 e2 e3;omega
     ·injection he with e1 e2 e3
    rw [<-hcn,show qn=fs.length from HJE.o.trans HFL.o] at hLF4
    have HENT:Hx (Bx V0 K kf (xs++zs) (B8 kf fs l)):=by
     have h1:=HE.o
     rw [HTK.o] at h1
     exact h1.app hE4
    have hr4:=HROW.o.over hL4.below
    have r3:=hr4 3 _ rfl
    have r5:=hr4 5 _ rfl
    have hb4:=hL4.lo.2
    obtain ⟨X5,hX5⟩:=nm (W4.alloc (.cells (Cs vn) 4))
    obtain ⟨g1,hg1⟩:=nm W4.heap.size
    obtain ⟨Y5,hY5⟩:=nm (X5.setCell ⟨b,11,none⟩ (O (some ⟨g1,0,none⟩) vn vn))
    have h5:=IJ V0 W4 X5 Y5 b vn 11 g1 _ hL4.row (by simp) hb4 hL4.lo.1 hL4.below hX5 hg1 hY5
    obtain ⟨X6,hX6⟩:=nm (Y5.alloc (.cells (Cs yn) 4))
    obtain ⟨g2,hg2⟩:=nm Y5.heap.size
    obtain ⟨Y6,hY6⟩:=nm (X6.setCell ⟨b,12,none⟩ (O (some ⟨g2,0,none⟩) yn yn))
    have h6:=IJ V0 Y5 X6 Y6 b yn 12 g2 _ h5.row (by simp) (by rw [h5.size];omega) hL4.lo.1 h5.below hX6 hg2 hY6
    obtain ⟨X7,hX7⟩:=nm (Y6.alloc (.cells (Cs cn) 4))
    obtain ⟨g3,hg3⟩:=nm Y6.heap.size
    obtain ⟨Y7,hY7⟩:=nm (X7.setCell ⟨b,13,none⟩ (O (some ⟨g3,0,none⟩) cn cn))
    have h7:=IJ V0 Y6 X7 Y7 b cn 13 g3 _ h6.row (by simp) (by rw [h6.size,h5.size];omega) hL4.lo.1 h6.below hX7 hg3 hY7
    have hpb:w.heap.size≠b:=by have:=HBW.o;omega
    have hcn2:cn<=1000:=by have:=HMANY.o;omega
    have mk1:(Instr.makeSlice 48 (zd U vn) (zd U vn)).run Tryz.prog W4=.ok (O (some ⟨g1,0,none⟩) vn vn) X5:=by rw [hX5,hg1];exact I8 vn hv16 W4
    have mk2:(Instr.makeSlice 48 (zd U yn) (zd U yn)).run Tryz.prog (X5.setCell ⟨b,11,none⟩ (O (some ⟨g1,0,none⟩) vn vn))=.ok (O (some ⟨g2,0,none⟩) yn yn) X6:=by rw [<-hY5,hX6,hg2];exact I8 yn hy5 Y5
    have mk3:(Instr.makeSlice 48 (zd U cn) (zd U cn)).run Tryz.prog (X6.setCell ⟨b,12,none⟩ (O (some ⟨g2,0,none⟩) yn yn))=.ok (O (some ⟨g3,0,none⟩) cn cn) X7:=by rw [<-hY6,hX7,hg3];exact I8 cn hcn2 Y6
    have x5c:=h5.old 11 _ rfl
    have x5z:=(h5.fzX 11).trans (hL4.fz 11)
    have y5p:(X5.setCell ⟨b,11,none⟩ (O (some ⟨g1,0,none⟩) vn vn)).cell? ⟨w.heap.size,3,none⟩=some (O ya yn yc):=by rw [<-hY5];exact h5.other _ _ hpb hr4 3 _ rfl
    have x6c:=h6.old 12 _ rfl
    have x6z:=(h6.fzX 12).trans ((h5.fz b 12 hb4).trans (hL4.fz 12))
    have y6c:(X6.setCell ⟨b,12,none⟩ (O (some ⟨g2,0,none⟩) yn yn)).cell? ⟨b,9,none⟩=some (O ca cn cc):=by rw [<-hY6];exact h6.row 9 _ rfl
    have x7c:=h7.old 13 _ rfl
    have x7z:=(h7.fzX 13).trans ((h6.fz b 13 (by rw [h5.size];omega)).trans ((h5.fz b 13 hb4).trans (hL4.fz 13)))
    have y7c:(X7.setCell ⟨b,13,none⟩ (O (some ⟨g3,0,none⟩) cn cn)).cell? ⟨b,14,none⟩=some (ze false):=by rw [<-hY7];exact h7.row 14 _ rfl
    have y7z:(X7.setCell ⟨b,13,none⟩ (O (some ⟨g3,0,none⟩) cn cn)).frozen? ⟨b,14,none⟩=false:=by rw [<-hY7];exact (h7.fz b 14 (by rw [h6.size,h5.size];omega)).trans ((h6.fz b 14 (by rw [h5.size];omega)).trans ((h5.fz b 14 hb4).trans (hL4.fz 14)))
    have r5:=hr4 5 _ rfl
    have HLF4:=Aa hLF4
    have HCN:=Aa hcn
    have HYS:=Aa (And.intro hY5 (And.intro hY6 hY7))
    have HST:=Aa (And.intro h5 (And.intro h6 h7))
    have HG:=Aa (And.intro hg1 (And.intro hg2 hg3))
    have HB4:=Aa hb4
    clear hL4 hE4 hF4 hLF4 hcn hr4 q7 KM h5 h6 h7 hX5 hX6 hX7 hY5 hY6 hY7 hg1 hg2 hg3 hb4 hpb r3
    go_wp2_with fail
    rw [<-HYS.o.2.2]
    obtain ⟨hN8,hK8,hX8⟩:=NI.start (pc:=[zd U m,O ga gn gc,O sa sn sc,O ya yn yc,O oa on oc,O va vn vc,O fa fn fc,O ba bn bc]) (ch:=ch) rfl HLF4.o HG.o.1 HG.o.2.1 HG.o.2.2 HST.o.1 HST.o.2.1 HST.o.2.2 rfl rfl
    have hC:=GQ HLF4.o.li HENT.o (by rw [DE,HCN.o]) hK8 hX8
    have hFs:=Io (kf:=kf) (fs:=fs) HLF4.o hK8 hX8
    have hNP:=L8 HP0.o HX.o
    rw [<-HCN.o] at hNP
    obtain ⟨V8,hV8⟩:=nm (Y7.setCell ⟨b,14,none⟩ (ze true))
    rw [<-hV8] at hN8 hC hFs ⊢
    have HNP:=Aa hNP
    have HCM:=Aa hC
    have HFS:=Aa hFs
    have hstart:Kv V0 [zd U m,O ga gn gc,O sa sn sc,O ya yn yc,O oa on oc,O va vn vc,O fa fn fc,O ba bn bc] ch (O ca cn cc) v2 b g1 g2 g3 K kf fs l vn yn cn V8 V8 (vn+yn+(Am kf fs+Ai kf l)+1):=by
     refine ⟨_,hN8,⟨by simp [ns0],by simp [ns0],by simp [ns0]⟩,FrW.refl _,by rw [HCN.o];rfl,fun _=>?_⟩
     unfold NS.left ns0
     simp only [List.count_replicate_self]
     have:=HCN.o
     omega
    have HSTART:=Aa hstart
    obtain ⟨μ,hμ⟩:=Ii (Kv V0 [zd U m,O ga gn gc,O sa sn sc,O ya yn yc,O oa on oc,O va vn vc,O fa fn fc,O ba bn bc] ch (O ca cn cc) v2 b g1 g2 g3 K kf fs l vn yn cn V8)
    have HM:=Aa hμ
    have HDN:Hx (∀ st,Ln vn yn cn st->Ln vn yn cn ((B8 kf fs l).foldl (look1 ch K kf fs) st)/\((B8 kf fs l).foldl (look1 ch K kf fs) st=st\/((B8 kf fs l).foldl (look1 ch K kf fs) st).left < st.left)):=fun st hst=>by
     have h1:=G5 HX.o
     rw [<-HCN.o] at h1
     exact Dn.look h1 st hst
    clear hN8 hK8 hX8 hC hFs hNP hV8 hstart hμ x5c x5z y5p x6c x6z y6c x7c x7z y7c y7z mk1 mk2 mk3 r5 HLF4 HST HYS HENT
    go_loopw [] (fun wr=>∃ N,Kv V0 [zd U m,O ga gn gc,O sa sn sc,O ya yn yc,O oa on oc,O va vn vc,O fa fn fc,O ba bn bc] ch (O ca cn cc) v2 b g1 g2 g3 K kf fs l vn yn cn V8 wr N) (fun wr=>μ wr)
    case atStart=>exact ⟨_,HSTART.o⟩
    case round=>
     obtain ⟨N,hN⟩:=hrel
     obtain ⟨⟨st,q1,q2,q3,q4,q5⟩,-⟩:=HM.o _ _ hN
     clear hN
     obtain ⟨M,hM⟩:=nm (μ wr)
     rw [<-hM] at q4 q5 ⊢
     have m14:=q1.cells.2.2.2.2.2.2
     cases hm:st.mo with
     | false=>
      rw [hm] at m14
      rw [Fh hm] at q4
      have HFIN:Hx (NI V0 [zd U m,O ga gn gc,O sa sn sc,O ya yn yc,O oa on oc,O va vn vc,O fa fn fc,O ba bn bc] ch (O ca cn cc) v2 b g1 g2 g3 (AY ch K kf fs l vn yn) wr/\w.heap.size<=V0.heap.size/\Ov w wr):=⟨by rw [<-q4];exact q1,HB0.o.size,HB0.o.trans (q1.below.mono HB0.o.size)⟩
      clear q1 q2 q3 q4 q5 hM hm HM HSTART HDN
      go_wp2_with fail
      go_ret
      exact ⟨b,g1,g2,g3,_,_,V0,rfl,HFIN.o.1,HFIN.o.2.1,HFIN.o.2.2⟩
     | true=>
      rw [hm] at m14
      have hlt:=q5 hm
      obtain ⟨M,rfl⟩:∃ M',M=M' + 1:=⟨M - 1,by omega⟩
      have z14:=(q1.fz b (Or.inl rfl)).2.2 14
      have hmo:=q1.more false
      have hfr:=q3.trans hmo.2
      have KL:=Aa (LE hmo.1 HNP.o ⟨q2.vs,q2.cs,q2.nd⟩ (HFS.o.1.fr hfr HFS.o.2) HFS.o.2 (HCM.o.fr hfr) (fun i x hx=>by
       obtain ⟨hi,he⟩:=List.getElem?_eq_some_iff.1 hx
       rw [<-he]
       exact D9 kf fs l i hi))
      have HNX:Hx (∀ W9,NI V0 [zd U m,O ga gn gc,O sa sn sc,O ya yn yc,O oa on oc,O va vn vc,O fa fn fc,O ba bn bc] ch (O ca cn cc) v2 b g1 g2 g3 ((B8 kf fs l).foldl (look1 ch K kf fs) { st with mo:=false }) W9->FrW (XN b g1 g2 g3) (wr.setCell ⟨b,14,none⟩ (ze false)) W9->Kv V0 [zd U m,O ga gn gc,O sa sn sc,O ya yn yc,O oa on oc,O va vn vc,O fa fn fc,O ba bn bc] ch (O ca cn cc) v2 b g1 g2 g3 K kf fs l vn yn cn V8 W9 M):=fun W9 h1 h2=>by
       have hd:=HDN.o { st with mo:=false } ⟨q2.vs,q2.cs,q2.nd⟩
       refine ⟨_,h1,hd.1,hfr.trans h2,?_,fun h3=>?_⟩
       ·rw [<-q4]
        show _=if st.mo=true then _ else _
        rw [if_pos hm]
       ·rcases hd.2 with e | e
        ·rw [e] at h3;cases h3
        ·have e2:({ st with mo:=false }:NS).left=st.left:=rfl
         omega
      have HMM:=Aa hM
      clear q1 q2 q3 q4 q5 hM hm hmo hfr hlt HDN HSTART
      go_wp2_with fail
      refine KL.o.mono ?_
      rintro e W9 ⟨rfl,h1,h2⟩
      have HP9:=Aa (HNX.o W9 h1 h2)
      clear h1 h2 KL HNX m14 z14
      go_wp2_with fail
      exact ⟨⟨M,HP9.o⟩,Nat.lt_succ_of_le ((HM.o _ _ HP9.o).2 _ HP9.o)⟩
end Go.Proofs.YtfffpjkcfnekaaaGreat.Ex
