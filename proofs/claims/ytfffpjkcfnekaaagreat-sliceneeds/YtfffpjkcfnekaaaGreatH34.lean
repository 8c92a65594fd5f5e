/- What a channel needs, of any program that passes. -/
import Derived.Test.YtfffpjkcfnekaaaGreatH33
set_option linter.unusedVariables false
set_option maxHeartbeats 8000000
set_option maxRecDepth 100000
namespace Go.Proofs.YtfffpjkcfnekaaaGreat.Ex
open Go.RowKit
open Go.Value renaming slice -> O, int -> zd, bool -> ze, agg -> zg, pointer -> zi, tuple -> zj
open Go.IntKind renaming i64 -> U
open Go.Obj renaming cells -> zf
open Go.Ending renaming returned -> zh
theorem EZ (kf:Nat) (fs:List FnD) (j:Nat):(List.range (j+1)).map (fun i=>Value.int U ((An kf (fs.take i):Nat):Int))=(List.range j).map (fun i=>Value.int U ((An kf (fs.take i):Nat):Int))++[zd U ((An kf (fs.take j):Nat):Int)]:=by
 rw [List.range_succ,List.map_append]
 rfl
theorem Fz (kf:Nat):∀ (fs:List FnD) (a j:Nat) (h:j < fs.length),C9 kf (fs.take (j+1)) a=C9 kf (fs.take j) a++Bu kf fs[j].body (a+An kf (fs.take j))
 | f::r,a,0,h=>by
  show Bu kf f.body a++[]=[]++Bu kf f.body (a+0)
  simp
 | f::r,a,j+1,h=>by
  show Bu kf f.body a++C9 kf (r.take (j+1)) (a+Aj kf f.body)=(Bu kf f.body a++C9 kf (r.take j) (a+Aj kf f.body))++Bu kf (r[j]'(Nat.lt_of_succ_lt_succ h)).body (a+An kf (f::r.take j))
  rw [Fz kf r _ j (Nat.lt_of_succ_lt_succ h),List.append_assoc,show An kf (f::r.take j)=Aj kf f.body+An kf (r.take j) by unfold An;simp,Nat.add_assoc]
theorem LF.start (w0:World) (cs:List Value) (rest:List Value) (hl:cs.length=9) (t:Nat):LF w0 cs w0.heap.size (O none 0 0) 0 [] (O none 0 0) 0 [] rest (w0.alloc (.cells (cs++O none 0 0::O none 0 0::rest).toArray t)):=
 ⟨⟨bA _ _,Ay w0 _ t,fun j=>by simp [go_sem],World.ownsRow_nil _ _ _ _,by simp [Value.ownBlock],⟨Nat.le_refl _,by simp⟩,hl⟩,World.ownsRow_nil _ _ _ _,by simp [Value.ownBlock],fun g h=>by simp [Value.ownBlock] at h⟩
def LN (w0:World) (pc:List Value) (ch:Int) (cv fv:Value) (b g1 g2 g3 K kf:Nat) (fs:List FnD) (l:List D) (vn yn n:Nat) (V8:World) (wr:World) (N:Nat):Prop:=
 ∃ st,NI w0 pc ch cv fv b g1 g2 g3 st wr/\Ln vn yn n st/\FrW (XN b g1 g2 g3) V8 wr/\BX ch K kf fs (Cj kf fs l) N st=AZ ch K kf fs l vn yn/\(st.mo=true->st.left < N)
theorem FG {ch:Int} {K kf:Nat} {fs:List FnD} {C:List (Nat × D × Nat)} {st:NS} (h:st.mo=false):∀ N,BX ch K kf fs C N st=st
 | 0=>rfl
 | N+1=>by unfold BX;rw [h];rfl
theorem Fv (K kf:Nat) (m:Int) (ga gn gc sa sn sc ya yn yc oa on oc va vn vc fa fn fc ba bn bc gs sp ls ms vs fs l) (ch:Int) (w:World) (h:Bf K kf m ga gn gc sa sn sc ya yn yc oa on oc va vn vc fa fn fc ba bn bc gs sp ls ms vs fs l w) (hX:Ey.xP K kf m vn yn on sn gs sp ls ms vs fs l) :
  Calls Tryz.prog 83 #[zg #[zd U m,O ga gn gc,O sa sn sc,O ya yn yc,O oa on oc,O va vn vc,O fa fn fc,O ba bn bc],zd U ch] w fun e w'=>∃ b bv bi bs cv fv w0,e=zh (zi (some ⟨b,0,none⟩))/\NI w0 [zd U m,O ga gn gc,O sa sn sc,O ya yn yc,O oa on oc,O va vn vc,O fa fn fc,O ba bn bc] ch cv fv b bv bi bs (AZ ch K kf fs l vn yn) w'/\w.heap.size<=w0.heap.size/\Ov w w':=by
 have hb0:Ov w (w.alloc (zf #[zd U m,O ga gn gc,O sa sn sc,O ya yn yc,O oa on oc,O va vn vc,O fa fn fc,O ba bn bc] 31)):=bA _ _
 have hP0:=h.over hb0
 have hLF0:=LF.start (w.alloc (zf #[zd U m,O ga gn gc,O sa sn sc,O ya yn yc,O oa on oc,O va vn vc,O fa fn fc,O ba bn bc] 31)) [zd U m,O ga gn gc,O sa sn sc,O ya yn yc,O oa on oc,O va vn vc,O fa fn fc,O ba bn bc,zd U ch] [O none 0 0,O none 0 0,O none 0 0,ze false] rfl 156
 have hrow:Ad [zd U m,O ga gn gc,O sa sn sc,O ya yn yc,O oa on oc,O va vn vc,O fa fn fc,O ba bn bc] (w.alloc (zf #[zd U m,O ga gn gc,O sa sn sc,O ya yn yc,O oa on oc,O va vn vc,O fa fn fc,O ba bn bc] 31)) w.heap.size:=Ay w _ 31
 obtain ⟨V0,hV0⟩:=nm (w.alloc (zf #[zd U m,O ga gn gc,O sa sn sc,O ya yn yc,O oa on oc,O va vn vc,O fa fn fc,O ba bn bc] 31))
 rw [<-hV0] at hb0 hP0 hLF0 hrow
 have hfe:=hP0.funcs
 have hfl:fn=fs.length:=by obtain ⟨-,a,c,he,-⟩:=hfe;injection he
 have hvl:vn=vs.length:=by obtain ⟨-,a,c,he,-⟩:=hP0.vars;injection he
 have hyl:yn=ls.length:=by obtain ⟨-,a,c,he,-⟩:=hP0.ins;injection he
 have hlim:=hX.lim
 have hmany:=hX.many.1
 have hf5:fn<=5:=by omega
 have hv16:vn<=1000:=by omega
 have hy5:yn<=1000:=by omega
 have HROW:=Aa hrow
 have HB0:=Aa hb0
 have HP0:=Aa hP0
 have HX:=Aa hX
 have HLF0:=Aa hLF0
 have HFE:=Aa hfe
 have HFL:=Aa hfl
 have HMANY:=Aa hmany
 obtain ⟨B1,hB1⟩:=nm (V0.alloc (zf #[zd U m,O ga gn gc,O sa sn sc,O ya yn yc,O oa on oc,O va vn vc,O fa fn fc,O ba bn bc,zd U ch,O none 0 0,O none 0 0,O none 0 0,O none 0 0,O none 0 0,ze false] 156))
 have HLFB:Hx (LF V0 [zd U m,O ga gn gc,O sa sn sc,O ya yn yc,O oa on oc,O va vn vc,O fa fn fc,O ba bn bc,zd U ch] V0.heap.size (O none 0 0) 0 [] (O none 0 0) 0 [] [O none 0 0,O none 0 0,O none 0 0,ze false] B1):=by rw [hB1];exact hLF0
 obtain ⟨c0,c1,c2,c3,c4,c5,c6,c7⟩:=rc8 hrow
 have p6:=Ab (bA V0 (zf #[zd U m,O ga gn gc,O sa sn sc,O ya yn yc,O oa on oc,O va vn vc,O fa fn fc,O ba bn bc,zd U ch,O none 0 0,O none 0 0,O none 0 0,O none 0 0,O none 0 0,ze false] 156)) _ _ c6
 clear h hX hb0 hP0 hLF0 hrow hfe hfl hvl hyl hlim hmany HLF0
 have hV0s:V0.heap.size=w.heap.size+1:=by rw [hV0];simp
 go_enter Tryz.func83,Tryz.ntmps83
 go_wp2_with fail
 rw [<-hV0]
 clear hV0 c0 c1 c2 c3 c4 c5 c6 c7
 obtain ⟨b,hbE⟩:=nm (w.heap.size+1)
 rw [hV0s,<-hbE] at HLFB
 rw [<-hbE,<-hB1]
 clear hB1 p6
 have HBW:Hx (b=w.heap.size+1/\V0.heap.size=w.heap.size+1):=⟨hbE,hV0s⟩
 clear hbE hV0s
 go_loopw [15] (fun i wr=>∃ j:Nat,j<=fn/\i=zd U j/\∃ cv fv xs,LF V0 [zd U m,O ga gn gc,O sa sn sc,O ya yn yc,O oa on oc,O va vn vc,O fa fn fc,O ba bn bc,zd U ch] b cv (An kf (fs.take j)) xs fv j ((List.range j).map (fun i=>Value.int U ((An kf (fs.take i):Nat):Int))) [O none 0 0,O none 0 0,O none 0 0,ze false] wr/\BD V0 K kf xs (C9 kf (fs.take j) 0)) (fun i _=>fn - (intOf i).toNat)
 case atStart=>exact ⟨0,Nat.zero_le _,rfl,_,_,[],HLFB.o,BD.nil⟩
 case round=>
  obtain ⟨j,hj,rfl,cv,fv,xs,hLF,hE⟩:=hrel
  by_cases hlt:j < fn
  ·have hjf:j < fs.length:=by rw [<-HFL.o];exact hlt
   obtain ⟨-,fa2,fc2,hfe,hfel⟩:=id HFE.o
   injection hfe with f1 f2 f3
   obtain ⟨fb,fo,hfo,hfel⟩:=hfel (by rintro rfl;simp at hjf)
   obtain ⟨vP,vB,z0,z1,z2,p0,p1,p2,p3,p4,hPs,hPok,hBs,hRs⟩:=hfel j hjf
   obtain ⟨-,pa,pcp,rfl,-⟩:=id hPok
   obtain ⟨-,za,zc,rfl,-⟩:=id hBs
   obtain ⟨ra,rc,hre⟩:=hRs.form
   injection hre with e0 hre
   injection hre with e1 hre
   injection hre with e2 hre
   subst e0 e1 e2
   obtain ⟨p0,p1,p2,p3,p4⟩:=co5 hLF.li.below p0 p1 p2 p3 p4
   replace p0:wr.cell? ⟨fb,fo+j*5,none⟩=_:=p0
   have HCT:Hx (An kf (fs.take (j+1))=An kf (fs.take j)+Aj kf fs[j].body):=B9 hjf
   have HLT:Hx (C9 kf (fs.take (j+1)) 0=C9 kf (fs.take j) 0++Bu kf fs[j].body (0+An kf (fs.take j))):=Fz kf fs 0 j hjf
   have hcm:An kf (fs.take j)+Aj kf fs[j].body<=1000:=by
    have h1:=E3 (k:=kf) hjf
    have h2:=HCT.o
    have h3:=HMANY.o
    omega
   obtain ⟨oa',on',oc',rfl⟩:=AK hLF.li.own
   have hon:on'=An kf (fs.take j):=by
    rcases hLF.li.own.2 with ⟨he,h0⟩ | ⟨g,cap',cur,he,-⟩
    ·injection he with e1 e2 e3;omega
    ·injection he with e1 e2 e3
   obtain ⟨qa,qn,qc,rfl⟩:=AK hLF.own
   have hqn:qn=j:=by
    rcases hLF.own.2 with ⟨he,h0⟩ | ⟨g,cap',cur,he,-⟩
    ·injection he with e1 e2 e3;omega
    ·injection he with e1 e2 e3
   subst hqn
   obtain ⟨pl,hpl⟩:=nm fs[qn].ps.length
   obtain ⟨zn,hzn⟩:=nm fs[qn].body.length
   obtain ⟨rk,hrk⟩:=nm (Ap fs[qn].res)
   obtain ⟨rn,hrn⟩:=nm (AA fs[qn].res)
   obtain ⟨rl,hrl⟩:=nm (Ar fs[qn].res).length
   rw [<-hpl] at p0
   rw [<-hzn] at p1 hBs
   rw [<-hrk] at p2
   rw [<-hrn] at p3
   rw [<-hrl] at p4
   have KL:=Aa fun (Wz:World) (xs2 rest2:List Value) (cv2:Value) (hz:LI V0 [zd U m,O ga gn gc,O sa sn sc,O ya yn yc,O oa on oc,O va vn vc,O fa fn fc,O ba bn bc,zd U ch] b cv2 (An kf (fs.take qn)) xs2 rest2 Wz)=>JR K kf (O za zn zc) fs[qn].body V0 _ b cv2 (An kf (fs.take qn)) xs2 rest2 Wz hBs hz hcm
   have hb1:Ov wr (wr.alloc (zf #[O pa pl pcp,O za zn zc,zd U rk,zd U rn,O ra rl rc] 105)):=bA _ _
   obtain ⟨V,hV⟩:=nm (wr.alloc (zf #[O pa pl pcp,O za zn zc,zd U rk,zd U rn,O ra rl rc] 105))
   have hrf:Ad [O pa pl pcp,O za zn zc,zd U rk,zd U rn,O ra rl rc] V wr.heap.size:=by rw [hV];exact Ay wr [O pa pl pcp,O za zn zc,zd U rk,zd U rn,O ra rl rc] 105
   rw [<-hV] at hb1
   have hLFV:=hLF.over hb1
   obtain ⟨v2,w2,hrun,hLF2,x10,f10,hkeep⟩:=Ij (hLFV.over (bD V)) (by omega) (on':Int)
   obtain ⟨a2,n2,e2,rfl⟩:=AK hLF2.own
   have x9:=hLFV.li.c9
   have hWlt:wr.heap.size < V.heap.size:=by rw [hV];simp
   have hne1:wr.heap.size≠b:=by have:=hLF.li.lo.2;omega
   have hne2:(Value.slice qa qn qc).ownBlock≠some wr.heap.size:=fun e=>by have:=(CM hLF.own _ e).2;omega
   have hrf2:=A0 (k:=0) (hrf.over (bD V)) (hkeep _ hWlt hne1 hne2).1
   have hS0:CE V.drew b 9 (O oa' on' oc'):=(hLFV.over (bD V)).li.c9
   have hS1:CE (V.drew.alloc (zf #[zd U (on':Int)] 3)) b 9 (O oa' on' oc'):=((hLFV.over (bD V)).over (bA _ _)).li.c9
   have hS3:CE (w2.setCell ⟨b,10,none⟩ (O a2 n2 e2)) b 9 (O oa' on' oc'):=hLF2.li.c9
   have hS2:CE w2 b 9 (O oa' on' oc'):=by
    have h3:(w2.setCell ⟨b,10,none⟩ (O a2 n2 e2)).cell? ⟨b,9,none⟩=some (O oa' on' oc'):=hS3
    rw [World.cell?_setCell_other _ _ _ _ (by intro e;injection e with e1 e2;omega)] at h3
    exact h3
   have z1:=hLFV.c10
   have z2:=((hLFV.over (bD V)).over (bA _ (zf #[zd U (on':Int)] 3))).c10
   have z3:=(hLFV.over (bA V (zf #[zd U (on':Int)] 3))).c10
   have HE:=Aa hE
   rw [hon] at hLF2
   have HHLF2:=Aa hLF2
   have HHRF2:=Aa hrf2
   have hlt1:(qn:Int) < (fn:Int):=by omega
   subst f1 hfo
   clear hLF hE hfel hPok hBs hRs hPs hpl hzn hrk hrn hrl hre hb1 hLFV hkeep hWlt hne1 hne2 hLF2 hrf2 hrf hon f2 f3 hcm
   go_wp2_with fail
   rw [<-hV]
   clear hV p0 p1 p2 p3 p4
   refine gS (fun Wz=>CE Wz b 9 (O oa' on' oc')) hS0 fun hHeld=>?_
   refine kT 0 ?_
   refine kT 1 ?_
   refine kT 2 ?_
   refine kT 3 ?_
   refine kT 5 ?_
   refine kT 6 ?_
   refine kT 7 ?_
   refine kT 8 ?_
   refine kT 9 ?_
   refine rdB 4 10 rfl (fun K hK=>?_) rfl fun K hK=>?_
   ·go_simp
    refine xK hK hS0 fun hHeld=>?_
    clear hK K
    refine rdA 10 rfl fun K hK=>?_
    go_simp
    refine xK hK hS1 fun hHeld=>?_
    clear hK K
    refine rdA 11 rfl fun K hK=>?_
    refine B4 rfl _ _ _ rfl _ _ _ _ rfl rfl hrun ?_
    refine xK hK hS2 fun hHeld=>?_
    clear hK K
    refine rdA 12 rfl fun K hK=>?_
    go_simp
    refine xK hK hS2 fun hHeld=>?_
    clear hK K
    refine rdA 13 rfl fun K hK=>?_
    go_simp
    refine xK hK hS2 fun hHeld=>?_
    clear hK K
    refine rdA 14 rfl fun K hK=>?_
    go_simp
    refine xK hK hS3 fun hHeld=>?_
    clear hK K
    refine gE ?_
    have KL2:=Aa (KL.o _ _ _ _ HHLF2.o.li)
    have f1:=HHRF2.o 1 _ rfl
    have HLF2:=Aa HHLF2.o
    go_wp2_with fail
    refine KL2.o.mono ?_
    rintro e W3 ⟨rfl,cv3,zs,hL3,hE3,hF3⟩
    have HFIN:Hx (LF V0 [zd U m,O ga gn gc,O sa sn sc,O ya yn yc,O oa on oc,O va vn vc,O (some ⟨fb,fo,none⟩) fn fc,O ba bn bc,zd U ch] b cv3 (An kf (fs.take (qn+1))) (xs++zs) (O a2 n2 e2) (qn+1) ((List.range (qn+1)).map (fun i=>Value.int U ((An kf (fs.take i):Nat):Int))) [O none 0 0,O none 0 0,O none 0 0,ze false] W3/\BD V0 K kf (xs++zs) (C9 kf (fs.take (qn+1)) 0)):=by
     refine ⟨?_,?_⟩
     ·have h1:=HLF2.o.listed hL3 hF3
      rw [HCT.o,EZ]
      exact h1
     ·rw [HLT.o]
      exact HE.o.app (by rw [Nat.zero_add];exact hE3)
    clear hL3 hE3 hF3 KL2 f1
    go_wp2_with fail
    exact ⟨⟨qn+1,by omega,by go_num,_,_,_,HFIN.o.1,HFIN.o.2⟩,by simp [intOf];omega⟩
   ·go_simp
    refine xK hK hS1 fun hHeld=>?_
    clear hK K
    refine rdA 4 rfl fun K hK=>?_
    go_simp
    refine xK hK hS1 fun hHeld=>?_
    clear hK K
    refine rdA 11 rfl fun K hK=>?_
    refine B4 rfl _ _ _ rfl _ _ _ _ rfl rfl hrun ?_
    refine xK hK hS2 fun hHeld=>?_
    clear hK K
    refine rdA 12 rfl fun K hK=>?_
    go_simp
    refine xK hK hS2 fun hHeld=>?_
    clear hK K
    refine rdA 13 rfl fun K hK=>?_
    go_simp
    refine xK hK hS2 fun hHeld=>?_
    clear hK K
    refine rdA 14 rfl fun K hK=>?_
    go_simp
    refine xK hK hS3 fun hHeld=>?_
    clear hK K
    refine gE ?_
    have KL2:=Aa (KL.o _ _ _ _ HHLF2.o.li)
    have f1:=HHRF2.o 1 _ rfl
    have HLF2:=Aa HHLF2.o
    go_wp2_with fail
    refine KL2.o.mono ?_
    rintro e W3 ⟨rfl,cv3,zs,hL3,hE3,hF3⟩
    have HFIN:Hx (LF V0 [zd U m,O ga gn gc,O sa sn sc,O ya yn yc,O oa on oc,O va vn vc,O (some ⟨fb,fo,none⟩) fn fc,O ba bn bc,zd U ch] b cv3 (An kf (fs.take (qn+1))) (xs++zs) (O a2 n2 e2) (qn+1) ((List.range (qn+1)).map (fun i=>Value.int U ((An kf (fs.take i):Nat):Int))) [O none 0 0,O none 0 0,O none 0 0,ze false] W3/\BD V0 K kf (xs++zs) (C9 kf (fs.take (qn+1)) 0)):=by
     refine ⟨?_,?_⟩
     ·have h1:=HLF2.o.listed hL3 hF3
      rw [HCT.o,EZ]
      exact h1
     ·rw [HLT.o]
      exact HE.o.app (by rw [Nat.zero_add];exact hE3)
    clear hL3 hE3 hF3 KL2 f1
    go_wp2_with fail
    exact ⟨⟨qn+1,by omega,by go_num,_,_,_,HFIN.o.1,HFIN.o.2⟩,by simp [intOf];omega⟩
  ·have hje:j=fn:=by omega
   have htk:fs.take j=fs:=List.take_of_length_le (by rw [<-HFL.o];omega)
   obtain ⟨oa',on',oc',rfl⟩:=AK hLF.li.own
   have hon:on'=An kf (fs.take j):=by
    rcases hLF.li.own.2 with ⟨he,h0⟩ | ⟨g,cap',cur,he,-⟩
    ·injection he with e1 e2 e3;omega
    ·injection he with e1 e2 e3
   obtain ⟨qa,qn,qc,rfl⟩:=AK hLF.own
   have hqn:qn=j:=by
    rcases hLF.own.2 with ⟨he,h0⟩ | ⟨g,cap',cur,he,-⟩
    ·injection he with e1 e2 e3;omega
    ·injection he with e1 e2 e3
   subst hqn
   have HLF:=Aa hLF
   have HE:=Aa hE
   have HON:=Aa hon
   have HTK:=Aa htk
   have hj5:qn<=5:=by omega
   have hngt:¬ (qn:Int) < (fn:Int):=by omega
   have HJE:=Aa hje
   clear hLF hE hon htk HFE hje hlt hj
   go_wp2_with fail
   refine C1 (fun act2 Wn=>∃ (y7 y16 y17 y18 y19 y20 y21 y22 y23 y24 y25 y26 y27 y28 y29 y30 y31 y32 y33 y34 y35 y36 y37 y38 y39 y40 y41 y42 y43 y44 y45 y46 y47 y48 y49 y50 y51:Value) (v2:Value),act2={ tmps:=#[zg #[zd U m,O ga gn gc,O sa sn sc,O ya yn yc,O oa on oc,O va vn vc,O fa fn fc,O ba bn bc],zd U ch,zi (some ⟨w.heap.size,0,none⟩),undef,zi none,zi (some ⟨b,0,none⟩),undef,y7,zg #[zd U m,O ga gn gc,O sa sn sc,O ya yn yc,O oa on oc,O va vn vc,O fa fn fc,O ba bn bc],zd U ch,zg #[zd U m,O ga gn gc,O sa sn sc,O ya yn yc,O oa on oc,O va vn vc,O fa fn fc,O ba bn bc,zd U ch,O none 0 0,O none 0 0,O none 0 0,O none 0 0,O none 0 0,ze false],zi (some ⟨b,0,none⟩),zi (some ⟨w.heap.size,6,none⟩),O fa fn fc,zd U (fn:Int),zd U (qn:Int),y16,y17,y18,y19,y20,y21,y22,y23,y24,y25,y26,y27,y28,y29,y30,y31,y32,y33,y34,y35,y36,y37,y38,y39,y40,y41,y42,y43,y44,y45,y46,y47,y48,y49,y50,y51,undef,undef,undef,undef,undef,undef,undef,undef,undef,undef,undef,undef,undef,undef,undef,undef,undef,undef,undef,undef,undef,undef,undef,undef,undef,undef,undef,undef,undef,undef,undef,undef,undef,undef,undef,undef,undef,undef,undef,undef],defers:=[] }/\LF V0 [zd U m,O ga gn gc,O sa sn sc,O ya yn yc,O oa on oc,O va vn vc,O fa fn fc,O ba bn bc,zd U ch] b (O oa' on' oc') (An kf fs) xs v2 (qn+1) ((List.range (qn+1)).map (fun i=>Value.int U ((An kf (fs.take i):Nat):Int))) [O none 0 0,O none 0 0,O none 0 0,ze false] Wn) ?_ ?_
   ·obtain ⟨v2,w2,hrun,hLF2,x10,f10,hkeep⟩:=Ij (HLF.o.over (bD wr)) (by omega) (on':Int)
    obtain ⟨a2,n2,e2,rfl⟩:=AK hLF2.own
    have hS0:CE wr.drew b 9 (O oa' on' oc'):=(HLF.o.over (bD wr)).li.c9
    have hS1:CE (wr.drew.alloc (zf #[zd U (on':Int)] 3)) b 9 (O oa' on' oc'):=((HLF.o.over (bD wr)).over (bA _ _)).li.c9
    have hS3:CE (w2.setCell ⟨b,10,none⟩ (O a2 n2 e2)) b 9 (O oa' on' oc'):=hLF2.li.c9
    have hS2:CE w2 b 9 (O oa' on' oc'):=by
     have h3:(w2.setCell ⟨b,10,none⟩ (O a2 n2 e2)).cell? ⟨b,9,none⟩=some (O oa' on' oc'):=hS3
     rw [World.cell?_setCell_other _ _ _ _ (by intro e;injection e with e1 e2;omega)] at h3
     exact h3
    have z1:=HLF.o.c10
    have z2:=((HLF.o.over (bD wr)).over (bA _ (zf #[zd U (on':Int)] 3))).c10
    have z3:=(HLF.o.over (bA wr (zf #[zd U (on':Int)] 3))).c10
    have HFIN:Hx (LF V0 [zd U m,O ga gn gc,O sa sn sc,O ya yn yc,O oa on oc,O va vn vc,O fa fn fc,O ba bn bc,zd U ch] b (O oa' on' oc') (An kf fs) xs (O a2 n2 e2) (qn+1) ((List.range (qn+1)).map (fun i=>Value.int U ((An kf (fs.take i):Nat):Int))) [O none 0 0,O none 0 0,O none 0 0,ze false] (w2.setCell ⟨b,10,none⟩ (O a2 n2 e2))):=by
     have h1:=hLF2
     rw [HON.o] at h1
     rw [HTK.o] at h1
     rw [EZ,HTK.o]
     rw [HON.o,HTK.o]
     exact h1
    clear hLF2 hkeep HLF HE
    refine gS (fun Wz=>CE Wz b 9 (O oa' on' oc')) hS0 fun hHeld=>?_
    refine kT 0 ?_
    refine kT 1 ?_
    refine kT 2 ?_
    refine kT 3 ?_
    refine kT 5 ?_
    refine kT 6 ?_
    refine kT 7 ?_
    refine kT 8 ?_
    refine kT 9 ?_
    refine rdB 4 10 rfl (fun K hK=>?_) rfl fun K hK=>?_
    ·go_simp
     refine xK hK hS0 fun hHeld=>?_
     clear hK K
     refine rdA 10 rfl fun K hK=>?_
     go_simp
     refine xK hK hS1 fun hHeld=>?_
     clear hK K
     refine rdA 11 rfl fun K hK=>?_
     refine B4 rfl _ _ _ rfl _ _ _ _ rfl rfl hrun ?_
     refine xK hK hS2 fun hHeld=>?_
     clear hK K
     refine rdA 12 rfl fun K hK=>?_
     go_simp
     refine xK hK hS2 fun hHeld=>?_
     clear hK K
     refine rdA 13 rfl fun K hK=>?_
     go_simp
     refine xK hK hS2 fun hHeld=>?_
     clear hK K
     refine rdA 14 rfl fun K hK=>?_
     go_simp
     refine xK hK hS3 fun hHeld=>?_
     clear hK K
     refine gE ?_
     exact AJ ⟨_,_,_,_,_,_,_,_,_,_,_,_,_,_,_,_,_,_,_,_,_,_,_,_,_,_,_,_,_,_,_,_,_,_,_,_,_,_,rfl,HFIN.o⟩
    ·go_simp
     refine xK hK hS1 fun hHeld=>?_
     clear hK K
     refine rdA 4 rfl fun K hK=>?_
     go_simp
     refine xK hK hS1 fun hHeld=>?_
     clear hK K
     refine rdA 11 rfl fun K hK=>?_
     refine B4 rfl _ _ _ rfl _ _ _ _ rfl rfl hrun ?_
     refine xK hK hS2 fun hHeld=>?_
     clear hK K
     refine rdA 12 rfl fun K hK=>?_
     go_simp
     refine xK hK hS2 fun hHeld=>?_
     clear hK K
     refine rdA 13 rfl fun K hK=>?_
     go_simp
     refine xK hK hS2 fun hHeld=>?_
     clear hK K
     refine rdA 14 rfl fun K hK=>?_
     go_simp
     refine xK hK hS3 fun hHeld=>?_
     clear hK K
     refine gE ?_
     exact AJ ⟨_,_,_,_,_,_,_,_,_,_,_,_,_,_,_,_,_,_,_,_,_,_,_,_,_,_,_,_,_,_,_,_,_,_,_,_,_,_,rfl,HFIN.o⟩
   ·rintro act2 Wn ⟨y7,y16,y17,y18,y19,y20,y21,y22,y23,y24,y25,y26,y27,y28,y29,y30,y31,y32,y33,y34,y35,y36,y37,y38,y39,y40,y41,y42,y43,y44,y45,y46,y47,y48,y49,y50,y51,v2,rfl,hLF⟩
    have KM:=Aa (JR K kf (O ba bn bc) l V0 _ b _ (An kf fs) xs _ Wn HP0.o.main hLF.li (by have:=HMANY.o;omega))
    have q7:=(HROW.o.over hLF.li.below) 7 _ rfl
    have HLF2:=Aa hLF
    clear hLF
    go_wp2_with fail
    refine KM.o.mono ?_
    rintro e W4 ⟨rfl,cv4,zs,hL4,hE4,hF4⟩
    have hLF4:=HLF2.o.listed hL4 hF4
    obtain ⟨ca,cn,cc,rfl⟩:=AK hL4.own
    have hcn:cn=An kf fs+Aj kf l:=by
     rcases hL4.own.2 with ⟨he,h0⟩ | ⟨g,cap',cur,he,-⟩
     ·injection he with e1 e2 e3;omega
     ·injection he with e1 e2 e3
    rw [<-hcn,show qn=fs.length from HJE.o.trans HFL.o] at hLF4
    have HENT:Hx (BD V0 K kf (xs++zs) (Cj kf fs l)):=by
     have h1:=HE.o
     rw [HTK.o] at h1
     exact h1.app hE4
    have hr4:=HROW.o.over hL4.below
    have r3:=hr4 3 _ rfl
    have r5:=hr4 5 _ rfl
    have hb4:=hL4.lo.2
    obtain ⟨X5,hX5⟩:=nm (W4.alloc (.cells (CH vn) 4))
    obtain ⟨g1,hg1⟩:=nm W4.heap.size
    obtain ⟨Y5,hY5⟩:=nm (X5.setCell ⟨b,11,none⟩ (O (some ⟨g1,0,none⟩) vn vn))
    have h5:=Jp V0 W4 X5 Y5 b vn 11 g1 _ hL4.row (by simp) hb4 hL4.lo.1 hL4.below hX5 hg1 hY5
    obtain ⟨X6,hX6⟩:=nm (Y5.alloc (.cells (CH yn) 4))
    obtain ⟨g2,hg2⟩:=nm Y5.heap.size
    obtain ⟨Y6,hY6⟩:=nm (X6.setCell ⟨b,12,none⟩ (O (some ⟨g2,0,none⟩) yn yn))
    have h6:=Jp V0 Y5 X6 Y6 b yn 12 g2 _ h5.row (by simp) (by rw [h5.size];omega) hL4.lo.1 h5.below hX6 hg2 hY6
    obtain ⟨X7,hX7⟩:=nm (Y6.alloc (.cells (CH cn) 4))
    obtain ⟨g3,hg3⟩:=nm Y6.heap.size
    obtain ⟨Y7,hY7⟩:=nm (X7.setCell ⟨b,13,none⟩ (O (some ⟨g3,0,none⟩) cn cn))
    have h7:=Jp V0 Y6 X7 Y7 b cn 13 g3 _ h6.row (by simp) (by rw [h6.size,h5.size];omega) hL4.lo.1 h6.below hX7 hg3 hY7
    have hpb:w.heap.size≠b:=by have:=HBW.o;omega
    have hcn2:cn<=1000:=by have:=HMANY.o;omega
    have mk1:(Instr.makeSlice 48 (zd U vn) (zd U vn)).run Tryz.prog W4=.ok (O (some ⟨g1,0,none⟩) vn vn) X5:=by rw [hX5,hg1];exact JM vn hv16 W4
    have mk2:(Instr.makeSlice 48 (zd U yn) (zd U yn)).run Tryz.prog (X5.setCell ⟨b,11,none⟩ (O (some ⟨g1,0,none⟩) vn vn))=.ok (O (some ⟨g2,0,none⟩) yn yn) X6:=by rw [<-hY5,hX6,hg2];exact JM yn hy5 Y5
    have mk3:(Instr.makeSlice 48 (zd U cn) (zd U cn)).run Tryz.prog (X6.setCell ⟨b,12,none⟩ (O (some ⟨g2,0,none⟩) yn yn))=.ok (O (some ⟨g3,0,none⟩) cn cn) X7:=by rw [<-hY6,hX7,hg3];exact JM cn hcn2 Y6
    have x5c:=h5.old 11 _ rfl
    have x5z:=(h5.fzX 11).trans (hL4.fz 11)
    have y5p:(X5.setCell ⟨b,11,none⟩ (O (some ⟨g1,0,none⟩) vn vn)).cell? ⟨w.heap.size,3,none⟩=some (O ya yn yc):=by rw [<-hY5];exact h5.other _ _ hpb hr4 3 _ rfl
    have x6c:=h6.old 12 _ rfl
    have x6z:=(h6.fzX 12).trans ((h5.fz b 12 hb4).trans (hL4.fz 12))
    have y6c:(X6.setCell ⟨b,12,none⟩ (O (some ⟨g2,0,none⟩) yn yn)).cell? ⟨b,9,none⟩=some (O ca cn cc):=by rw [<-hY6];exact h6.row 9 _ rfl
    have x7c:=h7.old 13 _ rfl
    have x7z:=(h7.fzX 13).trans ((h6.fz b 13 (by rw [h5.size];omega)).trans ((h5.fz b 13 hb4).trans (hL4.fz 13)))
    have y7c:(X7.setCell ⟨b,13,none⟩ (O (some ⟨g3,0,none⟩) cn cn)).cell? ⟨b,14,none⟩=some (ze false):=by rw [<-hY7];exact h7.row 14 _ rfl
    have y7z:(X7.setCell ⟨b,13,none⟩ (O (some ⟨g3,0,none⟩) cn cn)).frozen? ⟨b,14,none⟩=false:=by rw [<-hY7];exact (h7.fz b 14 (by rw [h6.size,h5.size];omega)).trans ((h6.fz b 14 (by rw [h5.size];omega)).trans ((h5.fz b 14 hb4).trans (hL4.fz 14)))
    have r5:=hr4 5 _ rfl
    have HLF4:=Aa hLF4
    have HCN:=Aa hcn
    have HYS:=Aa (And.intro hY5 (And.intro hY6 hY7))
    have HST:=Aa (And.intro h5 (And.intro h6 h7))
    have HG:=Aa (And.intro hg1 (And.intro hg2 hg3))
    have HB4:=Aa hb4
    clear hL4 hE4 hF4 hLF4 hcn hr4 q7 KM h5 h6 h7 hX5 hX6 hX7 hY5 hY6 hY7 hg1 hg2 hg3 hb4 hpb r3
    go_wp2_with fail
    rw [<-HYS.o.2.2]
    obtain ⟨hN8,hK8,hX8⟩:=NI.start (pc:=[zd U m,O ga gn gc,O sa sn sc,O ya yn yc,O oa on oc,O va vn vc,O fa fn fc,O ba bn bc]) (ch:=ch) rfl HLF4.o HG.o.1 HG.o.2.1 HG.o.2.2 HST.o.1 HST.o.2.1 HST.o.2.2 rfl rfl
    have hC:=Hi HLF4.o.li HENT.o (by rw [DZ,HCN.o]) hK8 hX8
    have hFs:=I7 (kf:=kf) (fs:=fs) HLF4.o hK8 hX8
    have hNP:=MS HP0.o HX.o
    rw [<-HCN.o] at hNP
    obtain ⟨V8,hV8⟩:=nm (Y7.setCell ⟨b,14,none⟩ (ze true))
    rw [<-hV8] at hN8 hC hFs ⊢
    have HNP:=Aa hNP
    have HCM:=Aa hC
    have HFS:=Aa hFs
    have hstart:LN V0 [zd U m,O ga gn gc,O sa sn sc,O ya yn yc,O oa on oc,O va vn vc,O fa fn fc,O ba bn bc] ch (O ca cn cc) v2 b g1 g2 g3 K kf fs l vn yn cn V8 V8 (vn+yn+(An kf fs+Aj kf l)+1):=by
     refine ⟨_,hN8,⟨by simp [ns0],by simp [ns0],by simp [ns0]⟩,FrW.refl _,by rw [HCN.o];rfl,fun _=>?_⟩
     unfold NS.left ns0
     simp only [List.count_replicate_self]
     have:=HCN.o
     omega
    have HSTART:=Aa hstart
    obtain ⟨μ,hμ⟩:=I2 (LN V0 [zd U m,O ga gn gc,O sa sn sc,O ya yn yc,O oa on oc,O va vn vc,O fa fn fc,O ba bn bc] ch (O ca cn cc) v2 b g1 g2 g3 K kf fs l vn yn cn V8)
    have HM:=Aa hμ
    have HDN:Hx (∀ st,Ln vn yn cn st->Ln vn yn cn ((Cj kf fs l).foldl (look1 ch K kf fs) st)/\((Cj kf fs l).foldl (look1 ch K kf fs) st=st\/((Cj kf fs l).foldl (look1 ch K kf fs) st).left < st.left)):=fun st hst=>by
     have h1:=H3 HX.o
     rw [<-HCN.o] at h1
     exact Dn.look h1 st hst
    clear hN8 hK8 hX8 hC hFs hNP hV8 hstart hμ x5c x5z y5p x6c x6z y6c x7c x7z y7c y7z mk1 mk2 mk3 r5 HLF4 HST HYS HENT
    go_loopw [] (fun wr=>∃ N,LN V0 [zd U m,O ga gn gc,O sa sn sc,O ya yn yc,O oa on oc,O va vn vc,O fa fn fc,O ba bn bc] ch (O ca cn cc) v2 b g1 g2 g3 K kf fs l vn yn cn V8 wr N) (fun wr=>μ wr)
    case atStart=>exact ⟨_,HSTART.o⟩
    case round=>
     obtain ⟨N,hN⟩:=hrel
     obtain ⟨⟨st,q1,q2,q3,q4,q5⟩,-⟩:=HM.o _ _ hN
     clear hN
     obtain ⟨M,hM⟩:=nm (μ wr)
     rw [<-hM] at q4 q5 ⊢
     have m14:=q1.cells.2.2.2.2.2.2
     cases hm:st.mo with
     | false=>
      rw [hm] at m14
      rw [FG hm] at q4
      have HFIN:Hx (NI V0 [zd U m,O ga gn gc,O sa sn sc,O ya yn yc,O oa on oc,O va vn vc,O fa fn fc,O ba bn bc] ch (O ca cn cc) v2 b g1 g2 g3 (AZ ch K kf fs l vn yn) wr/\w.heap.size<=V0.heap.size/\Ov w wr):=⟨by rw [<-q4];exact q1,HB0.o.size,HB0.o.trans (q1.below.mono HB0.o.size)⟩
      clear q1 q2 q3 q4 q5 hM hm HM HSTART HDN
      go_wp2_with fail
      go_ret
      exact ⟨b,g1,g2,g3,_,_,V0,rfl,HFIN.o.1,HFIN.o.2.1,HFIN.o.2.2⟩
     | true=>
      rw [hm] at m14
      have hlt:=q5 hm
      obtain ⟨M,rfl⟩:∃ M',M=M' + 1:=⟨M - 1,by omega⟩
      have z14:=(q1.fz b (Or.inl rfl)).2.2 14
      have hmo:=q1.more false
      have hfr:=q3.trans hmo.2
      have KL:=Aa (Mt hmo.1 HNP.o ⟨q2.vs,q2.cs,q2.nd⟩ (HFS.o.1.fr hfr HFS.o.2) HFS.o.2 (HCM.o.fr hfr) (fun i x hx=>by
       obtain ⟨hi,he⟩:=List.getElem?_eq_some_iff.1 hx
       rw [<-he]
       exact EB kf fs l i hi))
      have HNX:Hx (∀ W9,NI V0 [zd U m,O ga gn gc,O sa sn sc,O ya yn yc,O oa on oc,O va vn vc,O fa fn fc,O ba bn bc] ch (O ca cn cc) v2 b g1 g2 g3 ((Cj kf fs l).foldl (look1 ch K kf fs) { st with mo:=false }) W9->FrW (XN b g1 g2 g3) (wr.setCell ⟨b,14,none⟩ (ze false)) W9->LN V0 [zd U m,O ga gn gc,O sa sn sc,O ya yn yc,O oa on oc,O va vn vc,O fa fn fc,O ba bn bc] ch (O ca cn cc) v2 b g1 g2 g3 K kf fs l vn yn cn V8 W9 M):=fun W9 h1 h2=>by
       have hd:=HDN.o { st with mo:=false } ⟨q2.vs,q2.cs,q2.nd⟩
       refine ⟨_,h1,hd.1,hfr.trans h2,?_,fun h3=>?_⟩
       ·rw [<-q4]
        show _=if st.mo=true then _ else _
        rw [if_pos hm]
       ·rcases hd.2 with e | e
        ·rw [e] at h3;cases h3
        ·have e2:({ st with mo:=false }:NS).left=st.left:=rfl
         omega
      have HMM:=Aa hM
      clear q1 q2 q3 q4 q5 hM hm hmo hfr hlt HDN HSTART
      go_wp2_with fail
      refine KL.o.mono ?_
      rintro e W9 ⟨rfl,h1,h2⟩
      have HP9:=Aa (HNX.o W9 h1 h2)
      clear h1 h2 KL HNX m14 z14
      go_wp2_with fail
      exact ⟨⟨M,HP9.o⟩,Nat.lt_succ_of_le ((HM.o _ _ HP9.o).2 _ HP9.o)⟩
theorem Fu {K kf:Nat} {m:Int} {ga:Option Addr} {gn gc:Nat} {sa:Option Addr} {sn sc:Nat} {ya:Option Addr} {yn yc:Nat} {oa:Option Addr} {on oc:Nat} {va:Option Addr} {vn vc:Nat} {fa:Option Addr} {fn fc:Nat} {ba:Option Addr} {bn bd:Nat} {gs:List (Int × Int)} {sp:List Int} {ls ms:List Lab} {vs:List (Bool × Lab)} {fs:List FnD} {l:List D} {w:World} (h:Bf K kf m ga gn gc sa sn sc ya yn yc oa on oc va vn vc fa fn fc ba bn bd gs sp ls ms vs fs l w):gn=gs.length/\sn=sp.length/\yn=ls.length/\on=ms.length/\vn=vs.length/\fn=fs.length/\bn=l.length:=by
 obtain ⟨_,_,e1,-⟩:=h.grants
 obtain ⟨_,_,e2,-⟩:=h.speak
 obtain ⟨-,_,_,e3,-⟩:=h.ins
 obtain ⟨-,_,_,e4,-⟩:=h.outs
 obtain ⟨-,_,_,e5,-⟩:=h.vars
 obtain ⟨-,_,_,e6,-⟩:=h.funcs
 obtain ⟨-,_,_,e7,-⟩:=h.main
 injection e1 with _ e1
 injection e2 with _ e2
 injection e3 with _ e3
 injection e4 with _ e4
 injection e5 with _ e5
 injection e6 with _ e6
 injection e7 with _ e7
 exact ⟨e1,e2,e3,e4,e5,e6,e7⟩
theorem Kw (K kf:Nat) (m:Int) (ga gn gc sa sn sc ya yn yc oa on oc va vn vc fa fn fc ba bn bd gs sp ls ms vs fs l) (ch:Int) (w:World) (h:Bf K kf m ga gn gc sa sn sc ya yn yc oa on oc va vn vc fa fn fc ba bn bd gs sp ls ms vs fs l w) (nd:List Bool) (hnd:nd=(AZ ch K kf fs l vn yn).nd) :
  Calls Tryz.prog 29 #[zg #[zd U m,O ga gn gc,O sa sn sc,O ya yn yc,O oa on oc,O va vn vc,O fa fn fc,O ba bn bd],zd U ch] w fun e w'=>Ov w w'/\∃ why:Int,(why=0 ↔ Ey.xP K kf m vn yn on sn gs sp ls ms vs fs l/\0<=ch/\ch < on)/\((why≠0/\e=zh (zj #[zg #[zd U 0,O none 0 0,O none 0 0,O none 0 0,O none 0 0,O none 0 0,O none 0 0,O none 0 0],zd U why]))\/(why=0/\∃ (ga2:Option Addr) (gc2:Nat) (sa2:Option Addr) (sc2:Nat) (ya2:Option Addr) (yc2:Nat) (oa2:Option Addr) (oc2:Nat) (va2:Option Addr) (vc2:Nat) (fa2:Option Addr) (fc2:Nat) (ba2:Option Addr) (bd2:Nat),e=zh (zj #[zg #[zd U m,O ga2 gs.length gc2,O sa2 sp.length sc2,O ya2 ls.length yc2,O oa2 ms.length oc2,O va2 vs.length vc2,O fa2 fs.length fc2,O ba2 (A5 nd kf l (An kf fs)).length bd2],zd U 0])/\Bf K kf m ga2 gs.length gc2 sa2 sp.length sc2 ya2 ls.length yc2 oa2 ms.length oc2 va2 vs.length vc2 fa2 fs.length fc2 ba2 (A5 nd kf l (An kf fs)).length bd2 gs sp ls ms vs (BL nd kf fs) (A5 nd kf l (An kf fs)) w')):=by
 have hb1:Ov w ((w.alloc (zf #[zd U m,O ga gn gc,O sa sn sc,O ya yn yc,O oa on oc,O va vn vc,O fa fn fc,O ba bn bd] 31)).alloc (zf #[zd U 0,O none 0 0,O none 0 0,O none 0 0,O none 0 0,O none 0 0,O none 0 0,O none 0 0] 31)):=(bA w _).alloc (by simp) _
 obtain ⟨V,hV⟩:=nm ((w.alloc (zf #[zd U m,O ga gn gc,O sa sn sc,O ya yn yc,O oa on oc,O va vn vc,O fa fn fc,O ba bn bd] 31)).alloc (zf #[zd U 0,O none 0 0,O none 0 0,O none 0 0,O none 0 0,O none 0 0,O none 0 0,O none 0 0] 31))
 have hrV:Ad [zd U m,O ga gn gc,O sa sn sc,O ya yn yc,O oa on oc,O va vn vc,O fa fn fc,O ba bn bd] V w.heap.size:=by rw [hV];exact Ad.over (Ay w [zd U m,O ga gn gc,O sa sn sc,O ya yn yc,O oa on oc,O va vn vc,O fa fn fc,O ba bn bd] 31) (bA _ _)
 have hs1:(w.alloc (zf #[zd U m,O ga gn gc,O sa sn sc,O ya yn yc,O oa on oc,O va vn vc,O fa fn fc,O ba bn bd] 31)).heap.size=w.heap.size+1:=by simp
 have hz8:Z8 (w.heap.size+1) V:=by rw [hV,<-hs1];exact Jl 31 _
 have hsV:V.heap.size=w.heap.size+2:=by rw [hV];simp
 rw [<-hV] at hb1
 have K1:=Aa (Im K kf m ga gn gc sa sn sc ya yn yc oa on oc va vn vc fa fn fc ba bn bd gs sp ls ms vs fs l ch V (h.over hb1))
 obtain ⟨c0,c1,c2,c3,c4,c5,c6,c7⟩:=rc8 hrV
 have HP:=Aa h
 have HB1:=Aa hb1
 have HRV:=Aa hrV
 have HZ8:=Aa hz8
 have HSV:=Aa hsV
 have HND:=Aa hnd
 clear h hb1 hrV hz8 hsV hs1 hnd
 go_enter Tryz.func29,Tryz.ntmps29
 go_wp2_with fail
 rw [<-hV]
 clear hV
 refine K1.o.mono ?_
 rintro e W1 ⟨why,rfl,hwhy,hb2⟩
 have hB:Ov w W1:=HB1.o.trans (hb2.mono HB1.o.size)
 obtain ⟨d0,d1,d2,d3,d4,d5,d6,d7⟩:=rc8 (HRV.o.over hb2)
 have hz1:=HZ8.o.over hb2
 obtain ⟨e0,e1,e2,e3,e4,e5,e6,e7⟩:=rc8 hz1.row
 have f0:=hz1.fz 0
 have f1:=hz1.fz 1
 have f2:=hz1.fz 2
 have f3:=hz1.fz 3
 have f4:=hz1.fz 4
 have f5:=hz1.fz 5
 have f6:=hz1.fz 6
 have f7:=hz1.fz 7
 have HB:=Aa hB
 have HZ1:=Aa hz1
 have HWH:=Aa hwhy
 have HB2:=Aa hb2
 clear c0 c1 c2 c3 c4 c5 c6 c7 hb2 K1 hB hz1 hwhy
 by_cases z:why=0
 rotate_left
 ·have zb:(why == 0)=false:=by simpa using z
  have HZN:Hx (why≠0):=z
  clear z
  go_wp2_with fail
  have hrF:=HZ1.o.fill (zd U 0) (O none 0 0) (O none 0 0) (O none 0 0) (O none 0 0) (O none 0 0) (O none 0 0) (O none 0 0)
  unfold GJ at hrF
  obtain ⟨r0,r1,r2,r3,r4,r5,r6,r7⟩:=rc8 hrF
  refine bodyPost_ret (v:=zj #[zg #[zd U 0,O none 0 0,O none 0 0,O none 0 0,O none 0 0,O none 0 0,O none 0 0,O none 0 0],zd U why]) (by simp [results,Tryz.results29,go_sem,r0,r1,r2,r3,r4,r5,r6,r7]) rfl ?_
  exact ⟨((((((((HB.o.setCell (by simp) _).setCell (by simp) _).setCell (by simp) _).setCell (by simp) _).setCell (by simp) _).setCell (by simp) _).setCell (by simp) _).setCell (by simp) _),why,HWH.o,Or.inl ⟨HZN.o,rfl⟩⟩
 subst z
 have hX:=(HWH.o.1 rfl).1
 obtain ⟨q1,q2,q3,q4,q5,q6,q7⟩:=Fu HP.o
 have hfew:=Lz hX q5 q3 q4 q2
 have hln:=(FK hX ch).2.1
 have hm:=hX.many.1
 have HF:=Aa hfew
 have HL:Hx (nd.length=An kf fs+Aj kf l/\nd.length<=1000):=by
  have h1:nd.length=An kf fs+Aj kf l:=by rw [HND.o];exact hln.nd
  exact ⟨h1,by omega⟩
 have KN:=Aa (Fv K kf m ga gn gc sa sn sc ya yn yc oa on oc va vn vc fa fn fc ba bn bd gs sp ls ms vs fs l ch W1 (HP.o.over HB.o) hX)
 clear hX hfew hln hm q1 q2 q3 q4 q5 q6 q7
 go_wp2_with fail
 refine KN.o.mono ?_
 rintro e W2 ⟨b,bv,bi,bs,cv,fv,wn,rfl,hNI,hsz,hb3⟩
 have n13:W2.cell? ⟨b,13,none⟩=some (O (some ⟨bs,0,none⟩) nd.length nd.length):=by rw [HND.o];exact hNI.row 13 _ rfl
 have hnr:Ad (nd.map Value.bool) W2 bs:=by rw [HND.o];exact hNI.nd
 have hbsl:bs < W2.heap.size:=(hNI.fz bs (Or.inr (Or.inr (Or.inr rfl)))).2.1
 obtain ⟨nl,hnl⟩:=nm nd.length
 rw [<-hnl] at n13
 have hba:Ov W2 (W2.alloc (zf #[O (some ⟨bs,0,none⟩) nl nl,zd U 0] 160)):=bA _ _
 obtain ⟨W3,hW3⟩:=nm (W2.alloc (zf #[O (some ⟨bs,0,none⟩) nl nl,zd U 0] 160))
 have hrc:Ad [O (some ⟨bs,0,none⟩) nl nl,zd U 0] W3 W2.heap.size:=by rw [hW3];exact Ay W2 [O (some ⟨bs,0,none⟩) nl nl,zd U 0] 160
 have hfc:∀ j,W3.frozen? ⟨W2.heap.size,j,none⟩=false:=fun j=>by rw [hW3];simp [go_sem]
 rw [<-hW3] at hba
 have hCI:CI bs nd W2.heap.size 0 W3:=⟨by rw [<-hnl];exact hrc,hfc,hnr.over hba,by omega⟩
 have hb13:Ov W1 W3:=hb3.trans (hba.mono hb3.size)
 have KP:=Aa (LC K kf bs nd m ga gn gc sa sn sc ya yn yc oa on oc va vn vc fa fn fc ba bn bd gs sp ls ms vs fs l W2 W3 W2.heap.size ((HP.o.over HB.o).over hb3) HF.o HL.o.2 (by rw [HL.o.1];exact Nat.le_refl _) hba (Nat.le_refl _) hCI (Or.inl (Nat.lt_of_lt_of_le hbsl hba.size)))
 obtain ⟨d0,d1,d2,d3,d4,d5,d6,d7⟩:=co8 (Ag hb3 (bA W2 (zf #[O (some ⟨bs,0,none⟩) nl nl,zd U 0] 160))) d0 d1 d2 d3 d4 d5 d6 d7
 have HB23:=Aa hb3
 have HB13:=Aa hb13
 clear hnr hNI hsz hb3 hbsl hnl hrc hfc hba hCI hb13 e0 e1 e2 e3 e4 e5 e6 e7 f0 f1 f2 f3 f4 f5 f6 f7 KN
 go_wp2_with fail
 rw [<-hW3]
 clear hW3 n13
 refine KP.o.mono ?_
 rintro e W4 ⟨ga2,gc2,sa2,sc2,ya2,yc2,oa2,oc2,va2,vc2,fa2,fc2,ba2,bd2,rfl,hPA,hb4⟩
 have hb14:Ov W1 W4:=HB23.o.trans (hb4.mono HB23.o.size)
 have hz4:=HZ1.o.over hb14
 obtain ⟨e0,e1,e2,e3,e4,e5,e6,e7⟩:=rc8 hz4.row
 have f0:=hz4.fz 0
 have f1:=hz4.fz 1
 have f2:=hz4.fz 2
 have f3:=hz4.fz 3
 have f4:=hz4.fz 4
 have f5:=hz4.fz 5
 have f6:=hz4.fz 6
 have f7:=hz4.fz 7
 have HZ4:=Aa hz4
 have HPA:=Aa hPA
 have HLT:Hx (w.heap.size+1 < W3.heap.size):=by show _ < _;have h1:=HSV.o;have h2:=HB2.o.size;have h3:=HB13.o.size;omega
 have HB14:Hx (Ov w W4):=HB.o.trans (hb14.mono HB.o.size)
 obtain ⟨gl,hgl⟩:=nm gs.length
 obtain ⟨sl,hsl⟩:=nm sp.length
 obtain ⟨yl,hyl⟩:=nm ls.length
 obtain ⟨ol,hol⟩:=nm ms.length
 obtain ⟨vl,hvl⟩:=nm vs.length
 obtain ⟨fl,hfl⟩:=nm fs.length
 obtain ⟨bl,hbl⟩:=nm (A5 nd kf l (An kf fs)).length
 rw [<-hgl,<-hsl,<-hyl,<-hol,<-hvl,<-hfl,<-hbl]
 have HNM:=Aa (And.intro hgl (And.intro hsl (And.intro hyl (And.intro hol (And.intro hvl (And.intro hfl hbl))))))
 clear hPA hb4 hb14 hz4 d0 d1 d2 d3 d4 d5 d6 d7 hgl hsl hyl hol hvl hfl hbl
 go_wp2_with fail
 have hrF:=HZ4.o.fill (zd U m) (O ga2 gl gc2) (O sa2 sl sc2) (O ya2 yl yc2) (O oa2 ol oc2) (O va2 vl vc2) (O fa2 fl fc2) (O ba2 bl bd2)
 unfold GJ at hrF
 obtain ⟨r0,r1,r2,r3,r4,r5,r6,r7⟩:=rc8 hrF
 refine bodyPost_ret (v:=zj #[zg #[zd U m,O ga2 gl gc2,O sa2 sl sc2,O ya2 yl yc2,O oa2 ol oc2,O va2 vl vc2,O fa2 fl fc2,O ba2 bl bd2],zd U 0]) (by simp [results,Tryz.results29,go_sem,r0,r1,r2,r3,r4,r5,r6,r7]) rfl ?_
 refine ⟨((((((((HB14.o.setCell (by simp) _).setCell (by simp) _).setCell (by simp) _).setCell (by simp) _).setCell (by simp) _).setCell (by simp) _).setCell (by simp) _).setCell (by simp) _),0,⟨fun _=>HWH.o.1 trivial,fun _=>rfl⟩,Or.inr ⟨rfl,ga2,gc2,sa2,sc2,ya2,yc2,oa2,oc2,va2,vc2,fa2,fc2,ba2,bd2,by rw [HNM.o.1,HNM.o.2.1,HNM.o.2.2.1,HNM.o.2.2.2.1,HNM.o.2.2.2.2.1,HNM.o.2.2.2.2.2.1,HNM.o.2.2.2.2.2.2],?_⟩⟩
 exact ((((((((HPA.o.set (b:=w.heap.size+1) (j:=0) (u:=zd U m) HLT.o).set (b:=w.heap.size+1) (j:=1) (u:=O ga2 gl gc2) HLT.o).set (b:=w.heap.size+1) (j:=2) (u:=O sa2 sl sc2) HLT.o).set (b:=w.heap.size+1) (j:=3) (u:=O ya2 yl yc2) HLT.o).set (b:=w.heap.size+1) (j:=4) (u:=O oa2 ol oc2) HLT.o).set (b:=w.heap.size+1) (j:=5) (u:=O va2 vl vc2) HLT.o).set (b:=w.heap.size+1) (j:=6) (u:=O fa2 fl fc2) HLT.o).set (b:=w.heap.size+1) (j:=7) (u:=O ba2 bl bd2) HLT.o).self
end Go.Proofs.YtfffpjkcfnekaaaGreat.Ex
