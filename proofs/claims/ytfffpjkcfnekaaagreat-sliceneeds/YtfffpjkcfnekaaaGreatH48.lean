/- What a run is asked for, by the document's answer: it answers something. -/
import Derived.Test.YtfffpjkcfnekaaaGreatH47
set_option linter.unusedVariables false
set_option maxHeartbeats 8000000
set_option maxRecDepth 100000
namespace Go.Proofs.YtfffpjkcfnekaaaGreat.Ex
open Go.RowKit
open Go.Value renaming slice -> O, int -> zd, bool -> ze, agg -> zg, pointer -> zi, tuple -> zj
open Go.IntKind renaming i64 -> U
open Go.Obj renaming cells -> zf
open Go.Ending renaming returned -> zh
theorem Ho (K kf:Nat) (m:Int) (ga gn gc sa sn sc ya yn yc oa on oc va vn vc fa fn fc ba bn bd gs sp ls ms vs fs l) (xa:Option Addr) (xn xc:Nat) (ins) (fuel:Int) (w:World) (h:Bf K kf m ga gn gc sa sn sc ya yn yc oa on oc va vn vc fa fn fc ba bn bd gs sp ls ms vs fs l w) (hx:Bm w (O xa xn xc) ins) (hX:Ey.xP K kf m vn yn on sn gs sp ls ms vs fs l) :
  Calls Tryz.prog 34 #[zg #[zd U m,O ga gn gc,O sa sn sc,O ya yn yc,O oa on oc,O va vn vc,O fa fn fc,O ba bn bd],O xa xn xc,zd U fuel] w fun e w'=>∃ why:Int,e=zh (zd U why)/\(why=0->xn=yn)/\Ov w w':=by
 have hb0:Ov w (w.alloc (zf #[zd U m,O ga gn gc,O sa sn sc,O ya yn yc,O oa on oc,O va vn vc,O fa fn fc,O ba bn bd] 31)):=bA w _
 have K37:=Aa (Je K kf m ga gn gc sa sn sc ya yn yc oa on oc va vn vc fa fn fc ba bn bd gs sp ls ms vs fs l _ (h.over hb0) hX)
 obtain ⟨c0,c1,c2,c3,c4,c5,c6,c7⟩:=rc8 (Ay w [zd U m,O ga gn gc,O sa sn sc,O ya yn yc,O oa on oc,O va vn vc,O fa fn fc,O ba bn bd] 31)
 obtain ⟨hxm,xao,xcap,hxe,hel⟩:=hx
 injection hxe with e1 e2 e3
 have HXN:=Aa e2
 have HEL:Hx (ins≠[]->∃ b off,xa=some ⟨b,off,none⟩/\∀ i (h:i < ins.length),∃ u,w.cell? ⟨b,off+i,none⟩=some u/\Aq w u ins[i]/\ins[i].length<=9223372036854775807):=by rw [e1];exact hel
 have hxn:xn<=9223372036854775807:=by rw [e2];exact hxm
 have HB0:=Aa hb0
 clear h hX hb0 hxm hel e1 e2 e3
 go_enter Tryz.func34,Tryz.ntmps34
 go_wp2_with fail
 refine K37.o.mono ?_
 rintro e W1 ⟨rfl,hb1⟩
 obtain ⟨d0,d1,d2,d3,d4,d5,d6,d7⟩:=co8 hb1 c0 c1 c2 c3 c4 c5 c6 c7
 have HB1:Hx (Ov w W1):=HB0.o.trans (hb1.mono HB0.o.size)
 clear hb1 c0 c1 c2 c3 c4 c5 c6 c7 K37
 by_cases hy:xn=yn
 rotate_left
 ·have yb:((xn:Int) == (yn:Int))=false:=by simp;omega
  go_wp2_with fail
  go_ret
  exact ⟨_,rfl,fun h=>absurd h (by decide),HB1.o⟩
 subst hy
 go_wp2_with fail
 go_loopw [8] (fun i wr=>∃ j:Nat,j<=xn/\i=zd U j/\Ov w wr) (fun i _=>xn - (intOf i).toNat)
 case atStart=>exact ⟨0,Nat.zero_le _,rfl,HB1.o⟩
 case round=>
 obtain ⟨j,hj,rfl,hB⟩:=hrel
 by_cases hlt:j < xn
 ·have hji:j < ins.length:=by have h1:=HXN.o;omega
  obtain ⟨b,off,hao,hel⟩:=HEL.o (by intro hh;rw [hh] at hji;simp at hji)
  subst hao
  obtain ⟨u,k0,hu,hul⟩:=hel j hji
  obtain ⟨ua,uc,he,hu2⟩:=id hu
  subst he
  replace k0:=Ab hB _ _ k0
  obtain ⟨ul,hule⟩:=nm ins[j].length
  rw [<-hule] at k0 hul
  have hjn:(j:Int) < (xn:Int):=by omega
  have HB:=Aa hB
  clear hB hu hu2 hel hule
  by_cases h100:100 < ul
  ·have g1:decide ((100:Int) < (ul:Int))=true:=by simp;omega
   go_wp2_with fail
   go_ret
   first | exact ⟨_,rfl,fun _=>rfl,HB.o⟩ | exact ⟨_,rfl,HB.o⟩ | exact ⟨⟨_,rfl⟩,HB.o⟩
  ·have g1:decide ((100:Int) < (ul:Int))=false:=by simp;omega
   go_wp2_with fail
   exact ⟨⟨j+1,by omega,by go_num,HB.o⟩,by simp [intOf];omega⟩
 have hje:xn=j:=by omega
 subst hje
 have HB2:=Aa hB
 clear hB hlt hj
 go_wp2_with fail
 go_loopw [9] (fun i wr=>∃ j:Nat,j<=xn/\i=zd U j/\Ov w wr) (fun i _=>xn - (intOf i).toNat)
 case atStart=>exact ⟨0,Nat.zero_le _,rfl,HB2.o⟩
 case round=>
 obtain ⟨j,hj,rfl,hB⟩:=hrel
 by_cases hlt:j < xn
 ·have hji:j < ins.length:=by have h1:=HXN.o;omega
  obtain ⟨b,off,hao,hel⟩:=HEL.o (by intro hh;rw [hh] at hji;simp at hji)
  subst hao
  obtain ⟨u,k0,hu,hul⟩:=hel j hji
  obtain ⟨ua,uc,he,hu2⟩:=id hu
  subst he
  replace k0:=Ab hB _ _ k0
  obtain ⟨ul,hule⟩:=nm ins[j].length
  rw [<-hule] at k0 hul
  have hjn:(j:Int) < (xn:Int):=by omega
  have HEI:Hx (ins[j]≠[]->∃ b off,ua=some ⟨b,off,none⟩/\∀ i (h:i < ins[j].length),w.cell? ⟨b,off+i,none⟩=some (zd U ins[j][i])):=fun hne=>by
   obtain ⟨ao,cap,he,h2⟩:=hu
   injection he with e1 e2 e3
   obtain ⟨b2,off2,h3,h4⟩:=h2 hne
   exact ⟨b2,off2,e1.trans h3,h4⟩
  have HUL:=Aa hule
  have HK0:Hx (∀ X,Ov wr X->X.cell? ⟨b,off+j,none⟩=some (O ua ul uc)):=fun X hX=>Ab hX _ _ k0
  have HB:=Aa hB
  clear hu hu2 hel hule
  go_wp2_with fail
  go_loopw [10] (fun ii wz=>∃ q:Nat,q<=ul/\ii=zd U q/\Ov w wz/\wz.cell? ⟨b,off+j,none⟩=some (O ua ul uc)) (fun ii _=>ul - (intOf ii).toNat)
  case atStart=>exact ⟨0,Nat.zero_le _,rfl,HB.o,k0⟩
  case round=>
   obtain ⟨q,hq,rfl,hBq,k1⟩:=hrel
   by_cases hql:q < ul
   ·have hqi:q < ins[j].length:=by rw [<-HUL.o];exact hql
    obtain ⟨b2,off2,hua,h4⟩:=HEI.o (by intro hh;rw [hh] at hqi;simp at hqi)
    subst hua
    have x1:=Ab hBq _ _ (h4 q hqi)
    obtain ⟨xq,hxq⟩:=nm (ins[j][q])
    rw [<-hxq] at x1
    have hqn:(q:Int) < (ul:Int):=by omega
    obtain ⟨r,hr⟩:=nm (Cs xq)
    have KN:=Aa (FT xq)
    rw [<-hr] at KN
    have HBq:=Aa hBq
    have HK1:=Aa k1
    clear h4 hxq hr hBq
    go_wp2_with fail
    refine (KN.o _).mono ?_
    rintro e w' ⟨rfl,rfl⟩
    cases r with
    | false=>
     go_wp2_with fail
     go_ret
     first | exact ⟨_,rfl,fun _=>rfl,HBq.o⟩ | exact ⟨_,rfl,HBq.o⟩ | exact ⟨⟨_,rfl⟩,HBq.o⟩
    | true=>
     go_wp2_with fail
     exact ⟨⟨q+1,by omega,by go_num,HBq.o,HK1.o⟩,by simp [intOf];omega⟩
   ·have hqe:ul=q:=by omega
    subst hqe
    have HBq:=Aa hBq
    clear hBq hql hq
    go_wp2_with fail
    exact ⟨⟨j+1,by omega,by go_num,HBq.o⟩,by simp [intOf];omega⟩
 have hje:xn=j:=by omega
 subst hje
 have HB3:=Aa hB
 obtain ⟨r,hr⟩:=nm (decide (0<=fuel/\fuel<=2000))
 have KB:=Aa (btw (r:=r) hr.symm)
 clear hB hlt hj hr
 go_wp2_with fail
 refine (KB.o.o _).mono ?_
 rintro e w' ⟨rfl,rfl⟩
 cases r with
 | false=>
  go_wp2_with fail
  go_ret
  first | exact ⟨_,rfl,fun _=>rfl,HB3.o⟩ | exact ⟨_,rfl,HB3.o⟩ | exact ⟨⟨_,rfl⟩,HB3.o⟩
 | true=>
  go_wp2_with fail
  go_ret
  first | exact ⟨_,rfl,fun _=>rfl,HB3.o⟩ | exact ⟨_,rfl,HB3.o⟩ | exact ⟨⟨_,rfl⟩,HB3.o⟩
end Go.Proofs.YtfffpjkcfnekaaaGreat.Ex
