/- The labels' check: with what it is given up. -/
import Derived.Test.YtfffpjkcfnekaaaGreatH09
import Derived.Test.YtfffpjkcfnekaaaGreatH14
set_option linter.unusedVariables false
set_option maxHeartbeats 8000000
set_option maxRecDepth 100000
namespace Go.Proofs.YtfffpjkcfnekaaaGreat.Ex.Ez
open Go.RowKit
open Go.Value renaming slice -> O, int -> zd, bool -> ze, agg -> zg, pointer -> zi, tuple -> zj
open Go.IntKind renaming i64 -> U
open Go.Obj renaming cells -> zf
open Go.Ending renaming returned -> zh
def kE (v:Bool × Lab):Int:=if (v.1=false->v.2.r=[]/\v.2.w=[]) then 0 else 1
def eL (m:Int) (gs:List (Int × Int)) (L:List Lab) (vs:List (Bool × Lab)):Int:=Bs [Bs (L.map fun b=>Co m gs b),Bs (vs.map fun v=>Co m gs v.2),Bs (vs.map kE)]
theorem FQ {v:Bool × Lab} (h:v.1=false->v.2.r=[]/\v.2.w=[]):kE v=0:=by unfold kE;rw [if_pos h]
theorem JW {v:Bool × Lab} (h:¬ (v.1=false->v.2.r=[]/\v.2.w=[])):kE v=1:=by unfold kE;rw [if_neg h]
theorem Cb {α:Type} {f:α->Int} {l:List α} (h:∀ a∈l,f a=0):Bs (l.map f)=0:=CU (by intro x hx;obtain ⟨a,ha,rfl⟩:=List.mem_map.1 hx;exact h a ha)
abbrev Jj (w:World) (m:Int) (ga:Option Addr) (gn gc:Nat) (va:Option Addr) (vn vc:Nat) (Wz:World):Prop:=Wz.cell? ⟨w.heap.size,0,none⟩=some (zd U m)/\Wz.cell? ⟨w.heap.size,1,none⟩=some (O ga gn gc)/\Wz.cell? ⟨w.heap.size,5,none⟩=some (O va vn vc)
theorem Df (m:Int) (ga gn gc) (sa sn sc) (ya yn yc oa on oc va vn vc) (fa fn fc ba bn bc gs ls ms vs) (w:World) (hg:Bk w (O ga gn gc) gs) (h1:BC w (O ya yn yc) ls) (h2:BC w (O oa on oc) ms) (h3:C7 w (O va vn vc) vs)
  (hy:yn<=5) (ho:on<=5) (hyc:ya=none->yc=0) (hoc:oa=none->oc=0) :
  Calls Tryz.prog 174 #[zg #[zd U m,O ga gn gc,O sa sn sc,O ya yn yc,O oa on oc,O va vn vc,O fa fn fc,O ba bn bc]] w (BB (eL m gs (ls++ms) vs) w):=by
 obtain ⟨E,hE⟩:∃ E:Int,E=eL m gs (ls++ms) vs:=⟨_,rfl⟩
 rw [<-hE]
 unfold eL at hE
 have HE:=Aa hE
 clear hE
 have hbel:Ov w ((w.alloc (zf #[zd U m,O ga gn gc,O sa sn sc,O ya yn yc,O oa on oc,O va vn vc,O fa fn fc,O ba bn bc] 184)).alloc (zf #[O ya yn yc,O oa on oc] 26)):=(bA w _).alloc (by simp) _
 have hrow:Ad [O ya yn yc,O oa on oc] ((w.alloc (zf #[zd U m,O ga gn gc,O sa sn sc,O ya yn yc,O oa on oc,O va vn vc,O fa fn fc,O ba bn bc] 184)).alloc (zf #[O ya yn yc,O oa on oc] 26)) (w.heap.size+1):=by
  have r:=Ad.new [O ya yn yc,O oa on oc] 26 (w.alloc (zf #[zd U m,O ga gn gc,O sa sn sc,O ya yn yc,O oa on oc,O va vn vc,O fa fn fc,O ba bn bc] 184))
  have hs:(w.alloc (zf #[zd U m,O ga gn gc,O sa sn sc,O ya yn yc,O oa on oc,O va vn vc,O fa fn fc,O ba bn bc] 184)).heap.size=w.heap.size+1:=by simp
  rw [hs] at r
  exact r
 have K1:=Aa (E6 (w.heap.size+1) ya yn yc oa on oc ls ms ((w.alloc (zf #[zd U m,O ga gn gc,O sa sn sc,O ya yn yc,O oa on oc,O va vn vc,O fa fn fc,O ba bn bc] 184)).alloc (zf #[O ya yn yc,O oa on oc] 26)) hrow (h1.over hbel) (h2.over hbel) hy ho hyc hoc)
 have KL:=Aa fun (bl:Lab) (pr pw:Value) (W:World) (hW:Ov w W) (hr:Az W pr bl.r) (hw:Az W pw bl.w)=>Io m (O ga gn gc) gs pr pw bl W (Bq hg hW) hr hw
 have KP:=Aa CP
 have KM:=Aa AM
 have hvl:vn<=9223372036854775807:=by obtain ⟨hm,a,c,he,-⟩:=h3;injection he with e1 e2 e3;rw [e2];exact hm
 have hlen:(ls++ms).length<=10:=by
  obtain ⟨-,a,c,he,-⟩:=h1
  injection he with e1 e2 e3
  obtain ⟨-,a',c',he',-⟩:=h2
  injection he' with e1' e2' e3'
  simp
  omega
 have HV:=Aa h3
 have hvs:vn=vs.length:=by obtain ⟨hm,a,c,he,-⟩:=h3;injection he
 have HVS:=Aa hvs
 clear hvs
 have zr:=CB w [zd U m,O ga gn gc,O sa sn sc,O ya yn yc,O oa on oc,O va vn vc,O fa fn fc,O ba bn bc] 184 (zf #[O ya yn yc,O oa on oc] 26)
 have c0:=zr 0 _ rfl
 have c1:=zr 1 _ rfl
 have c3:=zr 3 _ rfl
 have c4:=zr 4 _ rfl
 have c5:=zr 5 _ rfl
 clear zr
 clear h1 h2 h3 hg hrow
 go_enter Tryz.func174,Tryz.ntmps174
 go_wp2_with fail
 refine (K1.o).mono ?_
 rintro e w1 ⟨v,xs,rfl,hown,hcl,hb1⟩
 have hB1:=hbel.trans (hb1.mono hbel.size)
 obtain ⟨d0,d1,d5⟩:=co3 hb1 c0 c1 c5
 obtain ⟨va',vn',vc',hvf⟩:∃ a n c,v=O a n c:=by
  rcases hown.2 with ⟨h,_⟩ | ⟨g,cap,cur,h,_⟩
  ·exact ⟨_,_,_,h⟩
  ·exact ⟨_,_,_,h⟩
 have hnn:vn'=(ls++ms).length:=by
  rcases hown.2 with ⟨h,h'⟩ | ⟨g,cap,cur,h,_⟩
  ·rw [hvf] at h;injection h with e1 e2 e3;omega
  ·rw [hvf] at h;injection h
 subst hvf
 have HO:=Aa hown
 have HCL:=Aa hcl
 have HNN:=Aa hnn
 have hn10:vn'<=10:=by rw [hnn];exact hlen
 clear hown hcl hnn hb1 c0 c1 c3 c4 c5 hbel K1
 go_wp2_with fail
 go_loopw [17] (fun i wr=>∃ n:Nat,n<=vn'/\i=zd U n/\(∀ b∈(ls++ms).take n,Co m gs b=0)/\(Jj w m ga gn gc va vn vc wr)/\Ov w1 wr) (fun i _=>vn' - (intOf i).toNat)
 case atStart=>exact ⟨0,Nat.zero_le _,rfl,by simp,⟨d0,d1,d5⟩,Below.refl _ _⟩
 case round=>
  clear d0 d1 d5
  obtain ⟨n,hn,rfl,hok1,⟨d0,d1,d5⟩,hB⟩:=hrel
  have HOK1:=Aa hok1
  clear hok1
  have hBw:=hB1.trans (hB.mono hB1.size)
  by_cases hnl:n < vn'
  ·have hnd:n < (ls++ms).length:=by rw [<-HNN.o];exact hnl
   obtain ⟨pr,pw,e0,e1,hr,hw⟩:=HCL.o.at n hnd
   obtain ⟨g,cap,hgf,hgb,hgl,hgc⟩:=EN HO.o (by omega)
   have a0:=Ab hB _ _ (hgc _ _ e0)
   have a1:=Ab hB _ _ (hgc _ _ e1)
   rw [Addr.add_lit,Nat.zero_add] at a0 a1
   injection hgf with f1 f2 f3
   subst f1
   obtain ⟨ra,rn,rc,hrf⟩:=Bc hr
   obtain ⟨wa,wn,wc,hwf⟩:=Bc hw
   subst hrf hwf
   have hba:=bA wr (zf #[O ra rn rc,O wa wn wc] 39)
   have hBa:=hBw.trans (hba.mono hBw.size)
   have hB1a:=Ag hB hba
   have K2:=Aa (KL.o (ls++ms)[n] _ _ _ hBa (Au hr hB1a) (Au hw hB1a))
   obtain ⟨f0,f1,f5⟩:=co3 hba d0 d1 d5
   obtain ⟨cr,hcr⟩:=nm (Co m gs (ls++ms)[n])
   rw [<-hcr] at K2
   have HCR:=Aa hcr
   clear hgc hr hw e0 e1 hcr f2 f3
   go_wp2_with fail
   refine (K2.o).mono ?_
   rintro e w2 ⟨rfl,hb2⟩
   have hB2:=Ag hB1a hb2
   have hBw2:=hB1.trans (hB2.mono hB1.size)
   obtain ⟨r0,r1,r5⟩:=co3 hb2 f0 f1 f5
   clear K2 hb2 hBa hB1a hba hB hBw a0 a1 d0 d1 d5 f0 f1 f5
   go_wp2_with fail
   refine (KP.o _ _).mono ?_
   rintro e wz ⟨he,rfl⟩
   rcases he with ⟨hz,rfl⟩ | ⟨hz,rfl⟩
   rotate_left
   ·have hz2:cr≠0:=by simpa using hz
    have h0:Bs ((ls++ms).map fun b=>Co m gs b)=cr:=by
     rw [HCR.o]
     exact Ds (f:=fun b=>Co m gs b) hnd HOK1.o (by show Co m gs (ls++ms)[n]≠0;rw [<-HCR.o];exact hz2)
    have HN:E=cr:=by rw [HE.o,f3a (by rw [h0];exact hz2),h0]
    have HNX:=Aa hz2
    clear h0 hz hz2 HCR
    subst HN
    unfold Ak
    go_wp2_with fail
    exact ⟨rfl,Or.inr ⟨HNX.o,rfl⟩,hBw2⟩
   have HZ:=Aa (show cr=0 by simpa using hz)
   clear hz
   go_wp2_with fail
   exact ⟨⟨n+1,by omega,by go_num,B0 hnd HOK1.o (HCR.o.symm.trans HZ.o),⟨r0,r1,r5⟩,hB2⟩,by simp [intOf];omega⟩
  ·obtain ⟨w2,hw2⟩:=nm wr
   rw [<-hw2] at d0 d1 d5 hBw ⊢
   have HALL1:=Aa (B3 (by rw [<-HNN.o];omega) HOK1.o)
   clear hw2 hB HO HCL HOK1
   go_wp2_with fail
   go_loopw [32] (fun i wr=>∃ n:Nat,n<=vn/\i=zd U n/\(∀ v∈vs.take n,Co m gs v.2=0)/\(Jj w m ga gn gc va vn vc wr)/\Ov w2 wr) (fun i _=>vn - (intOf i).toNat)
   case atStart=>exact ⟨0,Nat.zero_le _,rfl,by simp,⟨d0,d1,d5⟩,Below.refl _ _⟩
   case round=>
    clear d0 d1 d5 hnl hn
    obtain ⟨n,hn,rfl,hok1,⟨d0,d1,d5⟩,hB⟩:=hrel
    have HOK1:=Aa hok1
    clear hok1
    have hBw3:=hBw.trans (hB.mono hBw.size)
    by_cases hnl:n < vn
    ·obtain ⟨-,ao,cap,he,hel⟩:=HV.o.over hBw3
     injection he with e1 e2 e3
     have hne:vs≠[]:=by intro h;rw [h] at e2;simp at e2;omega
     obtain ⟨b,off,hbo,hel2⟩:=hel hne
     have hnv:n < vs.length:=by omega
     obtain ⟨pr,pw,a0,a1,a2,hr,hw⟩:=hel2 n hnv
     have e1':=e1.trans hbo
     subst e1'
     obtain ⟨kn,hkn⟩:=nm (vs[n].1)
     obtain ⟨lb,hlb⟩:=nm (vs[n].2)
     rw [<-hkn] at a0
     rw [<-hlb] at hr hw
     obtain ⟨ra,rn,rc,hrf⟩:=Bc hr
     obtain ⟨wa,wn,wc,hwf⟩:=Bc hw
     subst hrf hwf
     have HLB:=Aa hlb
     clear hkn hlb hel hel2 e1 e2 e3 hbo
     have hba:=bA wr (zf #[ze kn,O ra rn rc,O wa wn wc] 41)
     have hBa:=hBw3.trans (hba.mono hBw3.size)
     have hB1a:=Ag hB hba
     have K2:=Aa (KL.o lb _ _ _ hBa (Au hr hba) (Au hw hba))
     obtain ⟨f0,f1,f5⟩:=co3 hba d0 d1 d5
     obtain ⟨cr,hcr⟩:=nm (Co m gs lb)
     rw [<-hcr] at K2
     have HCR:=Aa hcr
     clear hr hw hcr
     go_wp2_with fail
     refine (K2.o).mono ?_
     rintro e w3 ⟨rfl,hb2⟩
     have hB2:=Ag hB1a hb2
     have hBw2:=hBw.trans (hB2.mono hBw.size)
     obtain ⟨r0,r1,r5⟩:=co3 hb2 f0 f1 f5
     clear K2 hb2 hBa hB1a hba hB hBw3 a0 a1 a2 d0 d1 d5 f0 f1 f5
     go_wp2_with fail
     refine (KP.o _ _).mono ?_
     rintro e wz ⟨he,rfl⟩
     rcases he with ⟨hz,rfl⟩ | ⟨hz,rfl⟩
     rotate_left
     ·have hz2:cr≠0:=by simpa using hz
      have h0:Bs (vs.map fun v=>Co m gs v.2)=cr:=by
       rw [HCR.o,HLB.o]
       exact Ds (f:=fun v=>Co m gs v.2) hnv HOK1.o (by show Co m gs vs[n].2≠0;rw [<-HLB.o,<-HCR.o];exact hz2)
      have HN:E=cr:=by rw [HE.o,f3b (Cb HALL1.o) (by rw [h0];exact hz2),h0]
      have HNX:=Aa hz2
      clear h0 hz hz2 HCR
      subst HN
      unfold Ak
      go_wp2_with fail
      exact ⟨rfl,Or.inr ⟨HNX.o,rfl⟩,hBw2⟩
     have HZ:=Aa (show cr=0 by simpa using hz)
     clear hz
     go_wp2_with fail
     exact ⟨⟨n+1,by omega,by go_num,B0 hnv HOK1.o (by rw [<-HLB.o];exact HCR.o.symm.trans HZ.o),⟨r0,r1,r5⟩,hB2⟩,by simp [intOf];omega⟩
    ·obtain ⟨w3,hw3⟩:=nm wr
     rw [<-hw3] at d0 d1 d5 hBw3 ⊢
     have HALL2:=Aa (B3 (by rw [<-HVS.o];omega) HOK1.o)
     clear hw3 hB hBw HOK1
     go_wp2_with fail
     go_loopw [48] (fun i wr=>∃ n:Nat,n<=vn/\i=zd U n/\(∀ v∈vs.take n,v.1=false->v.2.r=[]/\v.2.w=[])/\(Jj w m ga gn gc va vn vc wr)/\Ov w3 wr) (fun i _=>vn - (intOf i).toNat)
     case atStart=>exact ⟨0,Nat.zero_le _,rfl,by simp,⟨d0,d1,d5⟩,Below.refl _ _⟩
     case round=>
      clear d0 d1 d5 hnl hn
      obtain ⟨n,hn,rfl,hok1,⟨d0,d1,d5⟩,hB⟩:=hrel
      have HOK1:=Aa hok1
      clear hok1
      have hBw:=hBw3.trans (hB.mono hBw3.size)
      by_cases hnl:n < vn
      ·obtain ⟨-,ao,cap,he,hel⟩:=HV.o.over hBw
       injection he with e1 e2 e3
       have hne:vs≠[]:=by intro h;rw [h] at e2;simp at e2;omega
       obtain ⟨b,off,hbo,hel2⟩:=hel hne
       have hnv:n < vs.length:=by omega
       obtain ⟨pr,pw,a0,a1,a2,hr,hw⟩:=hel2 n hnv
       have e1':=e1.trans hbo
       subst e1'
       obtain ⟨kn,hkn⟩:=nm (vs[n].1)
       rw [<-hkn] at a0
       obtain ⟨ra,rn,rc,hrf⟩:=Bc hr
       obtain ⟨wa,wn,wc,hwf⟩:=Bc hw
       subst hrf hwf
       have HKN:Hx (kn=vs[n].1/\rn=vs[n].2.r.length/\wn=vs[n].2.w.length):=⟨hkn,DU hr,DU hw⟩
       clear hkn hel hel2 e1 e2 e3 hbo hr hw
       have HA:Hx (∀ ob:Obj,((wr.alloc ob).cell? ⟨w.heap.size,0,none⟩=some (zd U m)/\(wr.alloc ob).cell? ⟨w.heap.size,1,none⟩=some (O ga gn gc)/\(wr.alloc ob).cell? ⟨w.heap.size,5,none⟩=some (O (some ⟨b,off,none⟩) vn vc))/\Ov w3 (wr.alloc ob)/\Ov w (wr.alloc ob)):=fun ob=>by
        have hba:=bA wr ob
        exact ⟨⟨Ab hba _ _ d0,Ab hba _ _ d1,Ab hba _ _ d5⟩,Ag hB hba,hBw.trans (hba.mono hBw.size)⟩
       clear KL KP d0 d1 d5 hB
       have HNX:Hx ((kn=false->rn=0/\wn=0)->∀ v∈vs.take (n+1),v.1=false->v.2.r=[]/\v.2.w=[]):=fun h=>B0 hnv HOK1.o fun h0=>by
        obtain ⟨h1,h2,h3⟩:=HKN.o
        have:=h (h1.trans h0)
        exact ⟨List.eq_nil_of_length_eq_zero (by omega),List.eq_nil_of_length_eq_zero (by omega)⟩
       have HNG:Hx (¬ (kn=false->rn=0/\wn=0)->E=1):=Aa (fun hn=>by
        have hk1:kE vs[n]=1:=JW (fun h=>hn fun hk=>by
         obtain ⟨h1,h2,h3⟩:=HKN.o
         obtain ⟨q1,q2⟩:=h (h1.symm.trans hk)
         rw [q1] at h2
         rw [q2] at h3
         exact ⟨h2,h3⟩)
        rw [HE.o,f3c (Cb HALL1.o) (Cb HALL2.o),Ds (f:=kE) hnv (fun v hv=>FQ (HOK1.o v hv)) (by rw [hk1];decide),hk1])
       clear HKN HOK1
       cases kn
       all_goals go_wp2_with fail
       all_goals
        refine (KM.o _ _ _).mono ?_
        rintro e wz ⟨he,rfl⟩
        rcases he with ⟨hz,rfl⟩ | ⟨hz,rfl⟩
        ·have HZ:Hx (∀ v∈vs.take (n+1),v.1=false->v.2.r=[]/\v.2.w=[]):=HNX.o (by first | (intro h;cases h;done) | (intro _;simp at hz;done) | (intro _;simp at hz;omega) | (intro _;simp at *;omega))
         clear hz HNX HNG
         go_wp2_with fail
         exact ⟨⟨n+1,by omega,by go_num,HZ.o,(HA.o _).1,(HA.o _).2.1⟩,by simp [intOf];omega⟩
        ·have HN:E=1:=(HNG.o (by first | (simp at hz;done) | (intro hh;have hq:=hh (by simp);simp at hz;omega)))
         subst HN
         clear hz HNX HNG
         unfold Ak
         go_wp2_with fail
         exact ⟨rfl,Or.inr ⟨by decide,rfl⟩,(HA.o _).2.2⟩
      ·go_wp2_with fail
       go_end0
       exact ⟨Or.inl ⟨by rw [HE.o,f3c (Cb HALL1.o) (Cb HALL2.o)];exact Cb (fun v hv=>FQ (B3 (by rw [<-HVS.o];omega) HOK1.o v hv)),rfl⟩,hBw⟩
end Go.Proofs.YtfffpjkcfnekaaaGreat.Ex.Ez
namespace Go.Proofs.YtfffpjkcfnekaaaGreat.Ex.Ez
open Go.RowKit
open Go.Value renaming slice -> O, int -> zd, bool -> ze, agg -> zg, pointer -> zi, tuple -> zj
open Go.IntKind renaming i64 -> U
open Go.Obj renaming cells -> zf
open Go.Ending renaming returned -> zh
theorem J5 {g:Nat->Int} {N n:Nat} (hn:n < N) (h0:∀ i,i < n->g i=0) (h1:g n≠0):Bs ((List.range N).map g)=g n:=by
 have hl:n < (List.range N).length:=by simpa using hn
 have:=Ds (f:=g) (das:=List.range N) hl (fun a ha=>h0 a (by rw [List.take_range] at ha;simp at ha;omega)) (by simpa using h1)
 simpa using this
def fnE (K kf:Nat) (vn yn on:Nat) (fs:List FnD) (i:Nat):Int:=if h:i < fs.length then eF K vn yn on (i:Int) fs kf fs[i] else 0
theorem DM {K kf:Nat} {vn yn on:Nat} {fs:List FnD} {i:Nat} (h:i < fs.length):fnE K kf vn yn on fs i=eF K vn yn on (i:Int) fs kf fs[i]:=by unfold fnE;rw [dif_pos h]
def eP [dc:∀ p:Prop,Decidable p] (K kf:Nat) (m:Int) (vn yn on sn:Nat) (gs:List (Int × Int)) (sp:List Int) (ls ms:List Lab) (vs:List (Bool × Lab)) (fs:List FnD) (l:List D):Int:=
 if AX m gs=0 then if ((vn:Int)<=16/\(yn:Int)<=5/\(on:Int)<=5/\(fs.length:Int)<=5/\(sn:Int)<=m) then if (∀ x∈sp,0<=x/\x < m) then if eL m gs (ls++ms) vs=0 then if (((An kf fs:Nat):Int)+(Aj kf l:Nat)<=50/\Ey.dpF kf fs/\Ey.dps kf 1 l) then Bs [Bs ((List.range fs.length).map (fnE K kf vn yn on fs)),Bs (l.map (eS K vn yn on (fs.length:Int) fs kf))] else 2 else eL m gs (ls++ms) vs else 5 else 2 else AX m gs
open Classical in
theorem DN (K kf:Nat) (m:Int) (ga gn gc sa sn sc ya yn yc oa on oc va vn vc fa fn fc ba bn bc gs sp ls ms vs fs l) (w:World) (h:Bf K kf m ga gn gc sa sn sc ya yn yc oa on oc va vn vc fa fn fc ba bn bc gs sp ls ms vs fs l w) :
  Calls Tryz.prog 113 #[zg #[zd U m,O ga gn gc,O sa sn sc,O ya yn yc,O oa on oc,O va vn vc,O fa fn fc,O ba bn bc]] w (BB (eP K kf m vn yn on sn gs sp ls ms vs fs l) w):=by
 obtain ⟨E,hE⟩:∃ E:Int,E=eP K kf m vn yn on sn gs sp ls ms vs fs l:=⟨_,rfl⟩
 rw [<-hE]
 unfold eP at hE
 have HE:=Aa hE
 clear hE
 have hfx:fn=fs.length:=by obtain ⟨-,a,c,he,-⟩:=h.funcs;injection he
 have HFX:=Aa hfx
 clear hfx
 have hbel:Ov w (w.alloc (zf #[zd U m,O ga gn gc,O sa sn sc,O ya yn yc,O oa on oc,O va vn vc,O fa fn fc,O ba bn bc] 184)):=bA w _
 have HP:=Aa (h.over hbel)
 have KP:=Aa CP
 have KM:=Aa AM
 have KO:=Aa Ax
 have KA:=Aa (Go.Proofs.YtfffpjkcfnekaaaGreat.check_any m (O ga gn gc) gs)
 have hvl:vn<=9223372036854775807:=by obtain ⟨hm,a,c,he,-⟩:=h.vars;injection he with e1 e2 e3;rw [e2];exact hm
 obtain ⟨c0,c1,c2,c3,c4,c5,c6,c7⟩:=rc8 (Ay w [zd U m,O ga gn gc,O sa sn sc,O ya yn yc,O oa on oc,O va vn vc,O fa fn fc,O ba bn bc] 184)
 clear h
 go_enter Tryz.func113,Tryz.ntmps113
 go_wp2_with fail
 refine (KA.o _ (HP.o.grants)).mono ?_
 rintro e w1 ⟨rfl,hb1⟩
 obtain ⟨d0,d1,d2,d3,d4,d5,d6,d7⟩:=co8 hb1 c0 c1 c2 c3 c4 c5 c6 c7
 have hB1:=hbel.trans (hb1.mono hbel.size)
 have HP1:=Aa (HP.o.over hb1)
 obtain ⟨ce,hce⟩:=nm (AX m gs)
 rw [<-hce]
 have HCE:=Aa hce
 clear KA c0 c1 c2 c3 c4 c5 c6 c7 hb1 hbel hce HP
 go_wp2_with fail
 refine (KP.o _ _).mono ?_
 rintro e wz ⟨he,rfl⟩
 rcases he with ⟨hz,rfl⟩ | ⟨hz,rfl⟩
 rotate_left
 ·have hz2:ce≠0:=by simpa using hz
  have HN:E=ce:=by rw [HE.o,if_neg (by rw [<-HCE.o];exact hz2)];exact HCE.o.symm
  have HNX:=Aa hz2
  clear hz hz2 HCE
  subst HN
  unfold Ak
  go_wp2_with fail
  exact ⟨rfl,Or.inr ⟨HNX.o,rfl⟩,hB1⟩
 have HCHK:=Aa (show AX m gs=0 by rw [<-HCE.o];simpa using hz)
 clear hz HCE
 by_cases hlim:((vn:Int)<=16/\(yn:Int)<=5/\(on:Int)<=5/\(fn:Int)<=5/\(sn:Int)<=m)
 rotate_left
 ·have HL:=Aa hlim
  have HN:E=2:=by rw [HE.o,if_pos HCHK.o,if_neg (fun hx=>hlim (by rw [HFX.o];exact hx))]
  subst HN
  clear hlim
  go_wp2_with fail
  all_goals
   refine (KM.o _ _ _).mono ?_
   rintro e wz ⟨he,rfl⟩
   rcases he with ⟨hz,rfl⟩ | ⟨hz,rfl⟩
   ·exfalso
    have:=HL.o
    first | (simp at hz;done) | (simp at hz;omega)
   ·clear hz
    unfold Ak
    go_wp2_with fail
    exact ⟨rfl,Or.inr ⟨by decide,rfl⟩,hB1⟩
 have HLIM:Hx ((vn:Int)<=16/\(yn:Int)<=5/\(on:Int)<=5/\(fs.length:Int)<=5/\(sn:Int)<=m):=Aa (by rw [<-HFX.o];exact hlim)
 obtain ⟨l1,l2,l3,l4,l5⟩:=hlim
 go_wp2_with fail
 refine (KM.o _ _ _).mono ?_
 rintro e wz ⟨he,rfl⟩
 rcases he with ⟨hz,rfl⟩ | ⟨hz,rfl⟩
 rotate_left
 ·cases hz
 clear hz
 have hsn:sn=sp.length:=by obtain ⟨a,c,he,-⟩:=HP1.o.speak;injection he
 have hsl:sn<=9223372036854775807:=by rw [hsn];exact HP1.o.speakL
 have HSN:=Aa hsn
 clear hsn
 go_wp2_with fail
 go_loopw [53] (fun i wr=>∃ n:Nat,n<=sn/\i=zd U n/\(∀ x∈sp.take n,0<=x/\x < m)/\(wr.cell? ⟨w.heap.size,0,none⟩=some (zd U m)/\wr.cell? ⟨w.heap.size,1,none⟩=some (O ga gn gc)/\wr.cell? ⟨w.heap.size,2,none⟩=some (O sa sn sc)/\wr.cell? ⟨w.heap.size,3,none⟩=some (O ya yn yc)/\wr.cell? ⟨w.heap.size,4,none⟩=some (O oa on oc)/\wr.cell? ⟨w.heap.size,5,none⟩=some (O va vn vc)/\wr.cell? ⟨w.heap.size,6,none⟩=some (O fa fn fc)/\wr.cell? ⟨w.heap.size,7,none⟩=some (O ba bn bc))/\Ov wz wr) (fun i _=>sn - (intOf i).toNat)
 case atStart=>exact ⟨0,Nat.zero_le _,rfl,by simp,⟨d0,d1,d2,d3,d4,d5,d6,d7⟩,Below.refl _ _⟩
 case round=>
  clear d0 d1 d2 d3 d4 d5 d6 d7
  obtain ⟨n,hn,rfl,hok1,⟨d0,d1,d2,d3,d4,d5,d6,d7⟩,hB⟩:=hrel
  have HOK1:=Aa hok1
  clear hok1
  have hBw:=hB1.trans (hB.mono hB1.size)
  by_cases hnl:n < sn
  ·obtain ⟨a2,c2,he,hel⟩:=HP1.o.speak.over hB
   injection he with e1 e2 e3
   have hnd:n < sp.length:=by omega
   obtain ⟨b,off,hbo,hel2⟩:=hel (by intro h;rw [h] at hnd;simp at hnd)
   have q:=hel2 n hnd
   have e1':=e1.trans hbo
   subst e1'
   obtain ⟨x,hx⟩:=nm (sp[n])
   rw [<-hx] at q
   have HX:=Aa hx
   clear hel hel2 hx e1 e2 e3 hbo
   go_wp2_with fail
   refine (KO.o _ _ _).mono ?_
   rintro e wy ⟨rfl,rfl⟩
   obtain ⟨ok,hok⟩:=nm (decide (0<=x/\x < m))
   rw [<-hok]
   have HOK:=Aa hok
   clear hok
   go_wp2_with fail
   refine (KM.o _ _ _).mono ?_
   rintro e wx ⟨he,rfl⟩
   rcases he with ⟨hz,rfl⟩ | ⟨hz,rfl⟩
   rotate_left
   ·have HN:E=5:=by rw [HE.o,if_pos HCHK.o,if_pos HLIM.o,if_neg (fun hx=>by have h1:=HOK.o;rw [hz] at h1;have h2:=hx x (by rw [HX.o];exact List.getElem_mem _);simp at h1;omega)]
    subst HN
    clear hz
    unfold Ak
    go_wp2_with fail
    exact ⟨rfl,Or.inr ⟨by decide,rfl⟩,hBw⟩
   have HZ:=Aa (show 0<=x/\x < m by have h:=HOK.o;rw [hz] at h;simpa using h.symm)
   clear hz HOK
   go_wp2_with fail
   exact ⟨⟨n+1,by omega,by go_num,B0 hnd HOK1.o (by rw [<-HX.o];exact HZ.o),⟨d0,d1,d2,d3,d4,d5,d6,d7⟩,hB⟩,by simp [intOf];omega⟩
  ·have HP2:=Aa (HP1.o.over hB)
   obtain ⟨w2,hw2⟩:=nm wr
   rw [<-hw2] at d0 d1 d2 d3 d4 d5 d6 d7 hBw HP2 ⊢
   have HSP:=Aa (B3 (by rw [<-HSN.o];omega) HOK1.o)
   clear hw2 hB HP1 hB1 HOK1
   have KL:=Aa (Df m ga gn gc sa sn sc ya yn yc oa on oc va vn vc fa fn fc ba bn bc gs ls ms vs w2 HP2.o.grants HP2.o.ins HP2.o.outs HP2.o.vars (by omega) (by omega) HP2.o.insN HP2.o.outsN)
   go_wp2_with fail
   refine (KL.o).mono ?_
   rintro e w3 ⟨he,hb3⟩
   have hBw3:=hBw.trans (hb3.mono hBw.size)
   have HP3:=Aa (HP2.o.over hb3)
   obtain ⟨r0,r1,r2,r3,r4,r5,r6,r7⟩:=co8 hb3 d0 d1 d2 d3 d4 d5 d6 d7
   clear KL d0 d1 d2 d3 d4 d5 d6 d7
   rcases he with ⟨hlab,rfl⟩ | ⟨hng,rfl⟩
   rotate_left
   ·have HN:E=eL m gs (ls++ms) vs:=by rw [HE.o,if_pos HCHK.o,if_pos HLIM.o,if_pos HSP.o,if_neg hng]
    subst HN
    have HNX:=Aa hng
    clear hng
    unfold Ak
    go_wp2_with fail
    exact ⟨rfl,Or.inr ⟨HNX.o,rfl⟩,hBw3⟩
   have HLAB:=Aa hlab
   clear hb3 HP2 hBw hlab
   have KI:=Aa (Ey.limits_any K kf m ga gn gc sa sn sc ya yn yc oa on oc va vn vc fa fn fc ba bn bc fs l w3 HP3.o.funcs HP3.o.main)
   go_wp2_with fail
   refine (KI.o).mono ?_
   rintro e w4 ⟨he,hb4⟩
   have hBw4:=hBw3.trans (hb4.mono hBw3.size)
   have HP4:=Aa (HP3.o.over hb4)
   obtain ⟨d0,d1,d2,d3,d4,d5,d6,d7⟩:=co8 hb4 r0 r1 r2 r3 r4 r5 r6 r7
   clear KI r0 r1 r2 r3 r4 r5 r6 r7
   rcases he with ⟨rfl,hlm⟩ | ⟨hng,rfl⟩
   rotate_left
   ·have HN:E=2:=by rw [HE.o,if_pos HCHK.o,if_pos HLIM.o,if_pos HSP.o,if_pos HLAB.o,if_neg hng]
    subst HN
    clear hng
    unfold Ak
    go_wp2_with fail
    exact ⟨rfl,Or.inr ⟨by decide,rfl⟩,hBw4⟩
   have HLM:=Aa hlm
   have hfn:fn=fs.length:=by obtain ⟨-,a,c,he,-⟩:=HP4.o.funcs;injection he
   have HFN:=Aa hfn
   clear hb4 HP3 hBw3 hlm hfn
   go_wp2_with fail
   go_loopw [73] (fun i wr=>∃ n:Nat,n<=fn/\i=zd U n/\(∀ j (h:j < fs.length),j < n->eF K vn yn on (j:Int) fs kf fs[j]=0)/\(wr.cell? ⟨w.heap.size,0,none⟩=some (zd U m)/\wr.cell? ⟨w.heap.size,1,none⟩=some (O ga gn gc)/\wr.cell? ⟨w.heap.size,2,none⟩=some (O sa sn sc)/\wr.cell? ⟨w.heap.size,3,none⟩=some (O ya yn yc)/\wr.cell? ⟨w.heap.size,4,none⟩=some (O oa on oc)/\wr.cell? ⟨w.heap.size,5,none⟩=some (O va vn vc)/\wr.cell? ⟨w.heap.size,6,none⟩=some (O fa fn fc)/\wr.cell? ⟨w.heap.size,7,none⟩=some (O ba bn bc))/\Ov w4 wr) (fun i _=>fn - (intOf i).toNat)
   case atStart=>exact ⟨0,Nat.zero_le _,rfl,fun j h h'=>absurd h' (by omega),⟨d0,d1,d2,d3,d4,d5,d6,d7⟩,Below.refl _ _⟩
   case round=>
    clear d0 d1 d2 d3 d4 d5 d6 d7
    obtain ⟨n,hn,rfl,hok,⟨d0,d1,d2,d3,d4,d5,d6,d7⟩,hB⟩:=hrel
    have HOK:=Aa hok
    clear hok
    have hBw:=hBw4.trans (hB.mono hBw4.size)
    by_cases hnl:n < fn
    ·obtain ⟨-,ao,cap,he,hel⟩:=HP4.o.funcs.over hB
     injection he with e1 e2 e3
     have hnd:n < fs.length:=by omega
     obtain ⟨b,off,hbo,hel2⟩:=hel (by intro h;rw [h] at hnd;simp at hnd)
     obtain ⟨vP,vB,x0,x1,x2,q0,q1,q2,q3,q4,hp,⟨hpl,pa,pc,hvp,hpc⟩,hs,hx⟩:=hel2 n hnd
     have e1':=e1.trans hbo
     subst e1'
     subst hvp
     have hs0:=hs
     obtain ⟨-,za,zc,hvb,-⟩:=hs0
     subst hvb
     obtain ⟨xa,xc,hxf⟩:=hx.form
     simp only [List.cons.injEq,and_true] at hxf
     obtain ⟨rfl,rfl,rfl⟩:=hxf
     have hba:=bA wr (zf #[O pa fs[n].ps.length pc,O za fs[n].body.length zc,zd U (Ap fs[n].res),zd U (AA fs[n].res),O xa (Ar fs[n].res).length xc] 105)
     have hBa:=hBw.trans (hba.mono hBw.size)
     have hB4a:=Ag hB hba
     have KF:=Aa (CN K kf kf fs fs[n] (n:Int) m ga gn gc sa sn sc ya yn yc oa on oc va vn vc (some ⟨b,off,none⟩) fn fc ba bn bc pa fs[n].ps.length pc za fs[n].body.length zc (Ap fs[n].res) (AA fs[n].res) xa (Ar fs[n].res).length xc _ hvl (by omega) (by omega) (by omega) (by omega) (by omega) (hp.over hba) hpl hpc (hs.over hba) (hx.over hba) (HP4.o.funcs.over hB4a))
     obtain ⟨pl,hpl2⟩:=nm (fs[n].ps.length)
     obtain ⟨zl,hzl2⟩:=nm (fs[n].body.length)
     obtain ⟨ek,hek2⟩:=nm (Ap fs[n].res)
     obtain ⟨en,hen2⟩:=nm (AA fs[n].res)
     obtain ⟨xl,hxl2⟩:=nm ((Ar fs[n].res).length)
     rw [<-hpl2,<-hzl2,<-hek2,<-hen2,<-hxl2] at KF hba hBa hB4a
     rw [<-hpl2] at q0
     rw [<-hzl2] at q1
     rw [<-hek2] at q2
     rw [<-hen2] at q3
     rw [<-hxl2] at q4
     obtain ⟨f0,f1,f2,f3,f4,f5,f6,f7⟩:=co8 hba d0 d1 d2 d3 d4 d5 d6 d7
     clear hel hel2 e1 e2 e3 hbo hp hpl hpc hs hx hpl2 hzl2 hek2 hen2 hxl2 d0 d1 d2 d3 d4 d5 d6 d7
     go_wp2_with fail
     refine (KF.o).mono ?_
     rintro e w5 ⟨he,hb5⟩
     have hB5:=Ag hB4a hb5
     have hBw5:=hBa.trans (hb5.mono hBa.size)
     obtain ⟨r0,r1,r2,r3,r4,r5,r6,r7⟩:=co8 hb5 f0 f1 f2 f3 f4 f5 f6 f7
     clear KF f0 f1 f2 f3 f4 f5 f6 f7 hb5 hba hBa hB4a hB hBw q0 q1 q2 q3 q4
     rcases he with ⟨hok,rfl⟩ | ⟨hng,rfl⟩
     rotate_left
     ·have h0:Bs ((List.range fs.length).map (fnE K kf vn yn on fs))=eF K vn yn on (n:Int) fs kf fs[n]:=by
       rw [J5 hnd (fun i hi=>by rw [DM (by omega)];exact HOK.o i (by omega) hi) (by rw [DM hnd];exact hng),DM hnd]
      have HN:E=eF K vn yn on (n:Int) fs kf fs[n]:=by rw [HE.o,if_pos HCHK.o,if_pos HLIM.o,if_pos HSP.o,if_pos HLAB.o,if_pos HLM.o,f2a (by rw [h0];exact hng),h0]
      subst HN
      have HNX:=Aa hng
      clear h0
      clear hng
      unfold Ak
      go_wp2_with fail
      exact ⟨rfl,Or.inr ⟨HNX.o,rfl⟩,hBw5⟩
     have HOK2:=Aa hok
     clear hok
     go_wp2_with fail
     refine ⟨⟨n+1,by omega,by go_num,fun j h h'=>?_,⟨r0,r1,r2,r3,r4,r5,r6,r7⟩,hB5⟩,by simp [intOf];omega⟩
     by_cases hjn:j < n
     ·exact HOK.o j h hjn
     ·obtain rfl:j=n:=by omega
      exact HOK2.o
    ·have KS:=Aa (Cy K kf fs (fn:Int) m ga gn gc sa sn sc ya yn yc oa on oc va vn vc fa fn fc ba bn bc hvl (by omega) (by omega) (by omega) (by omega) (by have:=HFN.o;omega) kf (O ba bn bc) l wr (HP4.o.main.over hB) (HP4.o.funcs.over hB))
     go_wp2_with fail
     refine (KS.o).mono ?_
     rintro e w5 ⟨he,hb5⟩
     have hBw5:=hBw.trans (hb5.mono hBw.size)
     clear KS d0 d1 d2 d3 d4 d5 d6 d7 hb5 hB hBw
     rcases he with ⟨hok,rfl⟩ | ⟨hng,rfl⟩
     rotate_left
     ·have h0:Bs ((List.range fs.length).map (fnE K kf vn yn on fs))=0:=Cb (fun i hi=>by
       have hi':i < fs.length:=by simpa using hi
       rw [DM hi']
       exact HOK.o i hi' (by have:=HFN.o;omega))
      have HN:E=Bs (l.map (eS K vn yn on (fn:Int) fs kf)):=by rw [HE.o,if_pos HCHK.o,if_pos HLIM.o,if_pos HSP.o,if_pos HLAB.o,if_pos HLM.o,f2b h0,HFN.o]
      have HNX:=Aa hng
      clear h0
      subst HN
      clear hng
      unfold Ak
      go_wp2_with fail
      exact ⟨rfl,Or.inr ⟨HNX.o,rfl⟩,hBw5⟩
     have HOK2:=Aa hok
     clear hok
     go_wp2_with fail
     go_end0
     have hfn:=HFN.o
     have hlm:=HLM.o
     refine ⟨Or.inl ⟨?_,rfl⟩,hBw5⟩
     have h0:Bs ((List.range fs.length).map (fnE K kf vn yn on fs))=0:=Cb (fun i hi=>by
      have hi':i < fs.length:=by simpa using hi
      rw [DM hi']
      exact HOK.o i hi' (by omega))
     rw [HE.o,if_pos HCHK.o,if_pos HLIM.o,if_pos HSP.o,if_pos HLAB.o,if_pos HLM.o,f2b h0,<-hfn]
     exact HOK2.o
def Kl (E:Int) (w:World) (f:Int->Value) (e:Ending) (w':World):Prop:=e=zh (f E)/\Ov w w'
open Classical in
theorem DP (K kf:Nat) (m:Int) (ga gn gc sa sn sc ya yn yc oa on oc va vn vc fa fn fc ba bn bc gs sp ls ms vs fs l) (w:World) (h:Bf K kf m ga gn gc sa sn sc ya yn yc oa on oc va vn vc fa fn fc ba bn bc gs sp ls ms vs fs l w) :
  Calls Tryz.prog 112 #[.func (.func 113) #[zg #[zd U m,O ga gn gc,O sa sn sc,O ya yn yc,O oa on oc,O va vn vc,O fa fn fc,O ba bn bc]] #[]] w (Kl (eP K kf m vn yn on sn gs sp ls ms vs fs l) w fun why=>zj #[zd U 0,zd U why]):=by
 have hmf:∀ (fn:Fn) (first cap:Array Value) (w:World),(Instr.makeFunc fn first cap).run Tryz.prog w=.ok (.func fn first cap) w:=fun _ _ _ _=>rfl
 have HC:∀ (args:Array Value) (w:World),(callFunc 113 args).run Tryz.prog w=.ok (.enter 113 args) w:=fun args w=>by simp [go_sem]
 have hbel:Ov w ((w.alloc (zf #[zd U 0] 3)).alloc (zf #[zd U 0] 32)):=(bA w _).alloc (by simp) _
 have K:=Aa (DN K kf m ga gn gc sa sn sc ya yn yc oa on oc va vn vc fa fn fc ba bn bc gs sp ls ms vs fs l _ (h.over hbel))
 have q0:=CB w [zd U 0] 3 (zf #[zd U 0] 32) 0 _ rfl
 have q1:=CY w (zf #[zd U 0] 3) [zd U 0] 32 0 _ rfl
 have z0:((w.alloc (zf #[zd U 0] 3)).alloc (zf #[zd U 0] 32)).frozen? ⟨w.heap.size,0,none⟩=false:=by simp [go_sem]
 have z1:((w.alloc (zf #[zd U 0] 3)).alloc (zf #[zd U 0] 32)).frozen? ⟨w.heap.size+1,0,none⟩=false:=by simp [go_sem]
 clear h
 go_enter_defers Tryz.func112,Tryz.ntmps112
 go_wp2_with fail
 refine (K.o).mono ?_
 rintro e w1 ⟨he,hb1⟩
 obtain ⟨hc,hf⟩:=AI hb1
 have hB1:=hbel.trans (hb1.mono hbel.size)
 obtain ⟨p0,p1⟩:=co2 hb1 q0 q1
 have y0:=(hf w.heap.size 0 (by simp;omega)).trans z0
 have y1:=(hf (w.heap.size+1) 0 (by simp)).trans z1
 have g1:w.heap.size+1 < w1.heap.size:=bL p1
 have g0:w.heap.size < w1.heap.size:=by omega
 clear hc hf q0 q1 z0 z1 hb1 K hbel
 rcases he with ⟨hok,rfl⟩ | ⟨hng,rfl⟩
 ·have HOK:=Aa hok
  clear hok
  go_wp2_with fail
  refine leaves_cons (f:=170) (args:=#[zi (some ⟨w.heap.size,0,none⟩),zi (some ⟨w.heap.size+1,0,none⟩)]) (by simp) (by simp [go_sem]) ?_
  refine (E8 _ _ _).mono ?_
  rintro e u' w2 ⟨rfl,rfl,rfl⟩
  have d0:((w1.setCell ⟨w.heap.size,0,none⟩ (zd U 0)).setCell ⟨w.heap.size+1,0,none⟩ (zd U 0)).cell? ⟨w.heap.size,0,none⟩=some (zd U 0):=by simp [go_sem,p0]
  have d1:((w1.setCell ⟨w.heap.size,0,none⟩ (zd U 0)).setCell ⟨w.heap.size+1,0,none⟩ (zd U 0)).cell? ⟨w.heap.size+1,0,none⟩=some (zd U 0):=by simp [go_sem,p1]
  have hbb:Ov w ((w1.setCell ⟨w.heap.size,0,none⟩ (zd U 0)).setCell ⟨w.heap.size+1,0,none⟩ (zd U 0)):=(hB1.setCell (by simp) _).setCell (by simp) _
  generalize ((w1.setCell ⟨w.heap.size,0,none⟩ (zd U 0)).setCell ⟨w.heap.size+1,0,none⟩ (zd U 0))=wF at d0 d1 hbb ⊢
  simp [Leaves,settle,results,Tryz.results112,go_sem,d0,d1]
  exact ⟨by rw [HOK.o],hbb⟩
 ·have HNG:=Aa hng
  clear hng
  unfold Ak
  go_wp2_with fail
  refine leaves_cons (f:=170) (args:=#[zi (some ⟨w.heap.size,0,none⟩),zi (some ⟨w.heap.size+1,0,none⟩)]) (by simp) (by simp [go_sem]) ?_
  refine (E9 w.heap.size 0 0 _ _ [] _ (by omega) p0 p1 y0 y1).mono ?_
  rintro e u' w2 ⟨rfl,rfl,d0,d1,hb2⟩
  have hbb:Ov w w2:=hB1.trans hb2
  simp [Leaves,settle,results,Tryz.results112,go_sem,d0,d1]
  exact ⟨rfl,hbb⟩
open Classical in
theorem scopeCheck_any (K kf:Nat) (m:Int) (ga gn gc sa sn sc ya yn yc oa on oc va vn vc fa fn fc ba bn bc gs sp ls ms vs fs l) (w:World) (h:Bf K kf m ga gn gc sa sn sc ya yn yc oa on oc va vn vc fa fn fc ba bn bc gs sp ls ms vs fs l w) :
  Calls Tryz.prog 53 #[zg #[zd U m,O ga gn gc,O sa sn sc,O ya yn yc,O oa on oc,O va vn vc,O fa fn fc,O ba bn bc]] w (Kl (eP K kf m vn yn on sn gs sp ls ms vs fs l) w fun why=>zd U why):=by
 have hbel:Ov w ((w.alloc (zf #[zd U m,O ga gn gc,O sa sn sc,O ya yn yc,O oa on oc,O va vn vc,O fa fn fc,O ba bn bc] 31)).alloc (zf #[zd U m,O ga gn gc,O sa sn sc,O ya yn yc,O oa on oc,O va vn vc,O fa fn fc,O ba bn bc] 184)):=(bA w _).alloc (by simp) _
 have K:=Aa (DP K kf m ga gn gc sa sn sc ya yn yc oa on oc va vn vc fa fn fc ba bn bc gs sp ls ms vs fs l _ (h.over hbel))
 clear h
 go_enter Tryz.func53,Tryz.ntmps53
 go_wp2_with fail
 refine (K.o).mono ?_
 rintro e w1 ⟨rfl,hb1⟩
 have hB1:=hbel.trans (hb1.mono hbel.size)
 clear hbel hb1 K
 go_wp2_with fail
 go_ret
 exact ⟨rfl,hB1⟩
theorem e3 {A B:Prop} [Decidable A] [Decidable B] {X:Int}:(if A then if B then X else 1 else 5)=0 ↔ A/\B/\X=0:=by
 by_cases hA:A
 ·by_cases hB:B
  ·rw [if_pos hA,if_pos hB];exact ⟨fun h=>⟨hA,hB,h⟩,fun h=>h.2.2⟩
  ·rw [if_pos hA,if_neg hB];exact ⟨fun h=>absurd h (by decide),fun h=>absurd h.2.1 hB⟩
 ·rw [if_neg hA];exact ⟨fun h=>absurd h (by decide),fun h=>absurd h.1 hA⟩
theorem e2 {B:Prop} [Decidable B] {X:Int}:(if B then X else 1)=0 ↔ B/\X=0:=by
 by_cases hB:B
 ·rw [if_pos hB];exact ⟨fun h=>⟨hB,h⟩,fun h=>h.2⟩
 ·rw [if_neg hB];exact ⟨fun h=>absurd h (by decide),fun h=>absurd h.1 hB⟩
theorem Cu {α:Type} {f:α->Int} {l:List α}:Bs (l.map f)=0 ↔ ∀ a∈l,f a=0:=
 ⟨fun h a ha=>CO.1 h _ (List.mem_map_of_mem ha),Cb⟩
theorem J7 {a b c:Int}:Bs [a,b,c]=0 ↔ a=0/\b=0/\c=0:=by
 rw [CO];simp
theorem J8 {a b:Int}:Bs [a,b]=0 ↔ a=0/\b=0:=by
 rw [CO];simp
theorem LA (K nv ni no:Nat) (funcs:Int) (fs) (d:D):eS1 K nv ni no funcs fs d=0 ↔ Ey.xS1 K nv ni no funcs fs d:=by
 unfold eS1 Ey.xS1 Dz Ey.zerS
 by_cases hk:1<=Ae d/\Ae d<=8
 ·rcases (by omega:Ae d=1\/Ae d=2\/Ae d=3\/Ae d=4\/Ae d=5\/Ae d=6\/Ae d=7\/Ae d=8) with h | h | h | h | h | h | h | h
  all_goals
   simp only [h,Int.reduceEq,if_true,if_false]
   first | rw [e3] | rw [e2]
   try rw [Cu]
   simp only [Ey.len0]
   constructor <;> (intro hp;simp at hp ⊢;simp_all)
 ·rw [if_neg (by omega),if_neg (by omega),if_neg (by omega),if_neg (by omega),if_neg (by omega),if_neg (by omega),if_neg (by omega),if_neg (by omega)]
  exact ⟨fun h=>absurd h (by decide),fun h=>absurd h.1.1 hk⟩
theorem Dh (K nv ni no:Nat) (funcs:Int) (fs):∀ (k:Nat) (d:D),eS K nv ni no funcs fs k d=0 ↔ Ey.xS K nv ni no funcs fs k d
 | 0,d=>⟨fun h=>absurd h (by show ¬ (7:Int)=0;decide),fun h=>h.elim⟩
 | k+1,d=>by
  show Bs [_,_,_]=0 ↔ _/\_/\_
  rw [J7,Cu,Cu,LA]
  exact ⟨fun h=>⟨h.1,fun s hs=>(Dh K nv ni no funcs fs k s).1 (h.2.1 s hs),fun s hs=>(Dh K nv ni no funcs fs k s).1 (h.2.2 s hs)⟩,fun h=>⟨h.1,fun s hs=>(Dh K nv ni no funcs fs k s).2 (h.2.1 s hs),fun s hs=>(Dh K nv ni no funcs fs k s).2 (h.2.2 s hs)⟩⟩
theorem Kb (K nv ni no:Nat) (ahead:Int) (fs) (k:Nat) (f:FnD):eF K nv ni no ahead fs k f=0 ↔ Ey.xF K nv ni no ahead fs k f:=by
 unfold eF Ey.xF
 by_cases h1:f.ps.length<=4
 ·rw [if_pos h1]
  by_cases h2:∀ p∈f.ps,0<=p/\p < (nv:Int)
  ·rw [if_pos h2]
   by_cases h3:∀ i (h:i < f.ps.length),f.ps[i] ∉ f.ps.take i
   ·rw [if_pos h3,J8,Cu]
    exact ⟨fun h=>⟨h1,h2,h3,fun s hs=>(Dh K nv ni no ahead fs k s).1 (h.1 s hs),h.2⟩,fun h=>⟨fun s hs=>(Dh K nv ni no ahead fs k s).2 (h.2.2.2.1 s hs),h.2.2.2.2⟩⟩
   ·rw [if_neg h3];exact ⟨fun h=>absurd h (by decide),fun h=>absurd h.2.2.1 h3⟩
  ·rw [if_neg h2];exact ⟨fun h=>absurd h (by decide),fun h=>absurd h.2.1 h2⟩
 ·rw [if_neg h1];exact ⟨fun h=>absurd h (by decide),fun h=>absurd h.1 h1⟩
theorem JX {v:Bool × Lab}:kE v=0 ↔ (v.1=false->v.2.r=[]/\v.2.w=[]):=by
 by_cases h:(v.1=false->v.2.r=[]/\v.2.w=[])
 ·exact ⟨fun _=>h,fun _=>FQ h⟩
 ·rw [JW h];exact ⟨fun h=>absurd h (by decide),fun h'=>absurd h' h⟩
theorem Ka (m:Int) (gs L) (vs:List (Bool × Lab)):eL m gs L vs=0 ↔ C5 m gs L vs:=by
 unfold eL C5
 rw [J7,Cu,Cu,Cu]
 exact ⟨fun h=>⟨h.1,h.2.1,fun v hv=>JX.1 (h.2.2 v hv)⟩,fun h=>⟨h.1,h.2.1,fun v hv=>JX.2 (h.2.2 v hv)⟩⟩
open Classical in
theorem eP_iff (K kf:Nat) (m:Int) (vn yn on sn:Nat) (gs sp ls ms vs fs) (l:List D):eP K kf m vn yn on sn gs sp ls ms vs fs l=0 ↔ Ey.xP K kf m vn yn on sn gs sp ls ms vs fs l:=by
 unfold eP
 by_cases h1:AX m gs=0
 ·rw [if_pos h1]
  by_cases h2:((vn:Int)<=16/\(yn:Int)<=5/\(on:Int)<=5/\(fs.length:Int)<=5/\(sn:Int)<=m)
  ·rw [if_pos h2]
   by_cases h3:∀ x∈sp,0<=x/\x < m
   ·rw [if_pos h3]
    by_cases h4:eL m gs (ls++ms) vs=0
    ·rw [if_pos h4]
     by_cases h5:(((An kf fs:Nat):Int)+(Aj kf l:Nat)<=50/\Ey.dpF kf fs/\Ey.dps kf 1 l)
     ·rw [if_pos h5,J8,Cu,Cu]
      refine ⟨fun h=>⟨h1,h2,h3,(Ka m gs _ vs).1 h4,h5,fun i hi=>(Kb K vn yn on i fs kf fs[i]).1 ?_,fun s hs=>(Dh K vn yn on _ fs kf s).1 (h.2 s hs)⟩,fun h=>⟨fun i hi=>?_,fun s hs=>(Dh K vn yn on _ fs kf s).2 (h.main s hs)⟩⟩
      ·have:=h.1 i (by simpa using hi)
       rwa [DM hi] at this
      ·have hi':i < fs.length:=by simpa using hi
       rw [DM hi']
       exact (Kb K vn yn on i fs kf fs[i]).2 (h.body i hi')
     ·rw [if_neg h5];exact ⟨fun h=>absurd h (by decide),fun h=>absurd h.many h5⟩
    ·rw [if_neg h4];exact ⟨fun h=>absurd h h4,fun h=>absurd ((Ka m gs _ vs).2 h.labs) h4⟩
   ·rw [if_neg h3];exact ⟨fun h=>absurd h (by decide),fun h=>absurd h.speak h3⟩
  ·rw [if_neg h2];exact ⟨fun h=>absurd h (by decide),fun h=>absurd h.lim h2⟩
 ·rw [if_neg h1];exact ⟨fun h=>absurd h h1,fun h=>absurd h.chk h1⟩
end Go.Proofs.YtfffpjkcfnekaaaGreat.Ex.Ez
