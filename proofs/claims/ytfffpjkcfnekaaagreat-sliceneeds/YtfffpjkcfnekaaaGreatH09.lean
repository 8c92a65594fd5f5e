/- Checks of all labels of a program, whatever they are. -/
import Derived.Test.YtfffpjkcfnekaaaGreatH05
import Derived.Test.YtfffpjkcfnekaaaGreatH08
set_option linter.unusedVariables false
set_option maxHeartbeats 8000000
set_option maxRecDepth 100000
namespace Go.Proofs.YtfffpjkcfnekaaaGreat.Ex.Ey
open Go.RowKit
open Go.Value renaming slice -> O, int -> zd, bool -> ze, agg -> zg, pointer -> zi, tuple -> zj
open Go.IntKind renaming i64 -> U
open Go.Obj renaming cells -> zf
open Go.Ending renaming returned -> zh
abbrev Ji (w:World) (m:Int) (ga:Option Addr) (gn gc:Nat) (va:Option Addr) (vn vc:Nat) (Wz:World):Prop:=Wz.cell? ⟨w.heap.size,0,none⟩=some (zd U m)/\CE Wz w.heap.size 1 (O ga gn gc)/\CE Wz w.heap.size 5 (O va vn vc)
theorem Df (m:Int) (ga gn gc) (sa sn sc) (ya yn yc oa on oc va vn vc) (fa fn fc ba bn bc gs ls ms vs) (w:World) (hg:Bk w (O ga gn gc) gs) (h1:BC w (O ya yn yc) ls) (h2:BC w (O oa on oc) ms) (h3:C7 w (O va vn vc) vs)
  (hy:yn<=5) (ho:on<=5) (hyc:ya=none->yc=0) (hoc:oa=none->oc=0) :
  Calls Tryz.prog 174 #[zg #[zd U m,O ga gn gc,O sa sn sc,O ya yn yc,O oa on oc,O va vn vc,O fa fn fc,O ba bn bc]] w (BB (C5 m gs (ls++ms) vs) w):=by
 have hbel:Ov w ((w.alloc (zf #[zd U m,O ga gn gc,O sa sn sc,O ya yn yc,O oa on oc,O va vn vc,O fa fn fc,O ba bn bc] 184)).alloc (zf #[O ya yn yc,O oa on oc] 26)):=(bA w _).alloc (by simp) _
 have hrow:Ad [O ya yn yc,O oa on oc] ((w.alloc (zf #[zd U m,O ga gn gc,O sa sn sc,O ya yn yc,O oa on oc,O va vn vc,O fa fn fc,O ba bn bc] 184)).alloc (zf #[O ya yn yc,O oa on oc] 26)) (w.heap.size+1):=by
  have r:=Ad.new [O ya yn yc,O oa on oc] 26 (w.alloc (zf #[zd U m,O ga gn gc,O sa sn sc,O ya yn yc,O oa on oc,O va vn vc,O fa fn fc,O ba bn bc] 184))
  have hs:(w.alloc (zf #[zd U m,O ga gn gc,O sa sn sc,O ya yn yc,O oa on oc,O va vn vc,O fa fn fc,O ba bn bc] 184)).heap.size=w.heap.size+1:=by simp
  rw [hs] at r
  exact r
 have K1:=Aa (E6 (w.heap.size+1) ya yn yc oa on oc ls ms ((w.alloc (zf #[zd U m,O ga gn gc,O sa sn sc,O ya yn yc,O oa on oc,O va vn vc,O fa fn fc,O ba bn bc] 184)).alloc (zf #[O ya yn yc,O oa on oc] 26)) hrow (h1.over hbel) (h2.over hbel) hy ho hyc hoc)
 have KL:=Aa fun (bl:Lab) (pr pw:Value) (W:World) (hW:Ov w W) (hr:Az W pr bl.r) (hw:Az W pw bl.w)=>Io m (O ga gn gc) gs pr pw bl W (Bq hg hW) hr hw
 have KP:=Aa CP
 have KM:=Aa AM
 have hvl:vn<=9223372036854775807:=by obtain ⟨hm,a,c,he,-⟩:=h3;injection he with e1 e2 e3;rw [e2];exact hm
 have hlen:(ls++ms).length<=10:=by
  obtain ⟨-,a,c,he,-⟩:=h1
  injection he with e1 e2 e3
  obtain ⟨-,a',c',he',-⟩:=h2
  injection he' with e1' e2' e3'
  simp
  omega
 have HV:=Aa h3
 have hvs:vn=vs.length:=by obtain ⟨hm,a,c,he,-⟩:=h3;injection he
 have HVS:=Aa hvs
 clear hvs
 have zr:=CB w [zd U m,O ga gn gc,O sa sn sc,O ya yn yc,O oa on oc,O va vn vc,O fa fn fc,O ba bn bc] 184 (zf #[O ya yn yc,O oa on oc] 26)
 have c0:=zr 0 _ rfl
 have c1:=zr 1 _ rfl
 have c3:=zr 3 _ rfl
 have c4:=zr 4 _ rfl
 have c5:=zr 5 _ rfl
 clear zr
 clear h1 h2 h3 hg hrow
 go_enter Tryz.func174,Tryz.ntmps174
 go_wp2_with fail
 refine (K1.o).mono ?_
 rintro e w1 ⟨v,xs,rfl,hown,hcl,hb1⟩
 have hB1:=hbel.trans (hb1.mono hbel.size)
 obtain ⟨d0,d1,d5⟩:=co3 hb1 c0 c1 c5
 obtain ⟨va',vn',vc',hvf⟩:∃ a n c,v=O a n c:=by
  rcases hown.2 with ⟨h,_⟩ | ⟨g,cap,cur,h,_⟩
  ·exact ⟨_,_,_,h⟩
  ·exact ⟨_,_,_,h⟩
 have hnn:vn'=(ls++ms).length:=by
  rcases hown.2 with ⟨h,h'⟩ | ⟨g,cap,cur,h,_⟩
  ·rw [hvf] at h;injection h with e1 e2 e3;omega
  ·rw [hvf] at h;injection h
 subst hvf
 have HO:=Aa hown
 have HCL:=Aa hcl
 have HNN:=Aa hnn
 have hn10:vn'<=10:=by rw [hnn];exact hlen
 clear hown hcl hnn hb1 c0 c1 c3 c4 c5 hbel K1
 go_wp2_with fail
 go_loopw [17] (fun i wr=>∃ n:Nat,n<=vn'/\i=zd U n/\(∀ b∈(ls++ms).take n,Co m gs b=0)/\(Ji w m ga gn gc va vn vc wr)/\Ov w1 wr) (fun i _=>vn' - (intOf i).toNat)
 case atStart=>exact ⟨0,Nat.zero_le _,rfl,by simp,⟨d0,d1,d5⟩,Below.refl _ _⟩
 case round=>
  clear d0 d1 d5
  obtain ⟨n,hn,rfl,hok1,⟨d0,d1,d5⟩,hB⟩:=hrel
  have HOK1:=Aa hok1
  clear hok1
  have hBw:=hB1.trans (hB.mono hB1.size)
  by_cases hnl:n < vn'
  ·have hnd:n < (ls++ms).length:=by rw [<-HNN.o];exact hnl
   obtain ⟨pr,pw,e0,e1,hr,hw⟩:=HCL.o.at n hnd
   obtain ⟨g,cap,hgf,hgb,hgl,hgc⟩:=EN HO.o (by omega)
   have a0:=Ab hB _ _ (hgc _ _ e0)
   have a1:=Ab hB _ _ (hgc _ _ e1)
   rw [Addr.add_lit,Nat.zero_add] at a0 a1
   injection hgf with f1 f2 f3
   subst f1
   obtain ⟨ra,rn,rc,hrf⟩:=Bc hr
   obtain ⟨wa,wn,wc,hwf⟩:=Bc hw
   subst hrf hwf
   have hba:=bA wr (zf #[O ra rn rc,O wa wn wc] 39)
   have hBa:=hBw.trans (hba.mono hBw.size)
   have hB1a:=Ag hB hba
   have K2:=Aa (KL.o (ls++ms)[n] _ _ _ hBa (Au hr hB1a) (Au hw hB1a))
   obtain ⟨f0,f1,f5⟩:=co3 hba d0 d1 d5
   obtain ⟨cr,hcr⟩:=nm (Co m gs (ls++ms)[n])
   rw [<-hcr] at K2
   have HCR:=Aa hcr
   clear hgc hr hw e0 e1 hcr f2 f3
   go_wp2_with fail
   refine (K2.o).mono ?_
   rintro e w2 ⟨rfl,hb2⟩
   have hB2:=Ag hB1a hb2
   have hBw2:=hB1.trans (hB2.mono hB1.size)
   obtain ⟨r0,r1,r5⟩:=co3 hb2 f0 f1 f5
   clear K2 hb2 hBa hB1a hba hB hBw a0 a1 d0 d1 d5 f0 f1 f5
   go_wp2_with fail
   refine (KP.o _ _).mono ?_
   rintro e wz ⟨he,rfl⟩
   rcases he with ⟨hz,rfl⟩ | ⟨hz,rfl⟩
   rotate_left
   ·have hz2:cr≠0:=by simpa using hz
    have HN:Hx (¬ C5 m gs (ls++ms) vs):=Aa (fun h=>hz2 (HCR.o.trans (h.1 _ (List.getElem_mem hnd))))
    unfold Ak
    go_wp2_with fail
    exact ⟨rfl,Or.inr ⟨HN.o,cr,hz2,rfl⟩,hBw2⟩
   have HZ:=Aa (show cr=0 by simpa using hz)
   clear hz
   go_wp2_with fail
   exact ⟨⟨n+1,by omega,by go_num,B0 hnd HOK1.o (HCR.o.symm.trans HZ.o),⟨r0,r1,r5⟩,hB2⟩,by simp [intOf];omega⟩
  ·obtain ⟨w2,hw2⟩:=nm wr
   rw [<-hw2] at d0 d1 d5 hBw ⊢
   have HALL1:=Aa (B3 (by rw [<-HNN.o];omega) HOK1.o)
   clear hw2 hB HO HCL HOK1
   go_wp2_with fail
   go_loopw [32] (fun i wr=>∃ n:Nat,n<=vn/\i=zd U n/\(∀ v∈vs.take n,Co m gs v.2=0)/\(Ji w m ga gn gc va vn vc wr)/\Ov w2 wr) (fun i _=>vn - (intOf i).toNat)
   case atStart=>exact ⟨0,Nat.zero_le _,rfl,by simp,⟨d0,d1,d5⟩,Below.refl _ _⟩
   case round=>
    clear d0 d1 d5 hnl hn
    obtain ⟨n,hn,rfl,hok1,⟨d0,d1,d5⟩,hB⟩:=hrel
    have HOK1:=Aa hok1
    clear hok1
    have hBw3:=hBw.trans (hB.mono hBw.size)
    by_cases hnl:n < vn
    ·obtain ⟨-,ao,cap,he,hel⟩:=HV.o.over hBw3
     injection he with e1 e2 e3
     have hne:vs≠[]:=by intro h;rw [h] at e2;simp at e2;omega
     obtain ⟨b,off,hbo,hel2⟩:=hel hne
     have hnv:n < vs.length:=by omega
     obtain ⟨pr,pw,a0,a1,a2,hr,hw⟩:=hel2 n hnv
     have e1':=e1.trans hbo
     subst e1'
     obtain ⟨kn,hkn⟩:=nm (vs[n].1)
     obtain ⟨lb,hlb⟩:=nm (vs[n].2)
     rw [<-hkn] at a0
     rw [<-hlb] at hr hw
     obtain ⟨ra,rn,rc,hrf⟩:=Bc hr
     obtain ⟨wa,wn,wc,hwf⟩:=Bc hw
     subst hrf hwf
     have HLB:=Aa hlb
     clear hkn hlb hel hel2 e1 e2 e3 hbo
     have hba:=bA wr (zf #[ze kn,O ra rn rc,O wa wn wc] 41)
     have hBa:=hBw3.trans (hba.mono hBw3.size)
     have hB1a:=Ag hB hba
     have K2:=Aa (KL.o lb _ _ _ hBa (Au hr hba) (Au hw hba))
     obtain ⟨f0,f1,f5⟩:=co3 hba d0 d1 d5
     obtain ⟨cr,hcr⟩:=nm (Co m gs lb)
     rw [<-hcr] at K2
     have HCR:=Aa hcr
     clear hr hw hcr
     go_wp2_with fail
     refine (K2.o).mono ?_
     rintro e w3 ⟨rfl,hb2⟩
     have hB2:=Ag hB1a hb2
     have hBw2:=hBw.trans (hB2.mono hBw.size)
     obtain ⟨r0,r1,r5⟩:=co3 hb2 f0 f1 f5
     clear K2 hb2 hBa hB1a hba hB hBw3 a0 a1 a2 d0 d1 d5 f0 f1 f5
     go_wp2_with fail
     refine (KP.o _ _).mono ?_
     rintro e wz ⟨he,rfl⟩
     rcases he with ⟨hz,rfl⟩ | ⟨hz,rfl⟩
     rotate_left
     ·have hz2:cr≠0:=by simpa using hz
      have HN:Hx (¬ C5 m gs (ls++ms) vs):=Aa (fun h=>hz2 (HCR.o.trans (by rw [HLB.o];exact h.2.1 _ (List.getElem_mem hnv))))
      unfold Ak
      go_wp2_with fail
      exact ⟨rfl,Or.inr ⟨HN.o,cr,hz2,rfl⟩,hBw2⟩
     have HZ:=Aa (show cr=0 by simpa using hz)
     clear hz
     go_wp2_with fail
     exact ⟨⟨n+1,by omega,by go_num,B0 hnv HOK1.o (by rw [<-HLB.o];exact HCR.o.symm.trans HZ.o),⟨r0,r1,r5⟩,hB2⟩,by simp [intOf];omega⟩
    ·obtain ⟨w3,hw3⟩:=nm wr
     rw [<-hw3] at d0 d1 d5 hBw3 ⊢
     have HALL2:=Aa (B3 (by rw [<-HVS.o];omega) HOK1.o)
     clear hw3 hB hBw HOK1
     go_wp2_with fail
     go_loopw [48] (fun i wr=>∃ n:Nat,n<=vn/\i=zd U n/\(∀ v∈vs.take n,v.1=false->v.2.r=[]/\v.2.w=[])/\(Ji w m ga gn gc va vn vc wr)/\Ov w3 wr) (fun i _=>vn - (intOf i).toNat)
     case atStart=>exact ⟨0,Nat.zero_le _,rfl,by simp,⟨d0,d1,d5⟩,Below.refl _ _⟩
     case round=>
      clear d0 d1 d5 hnl hn
      obtain ⟨n,hn,rfl,hok1,⟨d0,d1,d5⟩,hB⟩:=hrel
      have HOK1:=Aa hok1
      clear hok1
      have hBw:=hBw3.trans (hB.mono hBw3.size)
      by_cases hnl:n < vn
      ·obtain ⟨-,ao,cap,he,hel⟩:=HV.o.over hBw
       injection he with e1 e2 e3
       have hne:vs≠[]:=by intro h;rw [h] at e2;simp at e2;omega
       obtain ⟨b,off,hbo,hel2⟩:=hel hne
       have hnv:n < vs.length:=by omega
       obtain ⟨pr,pw,a0,a1,a2,hr,hw⟩:=hel2 n hnv
       have e1':=e1.trans hbo
       subst e1'
       obtain ⟨kn,hkn⟩:=nm (vs[n].1)
       rw [<-hkn] at a0
       obtain ⟨ra,rn,rc,hrf⟩:=Bc hr
       obtain ⟨wa,wn,wc,hwf⟩:=Bc hw
       subst hrf hwf
       have HKN:Hx (kn=vs[n].1/\rn=vs[n].2.r.length/\wn=vs[n].2.w.length):=⟨hkn,DU hr,DU hw⟩
       clear hkn hel hel2 e1 e2 e3 hbo hr hw
       have HA:Hx (∀ ob:Obj,(CE (wr.alloc ob) w.heap.size 0 (zd U m)/\CE (wr.alloc ob) w.heap.size 1 (O ga gn gc)/\CE (wr.alloc ob) w.heap.size 5 (O (some ⟨b,off,none⟩) vn vc))/\Ov w3 (wr.alloc ob)/\Ov w (wr.alloc ob)):=fun ob=>by
        have hba:=bA wr ob
        exact ⟨⟨Ab hba _ _ d0,Ab hba _ _ d1,Ab hba _ _ d5⟩,Ag hB hba,hBw.trans (hba.mono hBw.size)⟩
       clear KL KP d0 d1 d5 hB
       have HNX:Hx ((kn=false->rn=0/\wn=0)->∀ v∈vs.take (n+1),v.1=false->v.2.r=[]/\v.2.w=[]):=fun h=>B0 hnv HOK1.o fun h0=>by
        obtain ⟨h1,h2,h3⟩:=HKN.o
        have:=h (h1.trans h0)
        exact ⟨List.eq_nil_of_length_eq_zero (by omega),List.eq_nil_of_length_eq_zero (by omega)⟩
       have HNG:Hx (¬ (kn=false->rn=0/\wn=0)->¬ C5 m gs (ls++ms) vs):=Aa (fun hn h=>hn fun hk=>by
        obtain ⟨h1,h2,h3⟩:=HKN.o
        obtain ⟨q1,q2⟩:=h.2.2 _ (List.getElem_mem hnv) (h1.symm.trans hk)
        rw [q1] at h2
        rw [q2] at h3
        exact ⟨h2,h3⟩)
       clear HKN HOK1
       cases kn
       all_goals go_wp2_with fail
       all_goals
        refine (KM.o _ _ _).mono ?_
        rintro e wz ⟨he,rfl⟩
        rcases he with ⟨hz,rfl⟩ | ⟨hz,rfl⟩
        ·have HZ:Hx (∀ v∈vs.take (n+1),v.1=false->v.2.r=[]/\v.2.w=[]):=HNX.o (by first | (intro h;cases h;done) | (intro _;simp at hz;done) | (intro _;simp at hz;omega) | (intro _;simp at *;omega))
         clear hz HNX HNG
         go_wp2_with fail
         exact ⟨⟨n+1,by omega,by go_num,HZ.o,(HA.o _).1,(HA.o _).2.1⟩,by simp [intOf];omega⟩
        ·have HN:Hx (¬ C5 m gs (ls++ms) vs):=Aa (HNG.o (by first | (simp at hz;done) | (intro hh;have hq:=hh (by simp);simp at hz;omega)))
         clear hz HNX HNG
         unfold Ak
         go_wp2_with fail
         exact ⟨rfl,Or.inr ⟨HN.o,1,by decide,rfl⟩,(HA.o _).2.2⟩
      ·go_wp2_with fail
       go_end0
       exact ⟨Or.inl ⟨⟨HALL1.o,HALL2.o,B3 (by rw [<-HVS.o];omega) HOK1.o⟩,rfl⟩,hBw⟩
def dpS:Nat->Int->D->Prop
 | 0,_,_=>False
 | k+1,deep,d=>deep<=6/\(∀ s∈Af d,dpS k (deep+1) s)/\∀ s∈Al d,dpS k (deep+1) s
def dps (k:Nat) (deep:Int) (l:List D):Prop:=∀ s∈l,dpS k deep s
theorem LH {k:Nat} {l:List D} (j:Nat):Aj k (l.take j)<=Aj k l:=by
 have h:Aj k l=Aj k (l.take j)+Aj k (l.drop j):=by
  unfold Aj
  rw [<-List.sum_append,<-List.map_append,List.take_append_drop]
 omega
def LS (dp:Prop) (many n:Int) (w:World) (e:Ending) (w':World):Prop:=((e=zh (zd U (many+n))/\many+n<=50/\dp)\/(¬ (many+n<=50/\dp)/\e=Ak 2))/\Ov w w'
theorem Ja (K:Nat):∀ (k:Nat) (v:Value) (l:List D) (deep many:Int) (w:World),AD w K k v l->0<=deep->deep<=7->0<=many->many<=50 ->
  Calls Tryz.prog 217 #[v,zd U deep,zd U many] w (LS (dps k deep l) many (Aj k l) w):=by
 intro k
 induction k with
 | zero=>
  intro v l deep many w h d0 d1 m0 m1
  obtain rfl:=h.zero
  obtain ⟨-,ao,cap,rfl,-⟩:=h
  have hz:many+((Aj 0 []:Nat):Int)=many:=by simp [Aj]
  show Calls Tryz.prog 217 #[O ao 0 cap,zd U deep,zd U many] w _
  go_enter Tryz.func217,Tryz.ntmps217
  go_wp2_with fail
  go_loopw [2,11] (fun c i wr=>c=zd U many/\i=zd U 0/\wr=w) (fun _ _ _=>0)
  case atStart=>exact ⟨rfl,rfl,rfl⟩
  case round=>
   obtain ⟨rfl,rfl,hw⟩:=hrel
   have hw':=hw.symm
   subst hw'
   clear hw
   go_wp2_with fail
   go_ret
   exact ⟨Or.inl ⟨by rw [hz];rfl,by rw [hz];exact m1,fun s hs=>absurd hs (by simp)⟩,Below.refl _ _⟩
 | succ k ih=>
  intro v l deep many w h d0 d1 m0 m1
  have HS:=Aa h
  have hlen:l.length<=9223372036854775807:=h.1
  obtain ⟨ao,cap,rfl,hc⟩:=h.2
  have HC:=Aa hc
  have IH:=Aa ih
  clear hc ih h
  have KM:=Aa AM
  go_enter Tryz.func217,Tryz.ntmps217
  go_wp2_with fail
  go_loopw [2,11] (fun c i wr=>∃ j:Nat,j<=l.length/\i=zd U j/\c=zd U (many+(Aj (k+1) (l.take j):Nat))/\many+(Aj (k+1) (l.take j):Nat)<=50/\Hx (dps (k+1) deep (l.take j))/\Ov w wr) (fun _ i _=>l.length - (intOf i).toNat)
  case atStart=>exact ⟨0,Nat.zero_le _,rfl,by simp [Aj],by simp [Aj];omega,Aa (fun s hs=>absurd hs (by simp)),Below.refl _ w⟩
  case round=>
   obtain ⟨j,hj,rfl,rfl,hle,HDP,hB⟩:=hrel
   by_cases hjl:j < l.length
   ·obtain ⟨b,off,rfl,hcl⟩:=HC.o (by rintro rfl;simp at hjl)
    obtain ⟨cs,hl9,hcs,hr⟩:=hcl j l[j] (List.getElem?_eq_getElem hjl)
    have htk:=CW (k:=k+1) hjl
    have hcn:Bi (k+1) l[j]=1+Aj k (Af l[j])+Aj k (Al l[j]):=rfl
    rw [hcn] at htk
    obtain ⟨d,hd⟩:=nm (l[j])
    have hmd:=List.getElem_mem hjl
    have htl2:l.take (j+1)=l.take j++[l[j]]:=List.take_succ_eq_append_getElem hjl
    have hle2:=LH (k:=k+1) (l:=l) (j+1)
    rw [<-hd] at hr htk hmd htl2
    have HMD:=Aa hmd
    have HTL:=Aa htl2
    clear hmd htl2
    obtain ⟨ek,en,xa,xl,xc,aa,ac,ta,tc,ea,ec,hcse,-,-,-,-,-,hT,hE,-,-,-⟩:=hr.form
    subst hcse
    obtain ⟨M,hM⟩:∃ M:Int,M=many+(Aj (k+1) (l.take j):Nat):=⟨_,rfl⟩
    rw [<-hM] at hle ⊢
    have hM0:0<=M:=by omega
    obtain ⟨n1,hn1⟩:∃ n:Nat,n=Aj k (Af d):=⟨_,rfl⟩
    obtain ⟨n2,hn2⟩:∃ n:Nat,n=Aj k (Al d):=⟨_,rfl⟩
    rw [<-hn1,<-hn2] at htk
    have HTOT:Hx (M+1+(n1:Int)+n2<=many+(Aj (k+1) l:Nat)):=Aa (by rw [hM];omega)
    have HTK:=Aa htk
    have HMM:=Aa hM
    clear htk hM hcn hle2
    obtain ⟨kd,hkd⟩:=nm (Ae d)
    obtain ⟨va,hva⟩:=nm (Av d)
    obtain ⟨ot,hot⟩:=nm (Ac d)
    obtain ⟨al,hal⟩:=nm ((Ah d).length)
    obtain ⟨tl,htl⟩:=nm ((Af d).length)
    obtain ⟨el,hel⟩:=nm ((Al d).length)
    rw [<-htl] at hT
    rw [<-hel] at hE
    rw [<-hkd,<-hva,<-hot,<-hal,<-htl,<-hel] at hcs
    have q0:wr.cell? ⟨b,off+j*9,none⟩=_:=Ab hB _ _ (hcs 0 _ rfl)
    have q1:=Ab hB _ _ (hcs 1 _ rfl)
    have q2:=Ab hB _ _ (hcs 2 _ rfl)
    have q3:=Ab hB _ _ (hcs 3 _ rfl)
    have q4:=Ab hB _ _ (hcs 4 _ rfl)
    have q5:=Ab hB _ _ (hcs 5 _ rfl)
    have q6:=Ab hB _ _ (hcs 6 _ rfl)
    have q7:=Ab hB _ _ (hcs 7 _ rfl)
    have q8:=Ab hB _ _ (hcs 8 _ rfl)
    have hba:Ov wr (wr.alloc (zf #[zd U kd,zd U va,zd U ot,zd U ek,zd U en,O xa xl xc,O aa al ac,O ta tl tc,O ea el ec] 130)):=bA wr _
    have hBa:=hB.trans (hba.mono hB.size)
    have hTa:=hT.over hBa
    have K1:=Aa fun (h1:M+1<=50) (h2:deep<=6)=>IH.o (O ta tl tc) (Af d) (deep+1) (M+1) _ hTa (by omega) (by omega) (by omega) h1
    have K2:=Aa fun W (hW:Ov w W) (mm:Int) (h0:0<=mm) (h1:mm<=50) (h2:deep<=6)=>IH.o (O ea el ec) (Al d) (deep+1) mm W (hE.over hW) (by omega) (by omega) h0 h1
    rw [<-hn1] at K1
    rw [<-hn2] at K2
    have s8:(wr.alloc (zf #[zd U kd,zd U va,zd U ot,zd U ek,zd U en,O xa xl xc,O aa al ac,O ta tl tc,O ea el ec] 130)).cell? ⟨wr.heap.size,8,none⟩=some (O ea el ec):=by simp [go_sem]
    clear hT hE hTa hcs hcl hr hl9 hn1 hn2 hkd hva hot hal htl hel hd
    by_cases c1:M+1<=50/\deep<=6
    ·obtain ⟨c1,c2⟩:=c1
     have K1':=Aa (K1.o c1 c2)
     go_wp2_with fail
     refine (KM.o true 2 _).mono ?_
     rintro e wz ⟨he,rfl⟩
     have he2:=orT he
     subst he2
     clear he
     go_wp2_with fail
     refine (K1'.o).mono ?_
     rintro e w1 ⟨he,hb1⟩
     have hB1:=hBa.trans (hb1.mono hBa.size)
     rcases he with ⟨rfl,hm1,hdp1⟩ | ⟨hng,rfl⟩
     ·have HDP1:=Aa hdp1
      clear hdp1
      have t8:=Ab hb1 _ _ s8
      have hM1:0<=M+1+(n1:Int):=by omega
      obtain ⟨M1,hM1e⟩:=nm (M+1+(n1:Int))
      rw [<-hM1e] at hm1 hM1 ⊢
      have HME:=Aa hM1e
      clear hM1e
      have K2':=Aa (K2.o w1 hB1 M1 hM1 hm1 c2)
      clear K1 K2 K1' s8 hb1 hBa q0 q1 q2 q3 q4 q5 q6 q7 q8 hB hba
      go_wp2_with fail
      refine (K2'.o).mono ?_
      rintro e w2 ⟨he,hb2⟩
      have hB2:=hB1.trans (hb2.mono hB1.size)
      rcases he with ⟨rfl,hm2,hdp2⟩ | ⟨hng,rfl⟩
      ·have HDN:Hx (dps (k+1) deep (l.take (j+1))):=Aa (fun s hs=>by
        rw [HTL.o,List.mem_append,List.mem_singleton] at hs
        rcases hs with hs | rfl
        ·exact HDP.o s hs
        ·exact ⟨c2,HDP1.o,hdp2⟩)
       clear K2' t8 hb2 hB1 hdp2
       go_wp2_with fail
       refine ⟨⟨j+1,by omega,by go_num,?_,?_,HDN,hB2⟩,by simp [intOf];omega⟩
       ·rw [HTK.o]
        have:=HMM.o
        refine congrArg (Value.int IntKind.i64) ?_
        have h2:=HME.o
        push_cast
        omega
       ·rw [HTK.o]
        have:=HMM.o
        have h2:=HME.o
        push_cast
        omega
      ·have HN:Hx (¬ (many+(Aj (k+1) l:Nat)<=50/\dps (k+1) deep l)):=Aa (fun hh=>hng ⟨by have h1:=HTOT.o;have h2:=HME.o;have h3:=hh.1;omega,(hh.2 d HMD.o).2.2⟩)
       clear hng
       unfold Ak
       go_wp2_with fail
       exact ⟨rfl,Or.inr ⟨HN.o,rfl⟩,hB2⟩
     ·have HN:Hx (¬ (many+(Aj (k+1) l:Nat)<=50/\dps (k+1) deep l)):=Aa (fun hh=>hng ⟨by have h1:=HTOT.o;have h3:=hh.1;omega,(hh.2 d HMD.o).2.1⟩)
      clear hng
      unfold Ak
      go_wp2_with fail
      exact ⟨rfl,Or.inr ⟨HN.o,rfl⟩,hB1⟩
    ·clear K1 K2 s8
     by_cases c2:M+1<=50
     ·have c3:¬ deep<=6:=fun h=>c1 ⟨c2,h⟩
      clear c1
      have HN:Hx (¬ (many+(Aj (k+1) l:Nat)<=50/\dps (k+1) deep l)):=Aa (fun hh=>c3 (hh.2 d HMD.o).1)
      go_wp2_with fail
      refine (KM.o false 2 _).mono ?_
      rintro e wz ⟨he,rfl⟩
      have he2:e=Ak 2:=by
       rcases he with ⟨he,_⟩ | ⟨_,he⟩
       ·cases he
       ·exact he
      subst he2
      clear he
      unfold Ak
      go_wp2_with fail
      exact ⟨rfl,Or.inr ⟨HN.o,rfl⟩,hBa⟩
     ·clear c1
      have HN:Hx (¬ (many+(Aj (k+1) l:Nat)<=50/\dps (k+1) deep l)):=Aa (fun hh=>c2 (by have h1:=HTOT.o;have h3:=hh.1;omega))
      go_wp2_with fail
      refine (KM.o false 2 _).mono ?_
      rintro e wz ⟨he,rfl⟩
      have he2:e=Ak 2:=by
       rcases he with ⟨he,_⟩ | ⟨_,he⟩
       ·cases he
       ·exact he
      subst he2
      clear he
      unfold Ak
      go_wp2_with fail
      exact ⟨rfl,Or.inr ⟨HN.o,rfl⟩,hBa⟩
   ·have hd:l.take j=l:=List.take_of_length_le (by omega)
    rw [hd] at hle HDP ⊢
    go_wp2_with fail
    go_ret
    exact ⟨Or.inl ⟨rfl,hle,HDP.o⟩,hB⟩
theorem LJ {k:Nat} {l:List FnD} (j:Nat):An k (l.take j)<=An k l:=by
 have h:An k l=An k (l.take j)+An k (l.drop j):=by
  unfold An
  rw [<-List.sum_append,<-List.map_append,List.take_append_drop]
 omega
def dpF (k:Nat) (fs:List FnD):Prop:=∀ f∈fs,dps k 1 f.body
def LR (dp:Prop) (n:Int) (w:World) (e:Ending) (w':World):Prop:=((e=zh (zj #[])/\n<=50/\dp)\/(¬ (n<=50/\dp)/\e=Ak 2))/\Ov w w'
theorem limits_any (K k:Nat) (m:Int) (ga gn gc sa sn sc ya yn yc oa on oc va vn vc) (fa fn fc ba bn bc) (fs l) (w:World) (hf:AL w K k (O fa fn fc) fs) (hl:AD w K k (O ba bn bc) l) :
  Calls Tryz.prog 175 #[zg #[zd U m,O ga gn gc,O sa sn sc,O ya yn yc,O oa on oc,O va vn vc,O fa fn fc,O ba bn bc]] w (LR (dpF k fs/\dps k 1 l) ((An k fs:Nat)+(Aj k l:Nat)) w):=by
 have zr:=Ay w [zd U m,O ga gn gc,O sa sn sc,O ya yn yc,O oa on oc,O va vn vc,O fa fn fc,O ba bn bc] 184
 have c6:=zr 6 _ rfl
 have c7:=zr 7 _ rfl
 clear zr
 have hbel:Ov w (w.alloc (zf #[zd U m,O ga gn gc,O sa sn sc,O ya yn yc,O oa on oc,O va vn vc,O fa fn fc,O ba bn bc] 184)):=bA w _
 obtain ⟨hfl,fa',fc',hfe,hfc⟩:=hf
 injection hfe with e1 e2 e3
 subst e1 e2 e3
 have hfl':fs.length<=9223372036854775807:=hfl
 have HF:=Aa hfc
 have HM:=Aa hl
 clear hfc hl hfl
 have K1:=Aa (Ja K)
 go_enter Tryz.func175,Tryz.ntmps175
 go_wp2_with fail
 go_loopw [2,9] (fun c i wr=>∃ j:Nat,j<=fs.length/\i=zd U j/\c=zd U (An k (fs.take j):Nat)/\((An k (fs.take j):Nat):Int)<=50/\Hx (dpF k (fs.take j))/\wr.cell? ⟨w.heap.size,7,none⟩=some (O ba bn bc)/\Ov w wr) (fun _ i _=>fs.length - (intOf i).toNat)
 case atStart=>exact ⟨0,Nat.zero_le _,rfl,by simp [An],by simp [An],Aa (fun s hs=>absurd hs (by simp)),c7,hbel⟩
 case round=>
  clear c6 c7 hbel
  obtain ⟨j,hj,rfl,rfl,hle,HDP,c7,hB⟩:=hrel
  by_cases hjl:j < fs.length
  ·obtain ⟨b,off,rfl,hcl⟩:=HF.o (by rintro rfl;simp at hjl)
   obtain ⟨vP,vB,x0,x1,x2,q0,q1,q2,q3,q4,hp,hpl,hs,hx⟩:=hcl j hjl
   obtain ⟨pa,pc,rfl,-⟩:=hp
   obtain ⟨za,zc,rfl,-⟩:=hs.2
   obtain ⟨xa,xc,hxf⟩:=hx.form
   simp only [List.cons.injEq,and_true] at hxf
   obtain ⟨rfl,rfl,rfl⟩:=hxf
   have htk:=B9 (k:=k) hjl
   obtain ⟨fd,hfd⟩:=nm (fs[j])
   have hmd:=List.getElem_mem hjl
   have htl2:fs.take (j+1)=fs.take j++[fs[j]]:=List.take_succ_eq_append_getElem hjl
   have hle2:=LJ (k:=k) (l:=fs) (j+1)
   rw [<-hfd] at q0 q1 q2 q3 q4 hs htk hmd htl2
   have HMD:=Aa hmd
   have HTL:=Aa htl2
   clear hmd htl2
   obtain ⟨M,hM⟩:∃ M:Nat,M=An k (fs.take j):=⟨_,rfl⟩
   rw [<-hM] at hle htk ⊢
   have HTK:=Aa htk
   have HTOT:Hx (M+Aj k fd.body<=An k fs):=Aa (by rw [<-htk];exact hle2)
   have HFB:Hx (fd∈fs):=HMD
   clear htk hM hle2
   have r0:wr.cell? ⟨b,off+j*5,none⟩=_:=Ab hB _ _ q0
   obtain ⟨r1,r2,r3,r4⟩:=co4 hB q1 q2 q3 q4
   obtain ⟨pn,hpn⟩:=nm fd.ps.length
   obtain ⟨zn,hzn⟩:=nm fd.body.length
   obtain ⟨ek,hek⟩:=nm (Ap fd.res)
   obtain ⟨en,hen⟩:=nm (AA fd.res)
   obtain ⟨xl,hxl⟩:=nm ((Ar fd.res).length)
   rw [<-hpn] at r0
   rw [<-hzn] at r1 hs
   rw [<-hek] at r2
   rw [<-hen] at r3
   rw [<-hxl] at r4
   have hba:=bA wr (zf #[O pa pn pc,O za zn zc,zd U ek,zd U en,O xa xl xc] 105)
   have hBa:=hB.trans (hba.mono hB.size)
   have c7':=Ab hba _ _ c7
   have K1':=Aa (K1.o k _ _ 1 (M:Int) _ (hs.over hBa) (by omega) (by omega) (by omega) hle)
   obtain ⟨n1,hn1⟩:=nm (Aj k fd.body)
   rw [<-hn1] at K1' HTK HTOT
   clear q0 q1 q2 q3 q4 hs hx hcl hfd hpn hzn hek hen hxl hn1 hpl
   go_wp2_with fail
   refine (K1'.o).mono ?_
   rintro e w1 ⟨he,hb1⟩
   have hB1:=hBa.trans (hb1.mono hBa.size)
   rcases he with ⟨rfl,hm1,hdp1⟩ | ⟨hng,rfl⟩
   ·have HDN:Hx (dpF k (fs.take (j+1))):=Aa (fun f hf=>by
     rw [HTL.o,List.mem_append,List.mem_singleton] at hf
     rcases hf with hf | rfl
     ·exact HDP.o f hf
     ·exact hdp1)
    clear hdp1
    have c7'':=Ab hb1 _ _ c7'
    clear K1' hb1 hBa hba hB r0 r1 r2 r3 r4 c7 c7'
    go_wp2_with fail
    refine ⟨⟨j+1,by omega,by go_num,?_,?_,HDN,c7'',hB1⟩,by simp [intOf];omega⟩
    ·rw [HTK.o]
     refine congrArg (Value.int IntKind.i64) ?_
     push_cast
     omega
    ·rw [HTK.o]
     push_cast
     omega
   ·have HN:Hx (¬ ((An k fs:Nat)+((Aj k l:Nat):Int)<=50/\dpF k fs/\dps k 1 l)):=Aa (fun hh=>hng ⟨by have h1:=HTOT.o;have h3:=hh.1;omega,hh.2.1 fd HMD.o⟩)
    clear hng
    unfold Ak
    go_wp2_with fail
    exact ⟨rfl,Or.inr ⟨HN.o,rfl⟩,hB1⟩
  ·have hd:fs.take j=fs:=List.take_of_length_le (by omega)
   rw [hd] at hle HDP ⊢
   have K1':=Aa (K1.o k _ _ 1 ((An k fs:Nat):Int) _ (HM.o.over hB) (by omega) (by omega) (by omega) hle)
   obtain ⟨M,hM⟩:∃ M:Nat,M=An k fs:=⟨_,rfl⟩
   rw [<-hM] at K1' hle ⊢
   have HMM:=Aa hM
   clear hM hd
   go_wp2_with fail
   refine (K1'.o).mono ?_
   rintro e w1 ⟨he,hb1⟩
   have hB1:=hB.trans (hb1.mono hB.size)
   rcases he with ⟨rfl,hm1,hdp1⟩ | ⟨hng,rfl⟩
   ·have hm2:((An k fs:Nat):Int)+(Aj k l:Nat)<=50:=by rw [<-HMM.o];exact hm1
    have HM2:=Aa hm2
    have HD2:=Aa hdp1
    clear K1' hm2 hdp1
    go_wp2_with fail
    go_end0
    exact ⟨Or.inl ⟨rfl,HM2.o,HDP.o,HD2.o⟩,hB1⟩
   ·have HN:Hx (¬ ((An k fs:Nat)+((Aj k l:Nat):Int)<=50/\dpF k fs/\dps k 1 l)):=Aa (fun hh=>hng ⟨by have h1:=HMM.o;have h3:=hh.1;omega,hh.2.2⟩)
    clear hng
    unfold Ak
    go_wp2_with fail
    exact ⟨rfl,Or.inr ⟨HN.o,rfl⟩,hB1⟩
structure xP (K kf:Nat) (m:Int) (vn yn on sn:Nat) (gs:List (Int × Int)) (sp:List Int) (ls ms:List Lab) (vs:List (Bool × Lab)) (fs:List FnD) (l:List D):Prop where
 chk:AX m gs=0
 lim:(vn:Int)<=16/\(yn:Int)<=5/\(on:Int)<=5/\(fs.length:Int)<=5/\(sn:Int)<=m
 speak:∀ x∈sp,0<=x/\x < m
 labs:C5 m gs (ls++ms) vs
 many:((An kf fs:Nat):Int)+(Aj kf l:Nat)<=50/\dpF kf fs/\dps kf 1 l
 body:∀ i (h:i < fs.length),xF K vn yn on (i:Int) fs kf fs[i]
 main:∀ s∈l,xS K vn yn on (fs.length:Int) fs kf s
theorem xP.ok {K kf:Nat} {m:Int} {vn yn on sn:Nat} {gs:List (Int × Int)} {sp:List Int} {ls ms:List Lab} {vs:List (Bool × Lab)} {fs:List FnD} {l:List D} (h:xP K kf m vn yn on sn gs sp ls ms vs fs l):okP K kf m vn yn on gs sp ls ms vs fs l:=
 ⟨h.chk,h.speak,h.labs,by have:=h.lim;omega,by have:=h.lim;omega,by have:=h.lim;omega,by have:=h.lim;omega,by have:=h.many.1;omega,fun i hi=>(h.body i hi).ok,fun s hs=>(h.main s hs).ok⟩
theorem DN (K kf:Nat) (m:Int) (ga gn gc sa sn sc ya yn yc oa on oc va vn vc fa fn fc ba bn bc gs sp ls ms vs fs l) (w:World) (h:Bf K kf m ga gn gc sa sn sc ya yn yc oa on oc va vn vc fa fn fc ba bn bc gs sp ls ms vs fs l w) :
  Calls Tryz.prog 113 #[zg #[zd U m,O ga gn gc,O sa sn sc,O ya yn yc,O oa on oc,O va vn vc,O fa fn fc,O ba bn bc]] w (BB (xP K kf m vn yn on sn gs sp ls ms vs fs l) w):=by
 have hfx:fn=fs.length:=by obtain ⟨-,a,c,he,-⟩:=h.funcs;injection he
 have HFX:=Aa hfx
 clear hfx
 have hbel:Ov w (w.alloc (zf #[zd U m,O ga gn gc,O sa sn sc,O ya yn yc,O oa on oc,O va vn vc,O fa fn fc,O ba bn bc] 184)):=bA w _
 have HP:=Aa (h.over hbel)
 have KP:=Aa CP
 have KM:=Aa AM
 have KO:=Aa Ax
 have KA:=Aa (Go.Proofs.YtfffpjkcfnekaaaGreat.check_any m (O ga gn gc) gs)
 have hvl:vn<=9223372036854775807:=by obtain ⟨hm,a,c,he,-⟩:=h.vars;injection he with e1 e2 e3;rw [e2];exact hm
 obtain ⟨c0,c1,c2,c3,c4,c5,c6,c7⟩:=rc8 (Ay w [zd U m,O ga gn gc,O sa sn sc,O ya yn yc,O oa on oc,O va vn vc,O fa fn fc,O ba bn bc] 184)
 clear h
 go_enter Tryz.func113,Tryz.ntmps113
 go_wp2_with fail
 refine (KA.o _ (HP.o.grants)).mono ?_
 rintro e w1 ⟨rfl,hb1⟩
 obtain ⟨d0,d1,d2,d3,d4,d5,d6,d7⟩:=co8 hb1 c0 c1 c2 c3 c4 c5 c6 c7
 have hB1:=hbel.trans (hb1.mono hbel.size)
 have HP1:=Aa (HP.o.over hb1)
 obtain ⟨ce,hce⟩:=nm (AX m gs)
 rw [<-hce]
 have HCE:=Aa hce
 clear KA c0 c1 c2 c3 c4 c5 c6 c7 hb1 hbel hce HP
 go_wp2_with fail
 refine (KP.o _ _).mono ?_
 rintro e wz ⟨he,rfl⟩
 rcases he with ⟨hz,rfl⟩ | ⟨hz,rfl⟩
 rotate_left
 ·have hz2:ce≠0:=by simpa using hz
  have HN:Hx (¬ xP K kf m vn yn on sn gs sp ls ms vs fs l):=Aa (fun hx=>hz2 (HCE.o.trans hx.chk))
  unfold Ak
  go_wp2_with fail
  exact ⟨rfl,Or.inr ⟨HN.o,ce,hz2,rfl⟩,hB1⟩
 have HCHK:=Aa (show AX m gs=0 by rw [<-HCE.o];simpa using hz)
 clear hz HCE
 by_cases hlim:((vn:Int)<=16/\(yn:Int)<=5/\(on:Int)<=5/\(fn:Int)<=5/\(sn:Int)<=m)
 rotate_left
 ·have HL:=Aa hlim
  have HN:Hx (¬ xP K kf m vn yn on sn gs sp ls ms vs fs l):=Aa (fun hx=>hlim (by rw [HFX.o];exact hx.lim))
  clear hlim
  go_wp2_with fail
  all_goals
   refine (KM.o _ _ _).mono ?_
   rintro e wz ⟨he,rfl⟩
   rcases he with ⟨hz,rfl⟩ | ⟨hz,rfl⟩
   ·exfalso
    have:=HL.o
    first | (simp at hz;done) | (simp at hz;omega)
   ·clear hz
    unfold Ak
    go_wp2_with fail
    exact ⟨rfl,Or.inr ⟨HN.o,2,by decide,rfl⟩,hB1⟩
 have HLIM:Hx ((vn:Int)<=16/\(yn:Int)<=5/\(on:Int)<=5/\(fs.length:Int)<=5/\(sn:Int)<=m):=Aa (by rw [<-HFX.o];exact hlim)
 obtain ⟨l1,l2,l3,l4,l5⟩:=hlim
 go_wp2_with fail
 refine (KM.o _ _ _).mono ?_
 rintro e wz ⟨he,rfl⟩
 rcases he with ⟨hz,rfl⟩ | ⟨hz,rfl⟩
 rotate_left
 ·cases hz
 clear hz
 have hsn:sn=sp.length:=by obtain ⟨a,c,he,-⟩:=HP1.o.speak;injection he
 have hsl:sn<=9223372036854775807:=by rw [hsn];exact HP1.o.speakL
 have HSN:=Aa hsn
 clear hsn
 go_wp2_with fail
 go_loopw [53] (fun i wr=>∃ n:Nat,n<=sn/\i=zd U n/\(∀ x∈sp.take n,0<=x/\x < m)/\(wr.cell? ⟨w.heap.size,0,none⟩=some (zd U m)/\wr.cell? ⟨w.heap.size,1,none⟩=some (O ga gn gc)/\wr.cell? ⟨w.heap.size,2,none⟩=some (O sa sn sc)/\wr.cell? ⟨w.heap.size,3,none⟩=some (O ya yn yc)/\wr.cell? ⟨w.heap.size,4,none⟩=some (O oa on oc)/\wr.cell? ⟨w.heap.size,5,none⟩=some (O va vn vc)/\wr.cell? ⟨w.heap.size,6,none⟩=some (O fa fn fc)/\wr.cell? ⟨w.heap.size,7,none⟩=some (O ba bn bc))/\Ov wz wr) (fun i _=>sn - (intOf i).toNat)
 case atStart=>exact ⟨0,Nat.zero_le _,rfl,by simp,⟨d0,d1,d2,d3,d4,d5,d6,d7⟩,Below.refl _ _⟩
 case round=>
  clear d0 d1 d2 d3 d4 d5 d6 d7
  obtain ⟨n,hn,rfl,hok1,⟨d0,d1,d2,d3,d4,d5,d6,d7⟩,hB⟩:=hrel
  have HOK1:=Aa hok1
  clear hok1
  have hBw:=hB1.trans (hB.mono hB1.size)
  by_cases hnl:n < sn
  ·obtain ⟨a2,c2,he,hel⟩:=HP1.o.speak.over hB
   injection he with e1 e2 e3
   have hnd:n < sp.length:=by omega
   obtain ⟨b,off,hbo,hel2⟩:=hel (by intro h;rw [h] at hnd;simp at hnd)
   have q:=hel2 n hnd
   have e1':=e1.trans hbo
   subst e1'
   obtain ⟨x,hx⟩:=nm (sp[n])
   rw [<-hx] at q
   have HX:=Aa hx
   clear hel hel2 hx e1 e2 e3 hbo
   go_wp2_with fail
   refine (KO.o _ _ _).mono ?_
   rintro e wy ⟨rfl,rfl⟩
   obtain ⟨ok,hok⟩:=nm (decide (0<=x/\x < m))
   rw [<-hok]
   have HOK:=Aa hok
   clear hok
   go_wp2_with fail
   refine (KM.o _ _ _).mono ?_
   rintro e wx ⟨he,rfl⟩
   rcases he with ⟨hz,rfl⟩ | ⟨hz,rfl⟩
   rotate_left
   ·have HN:Hx (¬ xP K kf m vn yn on sn gs sp ls ms vs fs l):=Aa (fun hx=>by have h1:=HOK.o;rw [hz] at h1;have h2:=hx.speak x (by rw [HX.o];exact List.getElem_mem _);simp at h1;omega)
    clear hz
    unfold Ak
    go_wp2_with fail
    exact ⟨rfl,Or.inr ⟨HN.o,5,by decide,rfl⟩,hBw⟩
   have HZ:=Aa (show 0<=x/\x < m by have h:=HOK.o;rw [hz] at h;simpa using h.symm)
   clear hz HOK
   go_wp2_with fail
   exact ⟨⟨n+1,by omega,by go_num,B0 hnd HOK1.o (by rw [<-HX.o];exact HZ.o),⟨d0,d1,d2,d3,d4,d5,d6,d7⟩,hB⟩,by simp [intOf];omega⟩
  ·have HP2:=Aa (HP1.o.over hB)
   obtain ⟨w2,hw2⟩:=nm wr
   rw [<-hw2] at d0 d1 d2 d3 d4 d5 d6 d7 hBw HP2 ⊢
   have HSP:=Aa (B3 (by rw [<-HSN.o];omega) HOK1.o)
   clear hw2 hB HP1 hB1 HOK1
   have KL:=Aa (Df m ga gn gc sa sn sc ya yn yc oa on oc va vn vc fa fn fc ba bn bc gs ls ms vs w2 HP2.o.grants HP2.o.ins HP2.o.outs HP2.o.vars (by omega) (by omega) HP2.o.insN HP2.o.outsN)
   go_wp2_with fail
   refine (KL.o).mono ?_
   rintro e w3 ⟨he,hb3⟩
   have hBw3:=hBw.trans (hb3.mono hBw.size)
   have HP3:=Aa (HP2.o.over hb3)
   obtain ⟨r0,r1,r2,r3,r4,r5,r6,r7⟩:=co8 hb3 d0 d1 d2 d3 d4 d5 d6 d7
   clear KL d0 d1 d2 d3 d4 d5 d6 d7
   rcases he with ⟨hlab,rfl⟩ | ⟨hng,why,hne,rfl⟩
   rotate_left
   ·have HN:Hx (¬ xP K kf m vn yn on sn gs sp ls ms vs fs l):=Aa (fun hx=>hng hx.labs)
    clear hng
    unfold Ak
    go_wp2_with fail
    exact ⟨rfl,Or.inr ⟨HN.o,why,hne,rfl⟩,hBw3⟩
   have HLAB:=Aa hlab
   clear hb3 HP2 hBw hlab
   have KI:=Aa (limits_any K kf m ga gn gc sa sn sc ya yn yc oa on oc va vn vc fa fn fc ba bn bc fs l w3 HP3.o.funcs HP3.o.main)
   go_wp2_with fail
   refine (KI.o).mono ?_
   rintro e w4 ⟨he,hb4⟩
   have hBw4:=hBw3.trans (hb4.mono hBw3.size)
   have HP4:=Aa (HP3.o.over hb4)
   obtain ⟨d0,d1,d2,d3,d4,d5,d6,d7⟩:=co8 hb4 r0 r1 r2 r3 r4 r5 r6 r7
   clear KI r0 r1 r2 r3 r4 r5 r6 r7
   rcases he with ⟨rfl,hlm⟩ | ⟨hng,rfl⟩
   rotate_left
   ·have HN:Hx (¬ xP K kf m vn yn on sn gs sp ls ms vs fs l):=Aa (fun hx=>hng hx.many)
    clear hng
    unfold Ak
    go_wp2_with fail
    exact ⟨rfl,Or.inr ⟨HN.o,2,by decide,rfl⟩,hBw4⟩
   have HLM:=Aa hlm
   have hfn:fn=fs.length:=by obtain ⟨-,a,c,he,-⟩:=HP4.o.funcs;injection he
   have HFN:=Aa hfn
   clear hb4 HP3 hBw3 hlm hfn
   go_wp2_with fail
   go_loopw [73] (fun i wr=>∃ n:Nat,n<=fn/\i=zd U n/\(∀ j (h:j < fs.length),j < n->xF K vn yn on (j:Int) fs kf fs[j])/\(wr.cell? ⟨w.heap.size,0,none⟩=some (zd U m)/\wr.cell? ⟨w.heap.size,1,none⟩=some (O ga gn gc)/\wr.cell? ⟨w.heap.size,2,none⟩=some (O sa sn sc)/\wr.cell? ⟨w.heap.size,3,none⟩=some (O ya yn yc)/\wr.cell? ⟨w.heap.size,4,none⟩=some (O oa on oc)/\wr.cell? ⟨w.heap.size,5,none⟩=some (O va vn vc)/\wr.cell? ⟨w.heap.size,6,none⟩=some (O fa fn fc)/\wr.cell? ⟨w.heap.size,7,none⟩=some (O ba bn bc))/\Ov w4 wr) (fun i _=>fn - (intOf i).toNat)
   case atStart=>exact ⟨0,Nat.zero_le _,rfl,fun j h h'=>absurd h' (by omega),⟨d0,d1,d2,d3,d4,d5,d6,d7⟩,Below.refl _ _⟩
   case round=>
    clear d0 d1 d2 d3 d4 d5 d6 d7
    obtain ⟨n,hn,rfl,hok,⟨d0,d1,d2,d3,d4,d5,d6,d7⟩,hB⟩:=hrel
    have HOK:=Aa hok
    clear hok
    have hBw:=hBw4.trans (hB.mono hBw4.size)
    by_cases hnl:n < fn
    ·obtain ⟨-,ao,cap,he,hel⟩:=HP4.o.funcs.over hB
     injection he with e1 e2 e3
     have hnd:n < fs.length:=by omega
     obtain ⟨b,off,hbo,hel2⟩:=hel (by intro h;rw [h] at hnd;simp at hnd)
     obtain ⟨vP,vB,x0,x1,x2,q0,q1,q2,q3,q4,hp,⟨hpl,pa,pc,hvp,hpc⟩,hs,hx⟩:=hel2 n hnd
     have e1':=e1.trans hbo
     subst e1'
     subst hvp
     have hs0:=hs
     obtain ⟨-,za,zc,hvb,-⟩:=hs0
     subst hvb
     obtain ⟨xa,xc,hxf⟩:=hx.form
     simp only [List.cons.injEq,and_true] at hxf
     obtain ⟨rfl,rfl,rfl⟩:=hxf
     have hba:=bA wr (zf #[O pa fs[n].ps.length pc,O za fs[n].body.length zc,zd U (Ap fs[n].res),zd U (AA fs[n].res),O xa (Ar fs[n].res).length xc] 105)
     have hBa:=hBw.trans (hba.mono hBw.size)
     have hB4a:=Ag hB hba
     have KF:=Aa (CN K kf kf fs fs[n] (n:Int) m ga gn gc sa sn sc ya yn yc oa on oc va vn vc (some ⟨b,off,none⟩) fn fc ba bn bc pa fs[n].ps.length pc za fs[n].body.length zc (Ap fs[n].res) (AA fs[n].res) xa (Ar fs[n].res).length xc _ hvl (by omega) (by omega) (by omega) (by omega) (by omega) (hp.over hba) hpl hpc (hs.over hba) (hx.over hba) (HP4.o.funcs.over hB4a))
     obtain ⟨pl,hpl2⟩:=nm (fs[n].ps.length)
     obtain ⟨zl,hzl2⟩:=nm (fs[n].body.length)
     obtain ⟨ek,hek2⟩:=nm (Ap fs[n].res)
     obtain ⟨en,hen2⟩:=nm (AA fs[n].res)
     obtain ⟨xl,hxl2⟩:=nm ((Ar fs[n].res).length)
     rw [<-hpl2,<-hzl2,<-hek2,<-hen2,<-hxl2] at KF hba hBa hB4a
     rw [<-hpl2] at q0
     rw [<-hzl2] at q1
     rw [<-hek2] at q2
     rw [<-hen2] at q3
     rw [<-hxl2] at q4
     obtain ⟨f0,f1,f2,f3,f4,f5,f6,f7⟩:=co8 hba d0 d1 d2 d3 d4 d5 d6 d7
     clear hel hel2 e1 e2 e3 hbo hp hpl hpc hs hx hpl2 hzl2 hek2 hen2 hxl2 d0 d1 d2 d3 d4 d5 d6 d7
     go_wp2_with fail
     refine (KF.o).mono ?_
     rintro e w5 ⟨he,hb5⟩
     have hB5:=Ag hB4a hb5
     have hBw5:=hBa.trans (hb5.mono hBa.size)
     obtain ⟨r0,r1,r2,r3,r4,r5,r6,r7⟩:=co8 hb5 f0 f1 f2 f3 f4 f5 f6 f7
     clear KF f0 f1 f2 f3 f4 f5 f6 f7 hb5 hba hBa hB4a hB hBw q0 q1 q2 q3 q4
     rcases he with ⟨hok,rfl⟩ | ⟨hng,why,hne,rfl⟩
     rotate_left
     ·have HN:Hx (¬ xP K kf m vn yn on sn gs sp ls ms vs fs l):=Aa (fun hx=>hng (hx.body n hnd))
      clear hng
      unfold Ak
      go_wp2_with fail
      exact ⟨rfl,Or.inr ⟨HN.o,why,hne,rfl⟩,hBw5⟩
     have HOK2:=Aa hok
     clear hok
     go_wp2_with fail
     refine ⟨⟨n+1,by omega,by go_num,fun j h h'=>?_,⟨r0,r1,r2,r3,r4,r5,r6,r7⟩,hB5⟩,by simp [intOf];omega⟩
     by_cases hjn:j < n
     ·exact HOK.o j h hjn
     ·obtain rfl:j=n:=by omega
      exact HOK2.o
    ·have KS:=Aa (Cy K kf fs (fn:Int) m ga gn gc sa sn sc ya yn yc oa on oc va vn vc fa fn fc ba bn bc hvl (by omega) (by omega) (by omega) (by omega) (by have:=HFN.o;omega) kf (O ba bn bc) l wr (HP4.o.main.over hB) (HP4.o.funcs.over hB))
     go_wp2_with fail
     refine (KS.o).mono ?_
     rintro e w5 ⟨he,hb5⟩
     have hBw5:=hBw.trans (hb5.mono hBw.size)
     clear KS d0 d1 d2 d3 d4 d5 d6 d7 hb5 hB hBw
     rcases he with ⟨hok,rfl⟩ | ⟨hng,why,hne,rfl⟩
     rotate_left
     ·have HN:Hx (¬ xP K kf m vn yn on sn gs sp ls ms vs fs l):=Aa (fun hx=>hng (by rw [HFN.o];exact hx.main))
      clear hng
      unfold Ak
      go_wp2_with fail
      exact ⟨rfl,Or.inr ⟨HN.o,why,hne,rfl⟩,hBw5⟩
     have HOK2:=Aa hok
     clear hok
     go_wp2_with fail
     go_end0
     have hfn:=HFN.o
     have hlm:=HLM.o
     refine ⟨Or.inl ⟨⟨HCHK.o,HLIM.o,HSP.o,HLAB.o,HLM.o,fun j h=>HOK.o j h (by omega),?_⟩,rfl⟩,hBw5⟩
     rw [<-hfn]
     exact HOK2.o
def Kl (ok:Prop) (w:World) (f:Int->Value) (e:Ending) (w':World):Prop:=∃ why:Int,e=zh (f why)/\(why=0 ↔ ok)/\Ov w w'
theorem DP (K kf:Nat) (m:Int) (ga gn gc sa sn sc ya yn yc oa on oc va vn vc fa fn fc ba bn bc gs sp ls ms vs fs l) (w:World) (h:Bf K kf m ga gn gc sa sn sc ya yn yc oa on oc va vn vc fa fn fc ba bn bc gs sp ls ms vs fs l w) :
  Calls Tryz.prog 112 #[.func (.func 113) #[zg #[zd U m,O ga gn gc,O sa sn sc,O ya yn yc,O oa on oc,O va vn vc,O fa fn fc,O ba bn bc]] #[]] w (Kl (xP K kf m vn yn on sn gs sp ls ms vs fs l) w fun why=>zj #[zd U 0,zd U why]):=by
 have hmf:∀ (fn:Fn) (first cap:Array Value) (w:World),(Instr.makeFunc fn first cap).run Tryz.prog w=.ok (.func fn first cap) w:=fun _ _ _ _=>rfl
 have HC:∀ (args:Array Value) (w:World),(callFunc 113 args).run Tryz.prog w=.ok (.enter 113 args) w:=fun args w=>by simp [go_sem]
 have hbel:Ov w ((w.alloc (zf #[zd U 0] 3)).alloc (zf #[zd U 0] 32)):=(bA w _).alloc (by simp) _
 have K:=Aa (DN K kf m ga gn gc sa sn sc ya yn yc oa on oc va vn vc fa fn fc ba bn bc gs sp ls ms vs fs l _ (h.over hbel))
 have q0:=CB w [zd U 0] 3 (zf #[zd U 0] 32) 0 _ rfl
 have q1:=CY w (zf #[zd U 0] 3) [zd U 0] 32 0 _ rfl
 have z0:((w.alloc (zf #[zd U 0] 3)).alloc (zf #[zd U 0] 32)).frozen? ⟨w.heap.size,0,none⟩=false:=by simp [go_sem]
 have z1:((w.alloc (zf #[zd U 0] 3)).alloc (zf #[zd U 0] 32)).frozen? ⟨w.heap.size+1,0,none⟩=false:=by simp [go_sem]
 clear h
 go_enter_defers Tryz.func112,Tryz.ntmps112
 go_wp2_with fail
 refine (K.o).mono ?_
 rintro e w1 ⟨he,hb1⟩
 obtain ⟨hc,hf⟩:=AI hb1
 have hB1:=hbel.trans (hb1.mono hbel.size)
 obtain ⟨p0,p1⟩:=co2 hb1 q0 q1
 have y0:=(hf w.heap.size 0 (by simp;omega)).trans z0
 have y1:=(hf (w.heap.size+1) 0 (by simp)).trans z1
 have g1:w.heap.size+1 < w1.heap.size:=bL p1
 have g0:w.heap.size < w1.heap.size:=by omega
 clear hc hf q0 q1 z0 z1 hb1 K hbel
 rcases he with ⟨hok,rfl⟩ | ⟨hng,why,hne,rfl⟩
 ·have HOK:=Aa hok
  clear hok
  go_wp2_with fail
  refine leaves_cons (f:=170) (args:=#[zi (some ⟨w.heap.size,0,none⟩),zi (some ⟨w.heap.size+1,0,none⟩)]) (by simp) (by simp [go_sem]) ?_
  refine (E8 _ _ _).mono ?_
  rintro e u' w2 ⟨rfl,rfl,rfl⟩
  have d0:((w1.setCell ⟨w.heap.size,0,none⟩ (zd U 0)).setCell ⟨w.heap.size+1,0,none⟩ (zd U 0)).cell? ⟨w.heap.size,0,none⟩=some (zd U 0):=by simp [go_sem,p0]
  have d1:((w1.setCell ⟨w.heap.size,0,none⟩ (zd U 0)).setCell ⟨w.heap.size+1,0,none⟩ (zd U 0)).cell? ⟨w.heap.size+1,0,none⟩=some (zd U 0):=by simp [go_sem,p1]
  have hbb:Ov w ((w1.setCell ⟨w.heap.size,0,none⟩ (zd U 0)).setCell ⟨w.heap.size+1,0,none⟩ (zd U 0)):=(hB1.setCell (by simp) _).setCell (by simp) _
  generalize ((w1.setCell ⟨w.heap.size,0,none⟩ (zd U 0)).setCell ⟨w.heap.size+1,0,none⟩ (zd U 0))=wF at d0 d1 hbb ⊢
  simp [Leaves,settle,results,Tryz.results112,go_sem,d0,d1]
  exact ⟨0,rfl,⟨fun _=>HOK.o,fun _=>rfl⟩,hbb⟩
 ·have HNG:=Aa hng
  clear hng
  unfold Ak
  go_wp2_with fail
  refine leaves_cons (f:=170) (args:=#[zi (some ⟨w.heap.size,0,none⟩),zi (some ⟨w.heap.size+1,0,none⟩)]) (by simp) (by simp [go_sem]) ?_
  refine (E9 w.heap.size 0 0 _ _ [] _ (by omega) p0 p1 y0 y1).mono ?_
  rintro e u' w2 ⟨rfl,rfl,d0,d1,hb2⟩
  have hbb:Ov w w2:=hB1.trans hb2
  simp [Leaves,settle,results,Tryz.results112,go_sem,d0,d1]
  exact ⟨why,rfl,⟨fun h=>absurd h hne,fun h=>absurd h HNG.o⟩,hbb⟩
theorem scopeCheck_any (K kf:Nat) (m:Int) (ga gn gc sa sn sc ya yn yc oa on oc va vn vc fa fn fc ba bn bc gs sp ls ms vs fs l) (w:World) (h:Bf K kf m ga gn gc sa sn sc ya yn yc oa on oc va vn vc fa fn fc ba bn bc gs sp ls ms vs fs l w) :
  Calls Tryz.prog 53 #[zg #[zd U m,O ga gn gc,O sa sn sc,O ya yn yc,O oa on oc,O va vn vc,O fa fn fc,O ba bn bc]] w (Kl (xP K kf m vn yn on sn gs sp ls ms vs fs l) w fun why=>zd U why):=by
 have hbel:Ov w ((w.alloc (zf #[zd U m,O ga gn gc,O sa sn sc,O ya yn yc,O oa on oc,O va vn vc,O fa fn fc,O ba bn bc] 31)).alloc (zf #[zd U m,O ga gn gc,O sa sn sc,O ya yn yc,O oa on oc,O va vn vc,O fa fn fc,O ba bn bc] 184)):=(bA w _).alloc (by simp) _
 have K:=Aa (DP K kf m ga gn gc sa sn sc ya yn yc oa on oc va vn vc fa fn fc ba bn bc gs sp ls ms vs fs l _ (h.over hbel))
 clear h
 go_enter Tryz.func53,Tryz.ntmps53
 go_wp2_with fail
 refine (K.o).mono ?_
 rintro e w1 ⟨why,rfl,hok,hb1⟩
 have hB1:=hbel.trans (hb1.mono hbel.size)
 have HOK:=Aa hok
 clear hbel hb1 K hok
 go_wp2_with fail
 go_ret
 exact ⟨why,rfl,HOK.o,hB1⟩
end Go.Proofs.YtfffpjkcfnekaaaGreat.Ex.Ey
