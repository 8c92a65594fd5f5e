/- A function's check: with what it is given up. -/
import Derived.Test.YtfffpjkcfnekaaaGreatB06
import Derived.Maps.AppendAt
set_option linter.unusedVariables false
set_option maxHeartbeats 8000000
set_option maxRecDepth 100000
namespace Go.Proofs.YtfffpjkcfnekaaaGreat.Ex.Ez
open Go.RowKit
open Go.Value renaming slice -> O, int -> U, bool -> zg, agg -> zh, pointer -> zi, tuple -> zk
open Go.IntKind renaming i64 -> zd
open Go.Obj renaming cells -> ze
open Go.Ending renaming returned -> zj
theorem f2a {a b:Int} (h:a≠0):Bu [a,b]=a:=by
 have e:[a,b]=[a]++[b]:=rfl
 rw [e,Cb,B5,if_neg h]
theorem f2b {a b:Int} (h:a=0):Bu [a,b]=b:=by
 have e:[a,b]=[a]++[b]:=rfl
 rw [e,Cb,B5,if_pos h,B5]
def eF (K:Nat) (nv ni no:Nat) (ahead:Int) (fs:List FnD) (k:Nat) (f:FnD):Int:=
 if f.ps.length<=4 then if (∀ p∈f.ps,0<=p/\p < (nv:Int)) then if (∀ i (h:i < f.ps.length),f.ps[i] ∉ f.ps.take i) then Bu [Bu (f.body.map (eS K nv ni no ahead fs k)),Az nv K f.res] else 6 else 5 else 2
abbrev OS (w:World) (m:Int) (ga:Option Addr) (gn gc:Nat) (sa:Option Addr) (sn sc:Nat) (ya:Option Addr) (yn yc:Nat) (oa:Option Addr) (on oc:Nat) (va:Option Addr) (vn vc:Nat) (fa:Option Addr) (fn fc:Nat) (ba:Option Addr) (bn bc:Nat) (pa:Option Addr) (pn pc:Nat) (za:Option Addr) (zn zc:Nat) (ek en:Int) (xa:Option Addr) (xl xc:Nat) (Wz:World):Prop:=Wz.cell? ⟨w.heap.size,0,none⟩=some (U zd m)/\Wz.cell? ⟨w.heap.size,1,none⟩=some (O ga gn gc)/\Wz.cell? ⟨w.heap.size,2,none⟩=some (O sa sn sc)/\Wz.cell? ⟨w.heap.size,3,none⟩=some (O ya yn yc)/\Wz.cell? ⟨w.heap.size,4,none⟩=some (O oa on oc)/\Wz.cell? ⟨w.heap.size,5,none⟩=some (O va vn vc)/\Wz.cell? ⟨w.heap.size,6,none⟩=some (O fa fn fc)/\Wz.cell? ⟨w.heap.size,7,none⟩=some (O ba bn bc)/\Wz.cell? ⟨w.heap.size+1,0,none⟩=some (O pa pn pc)/\Wz.cell? ⟨w.heap.size+1,1,none⟩=some (O za zn zc)/\Wz.cell? ⟨w.heap.size+1,2,none⟩=some (U zd ek)/\Wz.cell? ⟨w.heap.size+1,3,none⟩=some (U zd en)/\Wz.cell? ⟨w.heap.size+1,4,none⟩=some (O xa xl xc)
theorem GN (K kf k:Nat) (fs:List FnD) (f:FnD) (funcs:Int) (m:Int) (ga gn gc sa sn sc) (ya:Option Addr) (yn yc:Nat) (oa:Option Addr) (on oc:Nat) (va:Option Addr) (vn vc:Nat) (fa fn fc ba bn bc pa pn pc za zn zc) (ek en:Int) (xa xl xc) (w:World)
  (hv:vn<=9223372036854775807) (h0f:0<=funcs) (h1f:funcs<=9223372036854775807) (hyl:yn<=9223372036854775807) (hol:on<=9223372036854775807) (hff:funcs<=fs.length)
  (hp:AQ w (O pa pn pc) f.ps) (hpl:f.ps.length<=maxLen) (hpc:pn<=pc/\pc<=maxLen) (hs:Bd w K k (O za zn zc) f.body) (hx:RX w K [U zd ek,U zd en,O xa xl xc] f.res) (hfs:Bk w K kf (O fa fn fc) fs) :
  Calls Tryz.prog 176 #[zh #[U zd m,O ga gn gc,O sa sn sc,O ya yn yc,O oa on oc,O va vn vc,O fa fn fc,O ba bn bc],zh #[O pa pn pc,O za zn zc,U zd ek,U zd en,O xa xl xc],U zd funcs] w (CL (eF K vn yn on funcs fs k f) w):=by
 obtain ⟨E,hE⟩:∃ E:Int,E=eF K vn yn on funcs fs k f:=⟨_,rfl⟩
 rw [<-hE]
 unfold eF at hE
 have HE:=Aa hE
 clear hE
 have K1:=Aa BL
 have K2:=Aa Bb
 have KS:=Aa fun W (hB:Ov w W)=>FY K kf fs funcs m ga gn gc sa sn sc ya yn yc oa on oc va vn vc fa fn fc ba bn bc hv h0f h1f hyl hol hff k (O za zn zc) f.body W (hs.over hB) (hfs.over hB)
 have KX:=Aa fun W (hB:Ov w W)=>BT K m ga gn gc sa sn sc ya yn yc oa on oc va vn vc fa fn fc ba bn bc _ f.res W (hx.over hB) hv
 have KC:=Aa fun W (hB:Ov w W) (x:Int) (i:Nat) (hi:i<=pn) (c:Nat)=>Ey.contains_any (f.ps.take i) x (O pa i c) W
 have hpn:pn=f.ps.length:=by obtain ⟨a2,c2,he,-⟩:=hp;injection he
 have HP:=Aa hp
 have HPN:=Aa hpn
 have hpn2:pn<=9223372036854775807:=by rw [hpn];exact hpl
 obtain ⟨hpc1,hpc2⟩:=hpc
 have hpc3:pc<=9223372036854775807:=hpc2
 clear hp hpl hs hx hfs hpn hpc2
 have hbel:Ov w ((w.alloc (ze #[U zd m,O ga gn gc,O sa sn sc,O ya yn yc,O oa on oc,O va vn vc,O fa fn fc,O ba bn bc] 184)).alloc (ze #[O pa pn pc,O za zn zc,U zd ek,U zd en,O xa xl xc] 105)):=(bA w _).alloc (by simp) _
 obtain ⟨c0,c1,c2,c3,c4,c5,c6,c7⟩:=rc8 (E6 w [U zd m,O ga gn gc,O sa sn sc,O ya yn yc,O oa on oc,O va vn vc,O fa fn fc,O ba bn bc] 184 (ze #[O pa pn pc,O za zn zc,U zd ek,U zd en,O xa xl xc] 105))
 obtain ⟨f0,f1,f2,f3,f4⟩:=rc5 (FM w (ze #[U zd m,O ga gn gc,O sa sn sc,O ya yn yc,O oa on oc,O va vn vc,O fa fn fc,O ba bn bc] 184) [O pa pn pc,O za zn zc,U zd ek,U zd en,O xa xl xc] 105)
 go_enter Tryz.func176,Tryz.ntmps176
 go_wp2_with fail
 refine (K1.o _ _ _).mono ?_
 rintro e wz ⟨he,rfl⟩
 rcases he with ⟨hz,rfl⟩ | ⟨hz,rfl⟩
 rotate_left
 ·have HN:E=2:=by rw [HE.o,if_neg (by rw [<-HPN.o];simp at hz;omega)]
  subst HN
  clear hz
  unfold Au
  go_wp2_with fail
  exact ⟨rfl,Or.inr ⟨by decide,rfl⟩,hbel⟩
 have hp4:pn<=4:=by simp at hz;omega
 have HP4:Hx (f.ps.length<=4):=by rw [<-HPN.o];exact hp4
 clear hz hp4
 go_wp2_with fail
 go_loopw [18] (fun i wr=>∃ n:Nat,n<=pn/\i=U zd n/\(∀ p∈f.ps.take n,0<=p/\p < (vn:Int))/\(OS w m ga gn gc sa sn sc ya yn yc oa on oc va vn vc fa fn fc ba bn bc pa pn pc za zn zc ek en xa xl xc wr)/\Ov w wr) (fun i _=>pn - (intOf i).toNat)
 case atStart=>exact ⟨0,Nat.zero_le _,rfl,by simp,⟨c0,c1,c2,c3,c4,c5,c6,c7,f0,f1,f2,f3,f4⟩,hbel⟩
 case round=>
  clear c0 c1 c2 c3 c4 c5 c6 c7 f0 f1 f2 f3 f4 hbel
  obtain ⟨n,hn,rfl,hok,⟨c0,c1,c2,c3,c4,c5,c6,c7,f0,f1,f2,f3,f4⟩,hB⟩:=hrel
  have HOK:=Aa hok
  clear hok
  by_cases hnl:n < pn
  ·have hnd:n < f.ps.length:=by rw [<-HPN.o];exact hnl
   obtain ⟨a2,kk2,he,hpc⟩:=HP.o
   injection he with e1 e2 e3
   subst e1
   obtain ⟨b,off,rfl,hel⟩:=hpc (by intro h;rw [h] at hnd;simp at hnd)
   have q:=Ab hB _ _ (hel n hnd)
   have htk:f.ps.take (n+1)=f.ps.take n++[f.ps[n]]:=List.take_succ_eq_append_getElem hnd
   obtain ⟨x,hx⟩:=nm (f.ps[n])
   have hmx:=List.getElem_mem hnd
   rw [<-hx] at q htk hmx
   have HTK:=Aa htk
   have HMX:=Aa hmx
   clear hmx
   clear hpc hel hx htk e2 e3
   go_wp2_with fail
   refine (K2.o _ _ _).mono ?_
   rintro e wz ⟨rfl,rfl⟩
   go_wp2_with fail
   refine (K1.o _ _ _).mono ?_
   rintro e wz ⟨he,rfl⟩
   rcases he with ⟨hvar,rfl⟩ | ⟨hz,rfl⟩
   rotate_left
   ·have HN:E=5:=by rw [HE.o,if_pos HP4.o,if_neg (fun hf=>absurd (hf x HMX.o) (by simp at hz;omega))]
    subst HN
    clear hz
    unfold Au
    go_wp2_with fail
    exact ⟨rfl,Or.inr ⟨by decide,rfl⟩,hB⟩
   have hv2:0<=x/\x < vn:=by simpa using hvar
   have hnx:∀ p∈f.ps.take (n+1),0<=p/\p < (vn:Int):=fun p hp=>by
    rw [HTK.o,List.mem_append,List.mem_singleton] at hp
    rcases hp with hp | rfl
    ·exact HOK.o p hp
    ·exact hv2
   have HNX:=Aa hnx
   clear hnx hv2 hvar
   go_wp2_with fail
   exact ⟨⟨n+1,by omega,by go_num,HNX.o,⟨c0,c1,c2,c3,c4,c5,c6,c7,f0,f1,f2,f3,f4⟩,hB⟩,by simp [intOf];omega⟩
  ·have hall:f.ps.take n=f.ps:=List.take_of_length_le (by rw [<-HPN.o];omega)
   have hok2:=HOK.o
   rw [hall] at hok2
   have HOK2:=Aa hok2
   clear hok2 hall HOK
   obtain ⟨w1,hw1⟩:=nm wr
   rw [<-hw1] at c0 c1 c2 c3 c4 c5 c6 c7 f0 f1 f2 f3 f4 hB ⊢
   clear hw1
   go_wp2_with fail
   go_loopw [33] (fun i wr=>∃ n:Nat,n<=pn/\i=U zd n/\Hx (∀ i (h:i < f.ps.length),i < n->f.ps[i] ∉ f.ps.take i)/\(OS w m ga gn gc sa sn sc ya yn yc oa on oc va vn vc fa fn fc ba bn bc pa pn pc za zn zc ek en xa xl xc wr)/\Ov w wr) (fun i _=>pn - (intOf i).toNat)
   case atStart=>exact ⟨0,Nat.zero_le _,rfl,Aa (fun i h hi=>absurd hi (by omega)),⟨c0,c1,c2,c3,c4,c5,c6,c7,f0,f1,f2,f3,f4⟩,hB⟩
   case round=>
    clear c0 c1 c2 c3 c4 c5 c6 c7 f0 f1 f2 f3 f4 hB
    obtain ⟨n,hn,rfl,HDI,⟨c0,c1,c2,c3,c4,c5,c6,c7,f0,f1,f2,f3,f4⟩,hB⟩:=hrel
    by_cases hnl:n < pn
    ·have hnd:n < f.ps.length:=by rw [<-HPN.o];exact hnl
     obtain ⟨a2,kk2,he,hpc⟩:=HP.o
     injection he with e1 e2 e3
     subst e1
     have hpre:=(HP.o.over hB)
     rw [HPN.o] at hpre
     have hpre2:=hpre.prefix (i:=n) (by omega) pc
     obtain ⟨b,off,rfl,hel⟩:=hpc (by intro h;rw [h] at hnd;simp at hnd)
     have q:=Ab hB _ _ (hel n hnd)
     obtain ⟨x,hx⟩:=nm (f.ps[n])
     rw [<-hx] at q
     have HXE:=Aa hx
     have HND:=Aa hnd
     have KC':=Aa (Ey.contains_any _ x _ _ hpre2 (by simp;omega))
     clear hpc hel hx e2 e3 hpre hpre2
     go_wp2_with fail
     refine (KC'.o).mono ?_
     rintro e w5 ⟨rfl,nd,rfl⟩
     obtain ⟨rb,hrb⟩:=nm (decide (x∈f.ps.take n))
     rw [<-hrb]
     have HRB:=Aa hrb
     clear hrb
     have hBd:=below_drewN hB nd
     go_wp2_with fail
     refine (K1.o _ _ _).mono ?_
     rintro e wz ⟨he,rfl⟩
     rcases he with ⟨hz,rfl⟩ | ⟨hz,rfl⟩
     rotate_left
     ·have HN:E=6:=by rw [HE.o,if_pos HP4.o,if_pos HOK2.o,if_neg (fun hf=>absurd (hf n HND.o) (by rw [<-HXE.o];have hq:=HRB.o;simp at hz;rw [hz] at hq;simpa using hq))]
      subst HN
      clear hz
      unfold Au
      go_wp2_with fail
      exact ⟨rfl,Or.inr ⟨by decide,rfl⟩,hBd⟩
     have HDI2:Hx (∀ i (h:i < f.ps.length),i < n+1->f.ps[i] ∉ f.ps.take i):=Aa (fun i h hi=>by
      by_cases hin:i=n
      ·subst hin
       rw [<-HXE.o]
       have hq:=HRB.o
       simp at hz
       rw [hz] at hq
       simpa using hq
      ·exact HDI.o i h (by omega))
     clear hz
     go_wp2_with fail
     exact ⟨⟨n+1,by omega,by go_num,HDI2,⟨c0,c1,c2,c3,c4,c5,c6,c7,f0,f1,f2,f3,f4⟩,hBd⟩,by simp [intOf];omega⟩
    ·have HDI3:Hx (∀ i (h:i < f.ps.length),f.ps[i] ∉ f.ps.take i):=Aa (fun i h=>HDI.o i h (by have:=HPN.o;omega))
     have KS':=Aa (KS.o _ hB)
     go_wp2_with fail
     refine (KS'.o).mono ?_
     rintro e w6 ⟨he,hb6⟩
     have hB6:=hB.trans (hb6.mono hB.size)
     rcases he with ⟨hbd,rfl⟩ | ⟨hnb,rfl⟩
     rotate_left
     ·have HN:E=Bu (f.body.map (eS K vn yn on funcs fs k)):=by rw [HE.o,if_pos HP4.o,if_pos HOK2.o,if_pos HDI3.o];exact f2a hnb
      subst HN
      have HNX:=Aa hnb
      clear hnb
      unfold Au
      go_wp2_with fail
      exact ⟨rfl,Or.inr ⟨HNX.o,rfl⟩,hB6⟩
     have HBD:=Aa hbd
     obtain ⟨r0,r1,r2,r3,r4,r5,r6,r7,g0,g1⟩:=Cy hb6 c0 c1 c2 c3 c4 c5 c6 c7 f0 f1
     obtain ⟨g2,g3,g4⟩:=co3 hb6 f2 f3 f4
     have KX':=Aa (KX.o _ hB6)
     clear hbd hb6 hB c0 c1 c2 c3 c4 c5 c6 c7 f0 f1 f2 f3 f4 KS'
     go_wp2_with fail
     refine (KX'.o).mono ?_
     rintro e w7 ⟨he,hb7⟩
     have hB7:=hB6.trans (hb7.mono hB6.size)
     rcases he with ⟨hex,rfl⟩ | ⟨hnb,rfl⟩
     rotate_left
     ·have HN:E=Az vn K f.res:=by rw [HE.o,if_pos HP4.o,if_pos HOK2.o,if_pos HDI3.o];exact f2b HBD.o
      subst HN
      have HNX:=Aa hnb
      clear hnb
      unfold Au
      go_wp2_with fail
      exact ⟨rfl,Or.inr ⟨HNX.o,rfl⟩,hB7⟩
     have HEX:=Aa hex
     clear hex KX'
     go_wp2_with fail
     go_end0
     exact ⟨Or.inl ⟨by rw [HE.o,if_pos HP4.o,if_pos HOK2.o,if_pos HDI3.o];exact (f2b HBD.o).trans HEX.o,rfl⟩,hB7⟩
end Go.Proofs.YtfffpjkcfnekaaaGreat.Ex.Ez
namespace Go.Proofs.YtfffpjkcfnekaaaGreat.Ex.Ez
open Go.RowKit
open Go.Value renaming slice -> O, int -> U, bool -> zg, agg -> zh, pointer -> zi, tuple -> zk
open Go.IntKind renaming i64 -> zd
open Go.Obj renaming cells -> ze
open Go.Ending renaming returned -> zj
def kE (v:Bool × Lab):Int:=if (v.1=false->v.2.r=[]/\v.2.w=[]) then 0 else 1
def eL (m:Int) (gs:List (Int × Int)) (L:List Lab) (vs:List (Bool × Lab)):Int:=Bu [Bu (L.map fun b=>A3 m gs b),Bu (vs.map fun v=>A3 m gs v.2),Bu (vs.map kE)]
theorem H9 {v:Bool × Lab} (h:v.1=false->v.2.r=[]/\v.2.w=[]):kE v=0:=by unfold kE;rw [if_pos h]
theorem M5 {v:Bool × Lab} (h:¬ (v.1=false->v.2.r=[]/\v.2.w=[])):kE v=1:=by unfold kE;rw [if_neg h]
theorem Ct {α:Type} {f:α->Int} {l:List α} (h:∀ a∈l,f a=0):Bu (l.map f)=0:=Dj (by intro x hx;obtain ⟨a,ha,rfl⟩:=List.mem_map.1 hx;exact h a ha)
abbrev L6 (w:World) (m:Int) (ga:Option Addr) (gn gc:Nat) (va:Option Addr) (vn vc:Nat) (Wz:World):Prop:=Wz.cell? ⟨w.heap.size,0,none⟩=some (U zd m)/\Wz.cell? ⟨w.heap.size,1,none⟩=some (O ga gn gc)/\Wz.cell? ⟨w.heap.size,5,none⟩=some (O va vn vc)
theorem I3 (m:Int) (ga gn gc) (sa sn sc) (ya yn yc oa on oc va vn vc) (fa fn fc ba bn bc gs ls ms vs) (w:World) (hg:AF w (O ga gn gc) gs) (h1:AW w (O ya yn yc) ls) (h2:AW w (O oa on oc) ms) (h3:Bh w (O va vn vc) vs)
  (hy:yn<=5) (ho:on<=5) (hyc:ya=none->yc=0) (hoc:oa=none->oc=0) :
  Calls Tryz.prog 174 #[zh #[U zd m,O ga gn gc,O sa sn sc,O ya yn yc,O oa on oc,O va vn vc,O fa fn fc,O ba bn bc]] w (CL (eL m gs (ls++ms) vs) w):=by
 obtain ⟨E,hE⟩:∃ E:Int,E=eL m gs (ls++ms) vs:=⟨_,rfl⟩
 rw [<-hE]
 unfold eL at hE
 have HE:=Aa hE
 clear hE
 have hbel:Ov w ((w.alloc (ze #[U zd m,O ga gn gc,O sa sn sc,O ya yn yc,O oa on oc,O va vn vc,O fa fn fc,O ba bn bc] 184)).alloc (ze #[O ya yn yc,O oa on oc] 26)):=(bA w _).alloc (by simp) _
 have hrow:Ad [O ya yn yc,O oa on oc] ((w.alloc (ze #[U zd m,O ga gn gc,O sa sn sc,O ya yn yc,O oa on oc,O va vn vc,O fa fn fc,O ba bn bc] 184)).alloc (ze #[O ya yn yc,O oa on oc] 26)) (w.heap.size+1):=by
  have r:=Ad.new [O ya yn yc,O oa on oc] 26 (w.alloc (ze #[U zd m,O ga gn gc,O sa sn sc,O ya yn yc,O oa on oc,O va vn vc,O fa fn fc,O ba bn bc] 184))
  have hs:(w.alloc (ze #[U zd m,O ga gn gc,O sa sn sc,O ya yn yc,O oa on oc,O va vn vc,O fa fn fc,O ba bn bc] 184)).heap.size=w.heap.size+1:=by simp
  rw [hs] at r
  exact r
 have K1:=Aa (JV (w.heap.size+1) ya yn yc oa on oc ls ms ((w.alloc (ze #[U zd m,O ga gn gc,O sa sn sc,O ya yn yc,O oa on oc,O va vn vc,O fa fn fc,O ba bn bc] 184)).alloc (ze #[O ya yn yc,O oa on oc] 26)) hrow (h1.over hbel) (h2.over hbel) hy ho hyc hoc)
 have KL:=Aa fun (bl:Lab) (pr pw:Value) (W:World) (hW:Ov w W) (hr:AN W pr bl.r) (hw:AN W pw bl.w)=>Kw m (O ga gn gc) gs pr pw bl W (Af hg hW) hr hw
 have KP:=Aa F6
 have KM:=Aa BL
 have hvl:vn<=9223372036854775807:=by obtain ⟨hm,a,c,he,-⟩:=h3;injection he with e1 e2 e3;rw [e2];exact hm
 have hlen:(ls++ms).length<=10:=by
  obtain ⟨-,a,c,he,-⟩:=h1
  injection he with e1 e2 e3
  obtain ⟨-,a',c',he',-⟩:=h2
  injection he' with e1' e2' e3'
  simp
  omega
 have HV:=Aa h3
 have hvs:vn=vs.length:=by obtain ⟨hm,a,c,he,-⟩:=h3;injection he
 have HVS:=Aa hvs
 clear hvs
 have zr:=E6 w [U zd m,O ga gn gc,O sa sn sc,O ya yn yc,O oa on oc,O va vn vc,O fa fn fc,O ba bn bc] 184 (ze #[O ya yn yc,O oa on oc] 26)
 have c0:=zr 0 _ rfl
 have c1:=zr 1 _ rfl
 have c3:=zr 3 _ rfl
 have c4:=zr 4 _ rfl
 have c5:=zr 5 _ rfl
 clear zr
 clear h1 h2 h3 hg hrow
 go_enter Tryz.func174,Tryz.ntmps174
 go_wp2_with fail
 refine (K1.o).mono ?_
 rintro e w1 ⟨v,xs,rfl,hown,hcl,hb1⟩
 have hB1:=hbel.trans (hb1.mono hbel.size)
 obtain ⟨d0,d1,d5⟩:=co3 hb1 c0 c1 c5
 obtain ⟨va',vn',vc',hvf⟩:∃ a n c,v=O a n c:=by
  rcases hown.2 with ⟨h,_⟩ | ⟨g,cap,cur,h,_⟩
  ·exact ⟨_,_,_,h⟩
  ·exact ⟨_,_,_,h⟩
 have hnn:vn'=(ls++ms).length:=by
  rcases hown.2 with ⟨h,h'⟩ | ⟨g,cap,cur,h,_⟩
  ·rw [hvf] at h;injection h with e1 e2 e3;omega
  ·rw [hvf] at h;injection h
 subst hvf
 have HO:=Aa hown
 have HCL:=Aa hcl
 have HNN:=Aa hnn
 have hn10:vn'<=10:=by rw [hnn];exact hlen
 clear hown hcl hnn hb1 c0 c1 c3 c4 c5 hbel K1
 go_wp2_with fail
 go_loopw [17] (fun i wr=>∃ n:Nat,n<=vn'/\i=U zd n/\(∀ b∈(ls++ms).take n,A3 m gs b=0)/\(L6 w m ga gn gc va vn vc wr)/\Ov w1 wr) (fun i _=>vn' - (intOf i).toNat)
 case atStart=>exact ⟨0,Nat.zero_le _,rfl,by simp,⟨d0,d1,d5⟩,Below.refl _ _⟩
 case round=>
  clear d0 d1 d5
  obtain ⟨n,hn,rfl,hok1,⟨d0,d1,d5⟩,hB⟩:=hrel
  have HOK1:=Aa hok1
  clear hok1
  have hBw:=hB1.trans (hB.mono hB1.size)
  by_cases hnl:n < vn'
  ·have hnd:n < (ls++ms).length:=by rw [<-HNN.o];exact hnl
   obtain ⟨pr,pw,e0,e1,hr,hw⟩:=HCL.o.at n hnd
   obtain ⟨g,cap,hgf,hgb,hgl,hgc⟩:=Jw HO.o (by omega)
   have a0:=Ab hB _ _ (hgc _ _ e0)
   have a1:=Ab hB _ _ (hgc _ _ e1)
   rw [Addr.add_lit,Nat.zero_add] at a0 a1
   injection hgf with f1 f2 f3
   subst f1
   obtain ⟨ra,rn,rc,hrf⟩:=Aw hr
   obtain ⟨wa,wn,wc,hwf⟩:=Aw hw
   subst hrf hwf
   have hba:=bA wr (ze #[O ra rn rc,O wa wn wc] 39)
   have hBa:=hBw.trans (hba.mono hBw.size)
   have hB1a:=Ac hB hba
   have K2:=Aa (KL.o (ls++ms)[n] _ _ _ hBa (Ak hr hB1a) (Ak hw hB1a))
   obtain ⟨f0,f1,f5⟩:=co3 hba d0 d1 d5
   obtain ⟨cr,hcr⟩:=nm (A3 m gs (ls++ms)[n])
   rw [<-hcr] at K2
   have HCR:=Aa hcr
   clear hgc hr hw e0 e1 hcr f2 f3
   go_wp2_with fail
   refine (K2.o).mono ?_
   rintro e w2 ⟨rfl,hb2⟩
   have hB2:=Ac hB1a hb2
   have hBw2:=hB1.trans (hB2.mono hB1.size)
   obtain ⟨r0,r1,r5⟩:=co3 hb2 f0 f1 f5
   clear K2 hb2 hBa hB1a hba hB hBw a0 a1 d0 d1 d5 f0 f1 f5
   go_wp2_with fail
   refine (KP.o _ _).mono ?_
   rintro e wz ⟨he,rfl⟩
   rcases he with ⟨hz,rfl⟩ | ⟨hz,rfl⟩
   rotate_left
   ·have hz2:cr≠0:=by simpa using hz
    have h0:Bu ((ls++ms).map fun b=>A3 m gs b)=cr:=by
     rw [HCR.o]
     exact Eh (f:=fun b=>A3 m gs b) hnd HOK1.o (by show A3 m gs (ls++ms)[n]≠0;rw [<-HCR.o];exact hz2)
    have HN:E=cr:=by rw [HE.o,f3a (by rw [h0];exact hz2),h0]
    have HNX:=Aa hz2
    clear h0 hz hz2 HCR
    subst HN
    unfold Au
    go_wp2_with fail
    exact ⟨rfl,Or.inr ⟨HNX.o,rfl⟩,hBw2⟩
   have HZ:=Aa (show cr=0 by simpa using hz)
   clear hz
   go_wp2_with fail
   exact ⟨⟨n+1,by omega,by go_num,D6 hnd HOK1.o (HCR.o.symm.trans HZ.o),⟨r0,r1,r5⟩,hB2⟩,by simp [intOf];omega⟩
  ·obtain ⟨w2,hw2⟩:=nm wr
   rw [<-hw2] at d0 d1 d5 hBw ⊢
   have HALL1:=Aa (D7 (by rw [<-HNN.o];omega) HOK1.o)
   clear hw2 hB HO HCL HOK1
   go_wp2_with fail
   go_loopw [32] (fun i wr=>∃ n:Nat,n<=vn/\i=U zd n/\(∀ v∈vs.take n,A3 m gs v.2=0)/\(L6 w m ga gn gc va vn vc wr)/\Ov w2 wr) (fun i _=>vn - (intOf i).toNat)
   case atStart=>exact ⟨0,Nat.zero_le _,rfl,by simp,⟨d0,d1,d5⟩,Below.refl _ _⟩
   case round=>
    clear d0 d1 d5 hnl hn
    obtain ⟨n,hn,rfl,hok1,⟨d0,d1,d5⟩,hB⟩:=hrel
    have HOK1:=Aa hok1
    clear hok1
    have hBw3:=hBw.trans (hB.mono hBw.size)
    by_cases hnl:n < vn
    ·obtain ⟨-,ao,cap,he,hel⟩:=HV.o.over hBw3
     injection he with e1 e2 e3
     have hne:vs≠[]:=by intro h;rw [h] at e2;simp at e2;omega
     obtain ⟨b,off,hbo,hel2⟩:=hel hne
     have hnv:n < vs.length:=by omega
     obtain ⟨pr,pw,a0,a1,a2,hr,hw⟩:=hel2 n hnv
     have e1':=e1.trans hbo
     subst e1'
     obtain ⟨kn,hkn⟩:=nm (vs[n].1)
     obtain ⟨lb,hlb⟩:=nm (vs[n].2)
     rw [<-hkn] at a0
     rw [<-hlb] at hr hw
     obtain ⟨ra,rn,rc,hrf⟩:=Aw hr
     obtain ⟨wa,wn,wc,hwf⟩:=Aw hw
     subst hrf hwf
     have HLB:=Aa hlb
     clear hkn hlb hel hel2 e1 e2 e3 hbo
     have hba:=bA wr (ze #[zg kn,O ra rn rc,O wa wn wc] 41)
     have hBa:=hBw3.trans (hba.mono hBw3.size)
     have hB1a:=Ac hB hba
     have K2:=Aa (KL.o lb _ _ _ hBa (Ak hr hba) (Ak hw hba))
     obtain ⟨f0,f1,f5⟩:=co3 hba d0 d1 d5
     obtain ⟨cr,hcr⟩:=nm (A3 m gs lb)
     rw [<-hcr] at K2
     have HCR:=Aa hcr
     clear hr hw hcr
     go_wp2_with fail
     refine (K2.o).mono ?_
     rintro e w3 ⟨rfl,hb2⟩
     have hB2:=Ac hB1a hb2
     have hBw2:=hBw.trans (hB2.mono hBw.size)
     obtain ⟨r0,r1,r5⟩:=co3 hb2 f0 f1 f5
     clear K2 hb2 hBa hB1a hba hB hBw3 a0 a1 a2 d0 d1 d5 f0 f1 f5
     go_wp2_with fail
     refine (KP.o _ _).mono ?_
     rintro e wz ⟨he,rfl⟩
     rcases he with ⟨hz,rfl⟩ | ⟨hz,rfl⟩
     rotate_left
     ·have hz2:cr≠0:=by simpa using hz
      have h0:Bu (vs.map fun v=>A3 m gs v.2)=cr:=by
       rw [HCR.o,HLB.o]
       exact Eh (f:=fun v=>A3 m gs v.2) hnv HOK1.o (by show A3 m gs vs[n].2≠0;rw [<-HLB.o,<-HCR.o];exact hz2)
      have HN:E=cr:=by rw [HE.o,f3b (Ct HALL1.o) (by rw [h0];exact hz2),h0]
      have HNX:=Aa hz2
      clear h0 hz hz2 HCR
      subst HN
      unfold Au
      go_wp2_with fail
      exact ⟨rfl,Or.inr ⟨HNX.o,rfl⟩,hBw2⟩
     have HZ:=Aa (show cr=0 by simpa using hz)
     clear hz
     go_wp2_with fail
     exact ⟨⟨n+1,by omega,by go_num,D6 hnv HOK1.o (by rw [<-HLB.o];exact HCR.o.symm.trans HZ.o),⟨r0,r1,r5⟩,hB2⟩,by simp [intOf];omega⟩
    ·obtain ⟨w3,hw3⟩:=nm wr
     rw [<-hw3] at d0 d1 d5 hBw3 ⊢
     have HALL2:=Aa (D7 (by rw [<-HVS.o];omega) HOK1.o)
     clear hw3 hB hBw HOK1
     go_wp2_with fail
     go_loopw [48] (fun i wr=>∃ n:Nat,n<=vn/\i=U zd n/\(∀ v∈vs.take n,v.1=false->v.2.r=[]/\v.2.w=[])/\(L6 w m ga gn gc va vn vc wr)/\Ov w3 wr) (fun i _=>vn - (intOf i).toNat)
     case atStart=>exact ⟨0,Nat.zero_le _,rfl,by simp,⟨d0,d1,d5⟩,Below.refl _ _⟩
     case round=>
      clear d0 d1 d5 hnl hn
      obtain ⟨n,hn,rfl,hok1,⟨d0,d1,d5⟩,hB⟩:=hrel
      have HOK1:=Aa hok1
      clear hok1
      have hBw:=hBw3.trans (hB.mono hBw3.size)
      by_cases hnl:n < vn
      ·obtain ⟨-,ao,cap,he,hel⟩:=HV.o.over hBw
       injection he with e1 e2 e3
       have hne:vs≠[]:=by intro h;rw [h] at e2;simp at e2;omega
       obtain ⟨b,off,hbo,hel2⟩:=hel hne
       have hnv:n < vs.length:=by omega
       obtain ⟨pr,pw,a0,a1,a2,hr,hw⟩:=hel2 n hnv
       have e1':=e1.trans hbo
       subst e1'
       obtain ⟨kn,hkn⟩:=nm (vs[n].1)
       rw [<-hkn] at a0
       obtain ⟨ra,rn,rc,hrf⟩:=Aw hr
       obtain ⟨wa,wn,wc,hwf⟩:=Aw hw
       subst hrf hwf
       have HKN:Hx (kn=vs[n].1/\rn=vs[n].2.r.length/\wn=vs[n].2.w.length):=⟨hkn,IL hr,IL hw⟩
       clear hkn hel hel2 e1 e2 e3 hbo hr hw
       have HA:Hx (∀ ob:Obj,((wr.alloc ob).cell? ⟨w.heap.size,0,none⟩=some (U zd m)/\(wr.alloc ob).cell? ⟨w.heap.size,1,none⟩=some (O ga gn gc)/\(wr.alloc ob).cell? ⟨w.heap.size,5,none⟩=some (O (some ⟨b,off,none⟩) vn vc))/\Ov w3 (wr.alloc ob)/\Ov w (wr.alloc ob)):=fun ob=>by
        have hba:=bA wr ob
        exact ⟨⟨Ab hba _ _ d0,Ab hba _ _ d1,Ab hba _ _ d5⟩,Ac hB hba,hBw.trans (hba.mono hBw.size)⟩
       clear KL KP d0 d1 d5 hB
       have HNX:Hx ((kn=false->rn=0/\wn=0)->∀ v∈vs.take (n+1),v.1=false->v.2.r=[]/\v.2.w=[]):=fun h=>D6 hnv HOK1.o fun h0=>by
        obtain ⟨h1,h2,h3⟩:=HKN.o
        have:=h (h1.trans h0)
        exact ⟨List.eq_nil_of_length_eq_zero (by omega),List.eq_nil_of_length_eq_zero (by omega)⟩
       have HNG:Hx (¬ (kn=false->rn=0/\wn=0)->E=1):=Aa (fun hn=>by
        have hk1:kE vs[n]=1:=M5 (fun h=>hn fun hk=>by
         obtain ⟨h1,h2,h3⟩:=HKN.o
         obtain ⟨q1,q2⟩:=h (h1.symm.trans hk)
         rw [q1] at h2
         rw [q2] at h3
         exact ⟨h2,h3⟩)
        rw [HE.o,f3c (Ct HALL1.o) (Ct HALL2.o),Eh (f:=kE) hnv (fun v hv=>H9 (HOK1.o v hv)) (by rw [hk1];decide),hk1])
       clear HKN HOK1
       cases kn
       all_goals go_wp2_with fail
       all_goals
        refine (KM.o _ _ _).mono ?_
        rintro e wz ⟨he,rfl⟩
        rcases he with ⟨hz,rfl⟩ | ⟨hz,rfl⟩
        ·have HZ:Hx (∀ v∈vs.take (n+1),v.1=false->v.2.r=[]/\v.2.w=[]):=HNX.o (by first | (intro h;cases h;done) | (intro _;simp at hz;done) | (intro _;simp at hz;omega) | (intro _;simp at *;omega))
         clear hz HNX HNG
         go_wp2_with fail
         exact ⟨⟨n+1,by omega,by go_num,HZ.o,(HA.o _).1,(HA.o _).2.1⟩,by simp [intOf];omega⟩
        ·have HN:E=1:=(HNG.o (by first | (simp at hz;done) | (intro hh;have hq:=hh (by simp);simp at hz;omega)))
         subst HN
         clear hz HNX HNG
         unfold Au
         go_wp2_with fail
         exact ⟨rfl,Or.inr ⟨by decide,rfl⟩,(HA.o _).2.2⟩
      ·go_wp2_with fail
       go_end0
       exact ⟨Or.inl ⟨by rw [HE.o,f3c (Ct HALL1.o) (Ct HALL2.o)];exact Ct (fun v hv=>H9 (D7 (by rw [<-HVS.o];omega) HOK1.o v hv)),rfl⟩,hBw⟩
end Go.Proofs.YtfffpjkcfnekaaaGreat.Ex.Ez
namespace Go.Proofs.YtfffpjkcfnekaaaGreat.Ex.Ez
open Go.RowKit
open Go.Value renaming slice -> O, int -> U, bool -> zg, agg -> zh, pointer -> zi, tuple -> zk
open Go.IntKind renaming i64 -> zd
open Go.Obj renaming cells -> ze
open Go.Ending renaming returned -> zj
theorem Nh {g:Nat->Int} {N n:Nat} (hn:n < N) (h0:∀ i,i < n->g i=0) (h1:g n≠0):Bu ((List.range N).map g)=g n:=by
 have hl:n < (List.range N).length:=by simpa using hn
 have:=Eh (f:=g) (das:=List.range N) hl (fun a ha=>h0 a (by rw [List.take_range] at ha;simp at ha;omega)) (by simpa using h1)
 simpa using this
def fnE (K kf:Nat) (vn yn on:Nat) (fs:List FnD) (i:Nat):Int:=if h:i < fs.length then eF K vn yn on (i:Int) fs kf fs[i] else 0
theorem EG {K kf:Nat} {vn yn on:Nat} {fs:List FnD} {i:Nat} (h:i < fs.length):fnE K kf vn yn on fs i=eF K vn yn on (i:Int) fs kf fs[i]:=by unfold fnE;rw [dif_pos h]
def eP [dc:∀ p:Prop,Decidable p] (K kf:Nat) (m:Int) (vn yn on sn:Nat) (gs:List (Int × Int)) (sp:List Int) (ls ms:List Lab) (vs:List (Bool × Lab)) (fs:List FnD) (l:List D):Int:=
 if AL m gs=0 then if ((vn:Int)<=16/\(yn:Int)<=5/\(on:Int)<=5/\(fs.length:Int)<=5/\(sn:Int)<=m) then if (∀ x∈sp,0<=x/\x < m) then if eL m gs (ls++ms) vs=0 then if (((AV kf fs:Nat):Int)+(AC kf l:Nat)<=50/\Ey.dpF kf fs/\Ey.dps kf 1 l) then Bu [Bu ((List.range fs.length).map (fnE K kf vn yn on fs)),Bu (l.map (eS K vn yn on (fs.length:Int) fs kf))] else 2 else eL m gs (ls++ms) vs else 5 else 2 else AL m gs
open Classical in
theorem JX (K kf:Nat) (m:Int) (ga gn gc sa sn sc ya yn yc oa on oc va vn vc fa fn fc ba bn bc gs sp ls ms vs fs l) (w:World) (h:Br K kf m ga gn gc sa sn sc ya yn yc oa on oc va vn vc fa fn fc ba bn bc gs sp ls ms vs fs l w) :
  Calls Tryz.prog 113 #[zh #[U zd m,O ga gn gc,O sa sn sc,O ya yn yc,O oa on oc,O va vn vc,O fa fn fc,O ba bn bc]] w (CL (eP K kf m vn yn on sn gs sp ls ms vs fs l) w):=by
 obtain ⟨E,hE⟩:∃ E:Int,E=eP K kf m vn yn on sn gs sp ls ms vs fs l:=⟨_,rfl⟩
 rw [<-hE]
 unfold eP at hE
 have HE:=Aa hE
 clear hE
 have hfx:fn=fs.length:=by obtain ⟨-,a,c,he,-⟩:=h.funcs;injection he
 have HFX:=Aa hfx
 clear hfx
 have hbel:Ov w (w.alloc (ze #[U zd m,O ga gn gc,O sa sn sc,O ya yn yc,O oa on oc,O va vn vc,O fa fn fc,O ba bn bc] 184)):=bA w _
 have HP:=Aa (h.over hbel)
 have KP:=Aa F6
 have KM:=Aa BL
 have KO:=Aa Bb
 have KA:=Aa (Go.Proofs.YtfffpjkcfnekaaaGreat.check_any m (O ga gn gc) gs)
 have hvl:vn<=9223372036854775807:=by obtain ⟨hm,a,c,he,-⟩:=h.vars;injection he with e1 e2 e3;rw [e2];exact hm
 obtain ⟨c0,c1,c2,c3,c4,c5,c6,c7⟩:=rc8 (BC w [U zd m,O ga gn gc,O sa sn sc,O ya yn yc,O oa on oc,O va vn vc,O fa fn fc,O ba bn bc] 184)
 clear h
 go_enter Tryz.func113,Tryz.ntmps113
 go_wp2_with fail
 refine (KA.o _ (HP.o.grants)).mono ?_
 rintro e w1 ⟨rfl,hb1⟩
 obtain ⟨d0,d1,d2,d3,d4,d5,d6,d7⟩:=co8 hb1 c0 c1 c2 c3 c4 c5 c6 c7
 have hB1:=hbel.trans (hb1.mono hbel.size)
 have HP1:=Aa (HP.o.over hb1)
 obtain ⟨ce,hce⟩:=nm (AL m gs)
 rw [<-hce]
 have HCE:=Aa hce
 clear KA c0 c1 c2 c3 c4 c5 c6 c7 hb1 hbel hce HP
 go_wp2_with fail
 refine (KP.o _ _).mono ?_
 rintro e wz ⟨he,rfl⟩
 rcases he with ⟨hz,rfl⟩ | ⟨hz,rfl⟩
 rotate_left
 ·have hz2:ce≠0:=by simpa using hz
  have HN:E=ce:=by rw [HE.o,if_neg (by rw [<-HCE.o];exact hz2)];exact HCE.o.symm
  have HNX:=Aa hz2
  clear hz hz2 HCE
  subst HN
  unfold Au
  go_wp2_with fail
  exact ⟨rfl,Or.inr ⟨HNX.o,rfl⟩,hB1⟩
 have HCHK:=Aa (show AL m gs=0 by rw [<-HCE.o];simpa using hz)
 clear hz HCE
 by_cases hlim:((vn:Int)<=16/\(yn:Int)<=5/\(on:Int)<=5/\(fn:Int)<=5/\(sn:Int)<=m)
 rotate_left
 ·have HL:=Aa hlim
  have HN:E=2:=by rw [HE.o,if_pos HCHK.o,if_neg (fun hx=>hlim (by rw [HFX.o];exact hx))]
  subst HN
  clear hlim
  go_wp2_with fail
  all_goals
   refine (KM.o _ _ _).mono ?_
   rintro e wz ⟨he,rfl⟩
   rcases he with ⟨hz,rfl⟩ | ⟨hz,rfl⟩
   ·exfalso
    have:=HL.o
    first | (simp at hz;done) | (simp at hz;omega)
   ·clear hz
    unfold Au
    go_wp2_with fail
    exact ⟨rfl,Or.inr ⟨by decide,rfl⟩,hB1⟩
 have HLIM:Hx ((vn:Int)<=16/\(yn:Int)<=5/\(on:Int)<=5/\(fs.length:Int)<=5/\(sn:Int)<=m):=Aa (by rw [<-HFX.o];exact hlim)
 obtain ⟨l1,l2,l3,l4,l5⟩:=hlim
 go_wp2_with fail
 refine (KM.o _ _ _).mono ?_
 rintro e wz ⟨he,rfl⟩
 rcases he with ⟨hz,rfl⟩ | ⟨hz,rfl⟩
 rotate_left
 ·cases hz
 clear hz
 have hsn:sn=sp.length:=by obtain ⟨a,c,he,-⟩:=HP1.o.speak;injection he
 have hsl:sn<=9223372036854775807:=by rw [hsn];exact HP1.o.speakL
 have HSN:=Aa hsn
 clear hsn
 go_wp2_with fail
 go_loopw [53] (fun i wr=>∃ n:Nat,n<=sn/\i=U zd n/\(∀ x∈sp.take n,0<=x/\x < m)/\(wr.cell? ⟨w.heap.size,0,none⟩=some (U zd m)/\wr.cell? ⟨w.heap.size,1,none⟩=some (O ga gn gc)/\wr.cell? ⟨w.heap.size,2,none⟩=some (O sa sn sc)/\wr.cell? ⟨w.heap.size,3,none⟩=some (O ya yn yc)/\wr.cell? ⟨w.heap.size,4,none⟩=some (O oa on oc)/\wr.cell? ⟨w.heap.size,5,none⟩=some (O va vn vc)/\wr.cell? ⟨w.heap.size,6,none⟩=some (O fa fn fc)/\wr.cell? ⟨w.heap.size,7,none⟩=some (O ba bn bc))/\Ov wz wr) (fun i _=>sn - (intOf i).toNat)
 case atStart=>exact ⟨0,Nat.zero_le _,rfl,by simp,⟨d0,d1,d2,d3,d4,d5,d6,d7⟩,Below.refl _ _⟩
 case round=>
  clear d0 d1 d2 d3 d4 d5 d6 d7
  obtain ⟨n,hn,rfl,hok1,⟨d0,d1,d2,d3,d4,d5,d6,d7⟩,hB⟩:=hrel
  have HOK1:=Aa hok1
  clear hok1
  have hBw:=hB1.trans (hB.mono hB1.size)
  by_cases hnl:n < sn
  ·obtain ⟨a2,c2,he,hel⟩:=HP1.o.speak.over hB
   injection he with e1 e2 e3
   have hnd:n < sp.length:=by omega
   obtain ⟨b,off,hbo,hel2⟩:=hel (by intro h;rw [h] at hnd;simp at hnd)
   have q:=hel2 n hnd
   have e1':=e1.trans hbo
   subst e1'
   obtain ⟨x,hx⟩:=nm (sp[n])
   rw [<-hx] at q
   have HX:=Aa hx
   clear hel hel2 hx e1 e2 e3 hbo
   go_wp2_with fail
   refine (KO.o _ _ _).mono ?_
   rintro e wy ⟨rfl,rfl⟩
   obtain ⟨ok,hok⟩:=nm (decide (0<=x/\x < m))
   rw [<-hok]
   have HOK:=Aa hok
   clear hok
   go_wp2_with fail
   refine (KM.o _ _ _).mono ?_
   rintro e wx ⟨he,rfl⟩
   rcases he with ⟨hz,rfl⟩ | ⟨hz,rfl⟩
   rotate_left
   ·have HN:E=5:=by rw [HE.o,if_pos HCHK.o,if_pos HLIM.o,if_neg (fun hx=>by have h1:=HOK.o;rw [hz] at h1;have h2:=hx x (by rw [HX.o];exact List.getElem_mem _);simp at h1;omega)]
    subst HN
    clear hz
    unfold Au
    go_wp2_with fail
    exact ⟨rfl,Or.inr ⟨by decide,rfl⟩,hBw⟩
   have HZ:=Aa (show 0<=x/\x < m by have h:=HOK.o;rw [hz] at h;simpa using h.symm)
   clear hz HOK
   go_wp2_with fail
   exact ⟨⟨n+1,by omega,by go_num,D6 hnd HOK1.o (by rw [<-HX.o];exact HZ.o),⟨d0,d1,d2,d3,d4,d5,d6,d7⟩,hB⟩,by simp [intOf];omega⟩
  ·have HP2:=Aa (HP1.o.over hB)
   obtain ⟨w2,hw2⟩:=nm wr
   rw [<-hw2] at d0 d1 d2 d3 d4 d5 d6 d7 hBw HP2 ⊢
   have HSP:=Aa (D7 (by rw [<-HSN.o];omega) HOK1.o)
   clear hw2 hB HP1 hB1 HOK1
   have KL:=Aa (I3 m ga gn gc sa sn sc ya yn yc oa on oc va vn vc fa fn fc ba bn bc gs ls ms vs w2 HP2.o.grants HP2.o.ins HP2.o.outs HP2.o.vars (by omega) (by omega) HP2.o.insN HP2.o.outsN)
   go_wp2_with fail
   refine (KL.o).mono ?_
   rintro e w3 ⟨he,hb3⟩
   have hBw3:=hBw.trans (hb3.mono hBw.size)
   have HP3:=Aa (HP2.o.over hb3)
   obtain ⟨r0,r1,r2,r3,r4,r5,r6,r7⟩:=co8 hb3 d0 d1 d2 d3 d4 d5 d6 d7
   clear KL d0 d1 d2 d3 d4 d5 d6 d7
   rcases he with ⟨hlab,rfl⟩ | ⟨hng,rfl⟩
   rotate_left
   ·have HN:E=eL m gs (ls++ms) vs:=by rw [HE.o,if_pos HCHK.o,if_pos HLIM.o,if_pos HSP.o,if_neg hng]
    subst HN
    have HNX:=Aa hng
    clear hng
    unfold Au
    go_wp2_with fail
    exact ⟨rfl,Or.inr ⟨HNX.o,rfl⟩,hBw3⟩
   have HLAB:=Aa hlab
   clear hb3 HP2 hBw hlab
   have KI:=Aa (Ey.limits_any K kf m ga gn gc sa sn sc ya yn yc oa on oc va vn vc fa fn fc ba bn bc fs l w3 HP3.o.funcs HP3.o.main)
   go_wp2_with fail
   refine (KI.o).mono ?_
   rintro e w4 ⟨he,hb4⟩
   have hBw4:=hBw3.trans (hb4.mono hBw3.size)
   have HP4:=Aa (HP3.o.over hb4)
   obtain ⟨d0,d1,d2,d3,d4,d5,d6,d7⟩:=co8 hb4 r0 r1 r2 r3 r4 r5 r6 r7
   clear KI r0 r1 r2 r3 r4 r5 r6 r7
   rcases he with ⟨rfl,hlm⟩ | ⟨hng,rfl⟩
   rotate_left
   ·have HN:E=2:=by rw [HE.o,if_pos HCHK.o,if_pos HLIM.o,if_pos HSP.o,if_pos HLAB.o,if_neg hng]
    subst HN
    clear hng
    unfold Au
    go_wp2_with fail
    exact ⟨rfl,Or.inr ⟨by decide,rfl⟩,hBw4⟩
   have HLM:=Aa hlm
   have hfn:fn=fs.length:=by obtain ⟨-,a,c,he,-⟩:=HP4.o.funcs;injection he
   have HFN:=Aa hfn
   clear hb4 HP3 hBw3 hlm hfn
   go_wp2_with fail
   go_loopw [73] (fun i wr=>∃ n:Nat,n<=fn/\i=U zd n/\(∀ j (h:j < fs.length),j < n->eF K vn yn on (j:Int) fs kf fs[j]=0)/\(wr.cell? ⟨w.heap.size,0,none⟩=some (U zd m)/\wr.cell? ⟨w.heap.size,1,none⟩=some (O ga gn gc)/\wr.cell? ⟨w.heap.size,2,none⟩=some (O sa sn sc)/\wr.cell? ⟨w.heap.size,3,none⟩=some (O ya yn yc)/\wr.cell? ⟨w.heap.size,4,none⟩=some (O oa on oc)/\wr.cell? ⟨w.heap.size,5,none⟩=some (O va vn vc)/\wr.cell? ⟨w.heap.size,6,none⟩=some (O fa fn fc)/\wr.cell? ⟨w.heap.size,7,none⟩=some (O ba bn bc))/\Ov w4 wr) (fun i _=>fn - (intOf i).toNat)
   case atStart=>exact ⟨0,Nat.zero_le _,rfl,fun j h h'=>absurd h' (by omega),⟨d0,d1,d2,d3,d4,d5,d6,d7⟩,Below.refl _ _⟩
   case round=>
    clear d0 d1 d2 d3 d4 d5 d6 d7
    obtain ⟨n,hn,rfl,hok,⟨d0,d1,d2,d3,d4,d5,d6,d7⟩,hB⟩:=hrel
    have HOK:=Aa hok
    clear hok
    have hBw:=hBw4.trans (hB.mono hBw4.size)
    by_cases hnl:n < fn
    ·obtain ⟨-,ao,cap,he,hel⟩:=HP4.o.funcs.over hB
     injection he with e1 e2 e3
     have hnd:n < fs.length:=by omega
     obtain ⟨b,off,hbo,hel2⟩:=hel (by intro h;rw [h] at hnd;simp at hnd)
     obtain ⟨vP,vB,x0,x1,x2,q0,q1,q2,q3,q4,hp,⟨hpl,pa,pc,hvp,hpc⟩,hs,hx⟩:=hel2 n hnd
     have e1':=e1.trans hbo
     subst e1'
     subst hvp
     have hs0:=hs
     obtain ⟨-,za,zc,hvb,-⟩:=hs0
     subst hvb
     obtain ⟨xa,xc,hxf⟩:=hx.form
     simp only [List.cons.injEq,and_true] at hxf
     obtain ⟨rfl,rfl,rfl⟩:=hxf
     have hba:=bA wr (ze #[O pa fs[n].ps.length pc,O za fs[n].body.length zc,U zd (AK fs[n].res),U zd (A6 fs[n].res),O xa (AX fs[n].res).length xc] 105)
     have hBa:=hBw.trans (hba.mono hBw.size)
     have hB4a:=Ac hB hba
     have KF:=Aa (GN K kf kf fs fs[n] (n:Int) m ga gn gc sa sn sc ya yn yc oa on oc va vn vc (some ⟨b,off,none⟩) fn fc ba bn bc pa fs[n].ps.length pc za fs[n].body.length zc (AK fs[n].res) (A6 fs[n].res) xa (AX fs[n].res).length xc _ hvl (by omega) (by omega) (by omega) (by omega) (by omega) (hp.over hba) hpl hpc (hs.over hba) (hx.over hba) (HP4.o.funcs.over hB4a))
     obtain ⟨pl,hpl2⟩:=nm (fs[n].ps.length)
     obtain ⟨zl,hzl2⟩:=nm (fs[n].body.length)
     obtain ⟨ek,hek2⟩:=nm (AK fs[n].res)
     obtain ⟨en,hen2⟩:=nm (A6 fs[n].res)
     obtain ⟨xl,hxl2⟩:=nm ((AX fs[n].res).length)
     rw [<-hpl2,<-hzl2,<-hek2,<-hen2,<-hxl2] at KF hba hBa hB4a
     rw [<-hpl2] at q0
     rw [<-hzl2] at q1
     rw [<-hek2] at q2
     rw [<-hen2] at q3
     rw [<-hxl2] at q4
     obtain ⟨f0,f1,f2,f3,f4,f5,f6,f7⟩:=co8 hba d0 d1 d2 d3 d4 d5 d6 d7
     clear hel hel2 e1 e2 e3 hbo hp hpl hpc hs hx hpl2 hzl2 hek2 hen2 hxl2 d0 d1 d2 d3 d4 d5 d6 d7
     go_wp2_with fail
     refine (KF.o).mono ?_
     rintro e w5 ⟨he,hb5⟩
     have hB5:=Ac hB4a hb5
     have hBw5:=hBa.trans (hb5.mono hBa.size)
     obtain ⟨r0,r1,r2,r3,r4,r5,r6,r7⟩:=co8 hb5 f0 f1 f2 f3 f4 f5 f6 f7
     clear KF f0 f1 f2 f3 f4 f5 f6 f7 hb5 hba hBa hB4a hB hBw q0 q1 q2 q3 q4
     rcases he with ⟨hok,rfl⟩ | ⟨hng,rfl⟩
     rotate_left
     ·have h0:Bu ((List.range fs.length).map (fnE K kf vn yn on fs))=eF K vn yn on (n:Int) fs kf fs[n]:=by
       rw [Nh hnd (fun i hi=>by rw [EG (by omega)];exact HOK.o i (by omega) hi) (by rw [EG hnd];exact hng),EG hnd]
      have HN:E=eF K vn yn on (n:Int) fs kf fs[n]:=by rw [HE.o,if_pos HCHK.o,if_pos HLIM.o,if_pos HSP.o,if_pos HLAB.o,if_pos HLM.o,f2a (by rw [h0];exact hng),h0]
      subst HN
      have HNX:=Aa hng
      clear h0
      clear hng
      unfold Au
      go_wp2_with fail
      exact ⟨rfl,Or.inr ⟨HNX.o,rfl⟩,hBw5⟩
     have HOK2:=Aa hok
     clear hok
     go_wp2_with fail
     refine ⟨⟨n+1,by omega,by go_num,fun j h h'=>?_,⟨r0,r1,r2,r3,r4,r5,r6,r7⟩,hB5⟩,by simp [intOf];omega⟩
     by_cases hjn:j < n
     ·exact HOK.o j h hjn
     ·obtain rfl:j=n:=by omega
      exact HOK2.o
    ·have KS:=Aa (FY K kf fs (fn:Int) m ga gn gc sa sn sc ya yn yc oa on oc va vn vc fa fn fc ba bn bc hvl (by omega) (by omega) (by omega) (by omega) (by have:=HFN.o;omega) kf (O ba bn bc) l wr (HP4.o.main.over hB) (HP4.o.funcs.over hB))
     go_wp2_with fail
     refine (KS.o).mono ?_
     rintro e w5 ⟨he,hb5⟩
     have hBw5:=hBw.trans (hb5.mono hBw.size)
     clear KS d0 d1 d2 d3 d4 d5 d6 d7 hb5 hB hBw
     rcases he with ⟨hok,rfl⟩ | ⟨hng,rfl⟩
     rotate_left
     ·have h0:Bu ((List.range fs.length).map (fnE K kf vn yn on fs))=0:=Ct (fun i hi=>by
       have hi':i < fs.length:=by simpa using hi
       rw [EG hi']
       exact HOK.o i hi' (by have:=HFN.o;omega))
      have HN:E=Bu (l.map (eS K vn yn on (fn:Int) fs kf)):=by rw [HE.o,if_pos HCHK.o,if_pos HLIM.o,if_pos HSP.o,if_pos HLAB.o,if_pos HLM.o,f2b h0,HFN.o]
      have HNX:=Aa hng
      clear h0
      subst HN
      clear hng
      unfold Au
      go_wp2_with fail
      exact ⟨rfl,Or.inr ⟨HNX.o,rfl⟩,hBw5⟩
     have HOK2:=Aa hok
     clear hok
     go_wp2_with fail
     go_end0
     have hfn:=HFN.o
     have hlm:=HLM.o
     refine ⟨Or.inl ⟨?_,rfl⟩,hBw5⟩
     have h0:Bu ((List.range fs.length).map (fnE K kf vn yn on fs))=0:=Ct (fun i hi=>by
      have hi':i < fs.length:=by simpa using hi
      rw [EG hi']
      exact HOK.o i hi' (by omega))
     rw [HE.o,if_pos HCHK.o,if_pos HLIM.o,if_pos HSP.o,if_pos HLAB.o,if_pos HLM.o,f2b h0,<-hfn]
     exact HOK2.o
def Rd (E:Int) (w:World) (f:Int->Value) (e:Ending) (w':World):Prop:=e=zj (f E)/\Ov w w'
open Classical in
theorem JY (K kf:Nat) (m:Int) (ga gn gc sa sn sc ya yn yc oa on oc va vn vc fa fn fc ba bn bc gs sp ls ms vs fs l) (w:World) (h:Br K kf m ga gn gc sa sn sc ya yn yc oa on oc va vn vc fa fn fc ba bn bc gs sp ls ms vs fs l w) :
  Calls Tryz.prog 112 #[.func (.func 113) #[zh #[U zd m,O ga gn gc,O sa sn sc,O ya yn yc,O oa on oc,O va vn vc,O fa fn fc,O ba bn bc]] #[]] w (Rd (eP K kf m vn yn on sn gs sp ls ms vs fs l) w fun why=>zk #[U zd 0,U zd why]):=by
 have hmf:∀ (fn:Fn) (first cap:Array Value) (w:World),(Instr.makeFunc fn first cap).run Tryz.prog w=.ok (.func fn first cap) w:=fun _ _ _ _=>rfl
 have HC:∀ (args:Array Value) (w:World),(callFunc 113 args).run Tryz.prog w=.ok (.enter 113 args) w:=fun args w=>by simp [go_sem]
 have hbel:Ov w ((w.alloc (ze #[U zd 0] 3)).alloc (ze #[U zd 0] 32)):=(bA w _).alloc (by simp) _
 have K:=Aa (JX K kf m ga gn gc sa sn sc ya yn yc oa on oc va vn vc fa fn fc ba bn bc gs sp ls ms vs fs l _ (h.over hbel))
 have q0:=E6 w [U zd 0] 3 (ze #[U zd 0] 32) 0 _ rfl
 have q1:=FM w (ze #[U zd 0] 3) [U zd 0] 32 0 _ rfl
 have z0:((w.alloc (ze #[U zd 0] 3)).alloc (ze #[U zd 0] 32)).frozen? ⟨w.heap.size,0,none⟩=false:=by simp [go_sem]
 have z1:((w.alloc (ze #[U zd 0] 3)).alloc (ze #[U zd 0] 32)).frozen? ⟨w.heap.size+1,0,none⟩=false:=by simp [go_sem]
 clear h
 go_enter_defers Tryz.func112,Tryz.ntmps112
 go_wp2_with fail
 refine (K.o).mono ?_
 rintro e w1 ⟨he,hb1⟩
 obtain ⟨hc,hf⟩:=Am hb1
 have hB1:=hbel.trans (hb1.mono hbel.size)
 obtain ⟨p0,p1⟩:=co2 hb1 q0 q1
 have y0:=(hf w.heap.size 0 (by simp;omega)).trans z0
 have y1:=(hf (w.heap.size+1) 0 (by simp)).trans z1
 have g1:w.heap.size+1 < w1.heap.size:=bL p1
 have g0:w.heap.size < w1.heap.size:=by omega
 clear hc hf q0 q1 z0 z1 hb1 K hbel
 rcases he with ⟨hok,rfl⟩ | ⟨hng,rfl⟩
 ·have HOK:=Aa hok
  clear hok
  go_wp2_with fail
  refine leaves_cons (f:=170) (args:=#[zi (some ⟨w.heap.size,0,none⟩),zi (some ⟨w.heap.size+1,0,none⟩)]) (by simp) (by simp [go_sem]) ?_
  refine (JZ _ _ _).mono ?_
  rintro e u' w2 ⟨rfl,rfl,rfl⟩
  have d0:((w1.setCell ⟨w.heap.size,0,none⟩ (U zd 0)).setCell ⟨w.heap.size+1,0,none⟩ (U zd 0)).cell? ⟨w.heap.size,0,none⟩=some (U zd 0):=by simp [go_sem,p0]
  have d1:((w1.setCell ⟨w.heap.size,0,none⟩ (U zd 0)).setCell ⟨w.heap.size+1,0,none⟩ (U zd 0)).cell? ⟨w.heap.size+1,0,none⟩=some (U zd 0):=by simp [go_sem,p1]
  have hbb:Ov w ((w1.setCell ⟨w.heap.size,0,none⟩ (U zd 0)).setCell ⟨w.heap.size+1,0,none⟩ (U zd 0)):=(hB1.setCell (by simp) _).setCell (by simp) _
  generalize ((w1.setCell ⟨w.heap.size,0,none⟩ (U zd 0)).setCell ⟨w.heap.size+1,0,none⟩ (U zd 0))=wF at d0 d1 hbb ⊢
  simp [Leaves,settle,results,Tryz.results112,go_sem,d0,d1]
  exact ⟨by rw [HOK.o],hbb⟩
 ·have HNG:=Aa hng
  clear hng
  unfold Au
  go_wp2_with fail
  refine leaves_cons (f:=170) (args:=#[zi (some ⟨w.heap.size,0,none⟩),zi (some ⟨w.heap.size+1,0,none⟩)]) (by simp) (by simp [go_sem]) ?_
  refine (J0 w.heap.size 0 0 _ _ [] _ (by omega) p0 p1 y0 y1).mono ?_
  rintro e u' w2 ⟨rfl,rfl,d0,d1,hb2⟩
  have hbb:Ov w w2:=hB1.trans hb2
  simp [Leaves,settle,results,Tryz.results112,go_sem,d0,d1]
  exact ⟨rfl,hbb⟩
open Classical in
theorem scopeCheck_any (K kf:Nat) (m:Int) (ga gn gc sa sn sc ya yn yc oa on oc va vn vc fa fn fc ba bn bc gs sp ls ms vs fs l) (w:World) (h:Br K kf m ga gn gc sa sn sc ya yn yc oa on oc va vn vc fa fn fc ba bn bc gs sp ls ms vs fs l w) :
  Calls Tryz.prog 53 #[zh #[U zd m,O ga gn gc,O sa sn sc,O ya yn yc,O oa on oc,O va vn vc,O fa fn fc,O ba bn bc]] w (Rd (eP K kf m vn yn on sn gs sp ls ms vs fs l) w fun why=>U zd why):=by
 have hbel:Ov w ((w.alloc (ze #[U zd m,O ga gn gc,O sa sn sc,O ya yn yc,O oa on oc,O va vn vc,O fa fn fc,O ba bn bc] 31)).alloc (ze #[U zd m,O ga gn gc,O sa sn sc,O ya yn yc,O oa on oc,O va vn vc,O fa fn fc,O ba bn bc] 184)):=(bA w _).alloc (by simp) _
 have K:=Aa (JY K kf m ga gn gc sa sn sc ya yn yc oa on oc va vn vc fa fn fc ba bn bc gs sp ls ms vs fs l _ (h.over hbel))
 clear h
 go_enter Tryz.func53,Tryz.ntmps53
 go_wp2_with fail
 refine (K.o).mono ?_
 rintro e w1 ⟨rfl,hb1⟩
 have hB1:=hbel.trans (hb1.mono hbel.size)
 clear hbel hb1 K
 go_wp2_with fail
 go_ret
 exact ⟨rfl,hB1⟩
theorem e3 {A B:Prop} [Decidable A] [Decidable B] {X:Int}:(if A then if B then X else 1 else 5)=0 ↔ A/\B/\X=0:=by
 by_cases hA:A
 ·by_cases hB:B
  ·rw [if_pos hA,if_pos hB];exact ⟨fun h=>⟨hA,hB,h⟩,fun h=>h.2.2⟩
  ·rw [if_pos hA,if_neg hB];exact ⟨fun h=>absurd h (by decide),fun h=>absurd h.2.1 hB⟩
 ·rw [if_neg hA];exact ⟨fun h=>absurd h (by decide),fun h=>absurd h.1 hA⟩
theorem e2 {B:Prop} [Decidable B] {X:Int}:(if B then X else 1)=0 ↔ B/\X=0:=by
 by_cases hB:B
 ·rw [if_pos hB];exact ⟨fun h=>⟨hB,h⟩,fun h=>h.2⟩
 ·rw [if_neg hB];exact ⟨fun h=>absurd h (by decide),fun h=>absurd h.1 hB⟩
theorem CQ {α:Type} {f:α->Int} {l:List α}:Bu (l.map f)=0 ↔ ∀ a∈l,f a=0:=
 ⟨fun h a ha=>Db.1 h _ (List.mem_map_of_mem ha),Ct⟩
theorem Nl {a b c:Int}:Bu [a,b,c]=0 ↔ a=0/\b=0/\c=0:=by
 rw [Db];simp
theorem Nm {a b:Int}:Bu [a,b]=0 ↔ a=0/\b=0:=by
 rw [Db];simp
theorem Ou (K nv ni no:Nat) (funcs:Int) (fs) (d:D):eS1 K nv ni no funcs fs d=0 ↔ Ey.xS1 K nv ni no funcs fs d:=by
 unfold eS1 Ey.xS1 Cq Ey.zerS
 by_cases hk:1<=Ag d/\Ag d<=8
 ·rcases (by omega:Ag d=1\/Ag d=2\/Ag d=3\/Ag d=4\/Ag d=5\/Ag d=6\/Ag d=7\/Ag d=8) with h | h | h | h | h | h | h | h
  all_goals
   simp only [h,Int.reduceEq,if_true,if_false]
   first | rw [e3] | rw [e2]
   try rw [CQ]
   simp only [Ey.len0]
   constructor <;> (intro hp;simp at hp ⊢;simp_all)
 ·rw [if_neg (by omega),if_neg (by omega),if_neg (by omega),if_neg (by omega),if_neg (by omega),if_neg (by omega),if_neg (by omega),if_neg (by omega)]
  exact ⟨fun h=>absurd h (by decide),fun h=>absurd h.1.1 hk⟩
theorem DU (K nv ni no:Nat) (funcs:Int) (fs):∀ (k:Nat) (d:D),eS K nv ni no funcs fs k d=0 ↔ Ey.xS K nv ni no funcs fs k d
 | 0,d=>⟨fun h=>absurd h (by show ¬ (7:Int)=0;decide),fun h=>h.elim⟩
 | k+1,d=>by
  show Bu [_,_,_]=0 ↔ _/\_/\_
  rw [Nl,CQ,CQ,Ou]
  exact ⟨fun h=>⟨h.1,fun s hs=>(DU K nv ni no funcs fs k s).1 (h.2.1 s hs),fun s hs=>(DU K nv ni no funcs fs k s).1 (h.2.2 s hs)⟩,fun h=>⟨h.1,fun s hs=>(DU K nv ni no funcs fs k s).2 (h.2.1 s hs),fun s hs=>(DU K nv ni no funcs fs k s).2 (h.2.2 s hs)⟩⟩
theorem Nr (K nv ni no:Nat) (ahead:Int) (fs) (k:Nat) (f:FnD):eF K nv ni no ahead fs k f=0 ↔ Ey.xF K nv ni no ahead fs k f:=by
 unfold eF Ey.xF
 by_cases h1:f.ps.length<=4
 ·rw [if_pos h1]
  by_cases h2:∀ p∈f.ps,0<=p/\p < (nv:Int)
  ·rw [if_pos h2]
   by_cases h3:∀ i (h:i < f.ps.length),f.ps[i] ∉ f.ps.take i
   ·rw [if_pos h3,Nm,CQ]
    exact ⟨fun h=>⟨h1,h2,h3,fun s hs=>(DU K nv ni no ahead fs k s).1 (h.1 s hs),h.2⟩,fun h=>⟨fun s hs=>(DU K nv ni no ahead fs k s).2 (h.2.2.2.1 s hs),h.2.2.2.2⟩⟩
   ·rw [if_neg h3];exact ⟨fun h=>absurd h (by decide),fun h=>absurd h.2.2.1 h3⟩
  ·rw [if_neg h2];exact ⟨fun h=>absurd h (by decide),fun h=>absurd h.2.1 h2⟩
 ·rw [if_neg h1];exact ⟨fun h=>absurd h (by decide),fun h=>absurd h.1 h1⟩
theorem M6 {v:Bool × Lab}:kE v=0 ↔ (v.1=false->v.2.r=[]/\v.2.w=[]):=by
 by_cases h:(v.1=false->v.2.r=[]/\v.2.w=[])
 ·exact ⟨fun _=>h,fun _=>H9 h⟩
 ·rw [M5 h];exact ⟨fun h=>absurd h (by decide),fun h'=>absurd h' h⟩
theorem Nq (m:Int) (gs L) (vs:List (Bool × Lab)):eL m gs L vs=0 ↔ H7 m gs L vs:=by
 unfold eL H7
 rw [Nl,CQ,CQ,CQ]
 exact ⟨fun h=>⟨h.1,h.2.1,fun v hv=>M6.1 (h.2.2 v hv)⟩,fun h=>⟨h.1,h.2.1,fun v hv=>M6.2 (h.2.2 v hv)⟩⟩
open Classical in
theorem eP_iff (K kf:Nat) (m:Int) (vn yn on sn:Nat) (gs sp ls ms vs fs) (l:List D):eP K kf m vn yn on sn gs sp ls ms vs fs l=0 ↔ Ey.xP K kf m vn yn on sn gs sp ls ms vs fs l:=by
 unfold eP
 by_cases h1:AL m gs=0
 ·rw [if_pos h1]
  by_cases h2:((vn:Int)<=16/\(yn:Int)<=5/\(on:Int)<=5/\(fs.length:Int)<=5/\(sn:Int)<=m)
  ·rw [if_pos h2]
   by_cases h3:∀ x∈sp,0<=x/\x < m
   ·rw [if_pos h3]
    by_cases h4:eL m gs (ls++ms) vs=0
    ·rw [if_pos h4]
     by_cases h5:(((AV kf fs:Nat):Int)+(AC kf l:Nat)<=50/\Ey.dpF kf fs/\Ey.dps kf 1 l)
     ·rw [if_pos h5,Nm,CQ,CQ]
      refine ⟨fun h=>⟨h1,h2,h3,(Nq m gs _ vs).1 h4,h5,fun i hi=>(Nr K vn yn on i fs kf fs[i]).1 ?_,fun s hs=>(DU K vn yn on _ fs kf s).1 (h.2 s hs)⟩,fun h=>⟨fun i hi=>?_,fun s hs=>(DU K vn yn on _ fs kf s).2 (h.main s hs)⟩⟩
      ·have:=h.1 i (by simpa using hi)
       rwa [EG hi] at this
      ·have hi':i < fs.length:=by simpa using hi
       rw [EG hi']
       exact (Nr K vn yn on i fs kf fs[i]).2 (h.body i hi')
     ·rw [if_neg h5];exact ⟨fun h=>absurd h (by decide),fun h=>absurd h.many h5⟩
    ·rw [if_neg h4];exact ⟨fun h=>absurd h h4,fun h=>absurd ((Nq m gs _ vs).2 h.labs) h4⟩
   ·rw [if_neg h3];exact ⟨fun h=>absurd h (by decide),fun h=>absurd h.speak h3⟩
  ·rw [if_neg h2];exact ⟨fun h=>absurd h (by decide),fun h=>absurd h.lim h2⟩
 ·rw [if_neg h1];exact ⟨fun h=>absurd h h1,fun h=>absurd h.chk h1⟩
end Go.Proofs.YtfffpjkcfnekaaaGreat.Ex.Ez
namespace Go.Proofs.YtfffpjkcfnekaaaGreat.Ex
open Go.RowKit
open Go.Value renaming slice -> O, int -> U, bool -> zg, agg -> zh, pointer -> zi, tuple -> zk
open Go.IntKind renaming i64 -> zd
open Go.Obj renaming cells -> ze
open Go.Ending renaming returned -> zj
theorem Qw (args:Array Value) (w:World):(callFunc 178 args).run Tryz.prog w=.ok (.enter 178 args) w:=by simp [go_sem]
theorem J5 (args:Array Value) (w:World):(callFunc 179 args).run Tryz.prog w=.ok (.enter 179 args) w:=by simp [go_sem]
theorem Ad.set {cs:List Value} {w:World} {b j:Nat} {v:Value} (h:Ad cs w b) (hj:j < cs.length):Ad (cs.set j v) (w.setCell ⟨b,j,none⟩ v) b:=by
 have hc:=h j _ (List.getElem?_eq_getElem hj)
 have hb:=bL hc
 intro k u hu
 by_cases hk:k=j
 ·subst hk
  rw [List.getElem?_set_self hj] at hu
  simp at hu
  subst hu
  simp [go_sem,hc]
 ·rw [List.getElem?_set_ne (by omega)] at hu
  have:=h k u hu
  simp [go_sem,this]
theorem Ad.other {cs:List Value} {w:World} {b b' j:Nat} {v:Value} (h:Ad cs w b) (hb:b≠b'):Ad cs (w.setCell ⟨b',j,none⟩ v) b:=fun k u hu=>by
 have:=h k u hu
 simp [go_sem,this]
theorem Ad.drew {cs:List Value} {w:World} {b:Nat} (h:Ad cs w b):Ad cs w.drew b:=fun k u hu=>h k u hu
theorem Nc {w w0 w1:World} {a0 a1 a2 a3 a4 a5 a6 a7:Addr} {v0 v1 v2 v3 v4 v5 v6 v7:Value}
  (h:w0.cell? a0=some v0/\w0.cell? a1=some v1/\w0.cell? a2=some v2/\w0.cell? a3=some v3/\w0.cell? a4=some v4/\w0.cell? a5=some v5/\w0.cell? a6=some v6/\w0.cell? a7=some v7/\Ov w w0) (hb:Ov w0 w1) :
  w1.cell? a0=some v0/\w1.cell? a1=some v1/\w1.cell? a2=some v2/\w1.cell? a3=some v3/\w1.cell? a4=some v4/\w1.cell? a5=some v5/\w1.cell? a6=some v6/\w1.cell? a7=some v7/\Ov w w1:=by
 obtain ⟨h0,h1,h2,h3,h4,h5,h6,h7,hB⟩:=h
 exact ⟨Ab hb _ _ h0,Ab hb _ _ h1,Ab hb _ _ h2,Ab hb _ _ h3,Ab hb _ _ h4,Ab hb _ _ h5,Ab hb _ _ h6,Ab hb _ _ h7,hB.trans (hb.mono hB.size)⟩
theorem Bg {w w':World} {r b j:Nat} {u:Value} (hg:w.grownBy w' (some r)) (h:w.cell? ⟨b,j,none⟩=some u) (hne:b≠r):w'.cell? ⟨b,j,none⟩=some u:=by
 have hb:=bL h
 rw [World.cell?_of_block (w:=w) (hg.block b hb (fun e=>hne (Option.some.inj e)))]
 exact h
theorem CI {w:World} {r n j:Nat} {u:Value}:w.grownBy ((w.drewN n).setCell ⟨r,j,none⟩ u) (some r):=by
 have h:=Below.heap_setCell (w.drewN n) ⟨r,j,none⟩ u
 refine ⟨rfl,rfl,rfl,by simp [World.setCell],fun k hk hne=>?_⟩
 rw [h k (fun e=>hne (by rw [e]))]
 rfl
theorem Q8 {w w0 w1:World} {a0 a1 a2 a3:Addr} {v0 v1 v2 v3:Value}
  (h:w0.cell? a0=some v0/\w0.cell? a1=some v1/\w0.cell? a2=some v2/\w0.cell? a3=some v3/\Ov w w0) (hb:Ov w0 w1) :
  w1.cell? a0=some v0/\w1.cell? a1=some v1/\w1.cell? a2=some v2/\w1.cell? a3=some v3/\Ov w w1:=by
 obtain ⟨h0,h1,h2,h3,hB⟩:=h
 exact ⟨Ab hb _ _ h0,Ab hb _ _ h1,Ab hb _ _ h2,Ab hb _ _ h3,hB.trans (hb.mono hB.size)⟩
theorem Tryz.infoE:(Tryz.prog.info? 136).map (fun i=>(i.zero,i.size,i.bytes))=some (some (zh #[U zd 0,U zd 0,U zd 0,U zd 0]),4,32):=by kernel_rfl
theorem Ad.newA (cs:Array Value) (t:Nat) (w:World):Ad cs.toList (w.alloc (.cells cs t)) w.heap.size:=fun j u hu=>by
 rw [Lib.cell_of_heap (heap_alloc_new w _)]
 simpa using hu
theorem Ad.more {cs rest:List Value} {w:World} {b:Nat} (h:Ad (cs++rest) w b):Ad cs w b:=fun j u hu=>h j u (by rw [List.getElem?_append_left (List.getElem?_eq_some_iff.1 hu).1];exact hu)
theorem M4 {w w':World} {r a b j k l:Nat} {x y z:Value} (h:w.cell? ⟨a,j,none⟩=some x/\w.cell? ⟨b,k,none⟩=some y/\w.cell? ⟨b,l,none⟩=some z) (hg:w.grownBy w' (some r)) (ha:a≠r) (hb:b≠r) :
  w'.cell? ⟨a,j,none⟩=some x/\w'.cell? ⟨b,k,none⟩=some y/\w'.cell? ⟨b,l,none⟩=some z:=⟨Bg hg h.1 ha,Bg hg h.2.1 hb,Bg hg h.2.2 hb⟩
theorem Qk {w w':World} {b j k l m:Nat} {x y z u:Value} (h:w.cell? ⟨b,j,none⟩=some x/\w.cell? ⟨b,k,none⟩=some y/\w.cell? ⟨b,l,none⟩=some z/\w.cell? ⟨b,m,none⟩=some u) (hg:Ov w w') :
  w'.cell? ⟨b,j,none⟩=some x/\w'.cell? ⟨b,k,none⟩=some y/\w'.cell? ⟨b,l,none⟩=some z/\w'.cell? ⟨b,m,none⟩=some u:=⟨Ab hg _ _ h.1,Ab hg _ _ h.2.1,Ab hg _ _ h.2.2.1,Ab hg _ _ h.2.2.2⟩
def Bi (w:World) (v:Value) (ls:List (List Int)):Prop:=
 ls.length<=maxLen/\∃ ao cap,v=O ao ls.length cap/\(ls≠[]->∃ b off,ao=some ⟨b,off,none⟩/\∀ i (h:i < ls.length),∃ u,w.cell? ⟨b,off+i,none⟩=some u/\AQ w u ls[i]/\ls[i].length<=9223372036854775807)
theorem Bi.over {w w':World} {v:Value} {ls:List (List Int)} (h:Bi w v ls) (hb:Ov w w'):Bi w' v ls:=by
 obtain ⟨hm,ao,cap,hv,hc⟩:=h
 refine ⟨hm,ao,cap,hv,fun hne=>?_⟩
 obtain ⟨b,off,hao,hel⟩:=hc hne
 refine ⟨b,off,hao,fun i hi=>?_⟩
 obtain ⟨u,h0,h1,h2⟩:=hel i hi
 exact ⟨u,Ab hb _ _ h0,h1.over hb,h2⟩
theorem JG (a n c) (w:World):Calls Tryz.prog 178 #[O a n c] w fun e w'=>e=zj (zg (decide (100 < n)))/\w'=w:=by
 by_cases h:100 < n
 ·go_enter Tryz.func178,Tryz.ntmps178
  go_wp2_with fail
  go_ret
  exact ⟨by simp;omega,rfl⟩
 ·go_enter Tryz.func178,Tryz.ntmps178
  go_wp2_with fail
  go_ret
  exact ⟨by simp;omega,rfl⟩
theorem GM (l) (v:Value) (w:World) (h:AQ w v l) (hl:l.length<=9223372036854775807):Calls Tryz.prog 179 #[v] w fun e w'=>e=zj (zg (!l.all C3))/\w'=w:=by
 have K:=Aa (Dk l _ w h hl)
 obtain ⟨a,c,rfl,-⟩:=h
 go_enter Tryz.func179,Tryz.ntmps179
 go_wp2_with fail
 refine (K.o).mono ?_
 rintro e w1 ⟨rfl,rfl⟩
 go_wp2_with fail
 go_ret
 exact ⟨rfl,rfl⟩
theorem Gk (F:FuncId) (p:List Int->Bool) (ls) (v:Value) (w:World) (h:Bi w v ls)
  (hF:Hx (∀ (l:List Int) (u:Value),AQ w u l->l.length<=9223372036854775807->Calls Tryz.prog F #[u] w fun e w'=>e=zj (zg (p l))/\w'=w)) (hC:∀ (args:Array Value) (w:World),(callFunc F args).run Tryz.prog w=.ok (.enter F args) w) :
  Calls Tryz.prog 221 #[v,.func (.func F) #[] #[]] w fun e w'=>∃ r:Int,e=zj (U zd r)/\decide (0<=r)=ls.any p/\w'=w:=by
 obtain ⟨hm,ao,cap,rfl,hcc⟩:=h
 have hm2:ls.length<=9223372036854775807:=hm
 have HCC:=Aa hcc
 clear hcc hm
 go_enter Tryz.func221,Tryz.ntmps221
 go_wp2_with fail
 go_loopw [8] (fun i wr=>∃ k:Nat,k<=ls.length/\i=U zd k/\(ls.take k).any p=false/\wr=w) (fun i _=>ls.length - (intOf i).toNat)
 case atStart=>exact ⟨0,Nat.zero_le _,rfl,rfl,rfl⟩
 case round=>
  obtain ⟨k,hk,rfl,hall,rfl⟩:=hrel
  have HA:=Aa hall
  clear hall
  by_cases hkl:k < ls.length
  ·obtain ⟨b,off,rfl,hcl⟩:=HCC.o (by rintro rfl;simp at hkl)
   obtain ⟨u,q0,hu,hul⟩:=hcl k hkl
   have hst:p ls[k]=true->ls.any p=true:=fun h=>by rw [List.any_eq_true];exact ⟨ls[k],List.getElem_mem hkl,h⟩
   have hnx:p ls[k]=false->(ls.take (k+1)).any p=false:=fun h=>by rw [List.take_succ_eq_append_getElem hkl,List.any_append,HA.o];simp [h]
   have hcall:=hF.o ls[k] u hu hul
   obtain ⟨r,hr⟩:=nm (p ls[k])
   rw [<-hr] at hcall hst hnx
   have HCALL:=Aa hcall
   have HST:=Aa hst
   have HNX:=Aa hnx
   obtain ⟨a2,c2,rfl,-⟩:=hu
   clear hcall hst hnx hr hcl HA hF
   cases r with
   | false=>
    go_wp2_with fail
    refine (HCALL.o).mono ?_
    rintro e w2 ⟨rfl,rfl⟩
    go_wp2_with fail
    exact ⟨⟨k+1,by omega,by go_num,HNX.o (by first | rfl | trivial),by first | rfl | trivial⟩,by simp [intOf];omega⟩
   | true=>
    go_wp2_with fail
    refine (HCALL.o).mono ?_
    rintro e w2 ⟨rfl,rfl⟩
    go_wp2_with fail
    go_ret
    refine ⟨(k:Int),by first | rfl | trivial,?_,by first | rfl | trivial⟩
    rw [HST.o (by first | rfl | trivial)]
    simp
  ·have ha:=HA.o
   rw [List.take_of_length_le (by omega)] at ha
   have HD:=Aa ha
   clear ha HA hF
   go_wp2_with fail
   go_ret
   refine ⟨-1,by first | rfl | trivial,?_,by first | rfl | trivial⟩
   rw [HD.o]
   rfl
theorem C7 (F:FuncId) (p:List Int->Bool) (ls) (v:Value) (w:World) (h:Bi w v ls)
  (hF:Hx (∀ (l:List Int) (u:Value),AQ w u l->l.length<=9223372036854775807->Calls Tryz.prog F #[u] w fun e w'=>e=zj (zg (p l))/\w'=w)) (hC:∀ (args:Array Value) (w:World),(callFunc F args).run Tryz.prog w=.ok (.enter F args) w) :
  Calls Tryz.prog 180 #[v,.func (.func F) #[] #[]] w fun e w'=>e=zj (zg (ls.any p))/\w'=w:=by
 have K:=Aa (Gk F p ls v w h hF hC)
 obtain ⟨hm,ao,cap,rfl,hcc⟩:=h
 obtain ⟨q,hq⟩:=nm (ls.any p)
 rw [<-hq] at K ⊢
 clear hcc hq hF
 go_enter Tryz.func180,Tryz.ntmps180
 go_wp2_with fail
 refine (K.o).mono ?_
 rintro e w1 ⟨r,rfl,hr,rfl⟩
 have HR:=Aa hr
 clear hr
 go_wp2_with fail
 go_ret
 exact ⟨by rw [<-HR.o];simp,rfl⟩
structure okR (K kf:Nat) (m:Int) (vn yn on sn:Nat) (gs:List (Int × Int)) (sp:List Int) (ls ms:List Lab) (vs:List (Bool × Lab)) (fs:List FnD) (l:List D) (ins:List (List Int)) (fuel:Int):Prop where
 prog:Ey.xP K kf m vn yn on sn gs sp ls ms vs fs l
 many:ins.length=yn
 long:∀ x∈ins,x.length<=100
 num:∀ x∈ins,∀ y∈x,I32 y
 f0:0<=fuel
 f1:fuel<=2000
def eRz (z:Int) (yn:Nat) (ins:List (List Int)) (fuel:Int):Int:=
 if z=0 then if ins.length=yn then if ins.any (fun l=>decide (100 < l.length))=true then 2 else if ins.any (fun l=>!l.all C3)=true then 3 else if fuel < 0\/2000 < fuel then 3 else 0 else 1 else z
def eR [dc:∀ p:Prop,Decidable p] (K kf:Nat) (m:Int) (vn yn on sn:Nat) (gs:List (Int × Int)) (sp:List Int) (ls ms:List Lab) (vs:List (Bool × Lab)) (fs:List FnD) (l:List D) (ins:List (List Int)) (fuel:Int):Int:=eRz (Ez.eP K kf m vn yn on sn gs sp ls ms vs fs l) yn ins fuel
open Classical in
structure OG (why:Int) (K kf:Nat) (m:Int) (vn yn on sn:Nat) (gs:List (Int × Int)) (sp:List Int) (ls ms:List Lab) (vs:List (Bool × Lab)) (fs:List FnD) (l:List D) (ins:List (List Int)) (fuel:Int):Prop where
 mp:why=0->okR K kf m vn yn on sn gs sp ls ms vs fs l ins fuel
 mpr:okR K kf m vn yn on sn gs sp ls ms vs fs l ins fuel->why=0
 eq:why=eR K kf m vn yn on sn gs sp ls ms vs fs l ins fuel
open Classical in
theorem Hy (K kf:Nat) (m:Int) (ga gn gc sa sn sc ya yn yc oa on oc va vn vc fa fn fc ba bn bc) (xa xn xc) (ins) (fuel:Int) (gs sp ls ms vs fs l) (w:World) (h:Br K kf m ga gn gc sa sn sc ya yn yc oa on oc va vn vc fa fn fc ba bn bc gs sp ls ms vs fs l w) (hx:Bi w (O xa xn xc) ins) :
  Calls Tryz.prog 117 #[zh #[U zd m,O ga gn gc,O sa sn sc,O ya yn yc,O oa on oc,O va vn vc,O fa fn fc,O ba bn bc],O xa xn xc,U zd fuel] w fun e w'=>∃ why:Int,e=zj (U zd why)/\OG why K kf m vn yn on sn gs sp ls ms vs fs l ins fuel/\Ov w w':=by
 have hmf:∀ (fn:Fn) (first cap:Array Value) (w:World),(Instr.makeFunc fn first cap).run Tryz.prog w=.ok (.func fn first cap) w:=fun _ _ _ _=>rfl
 have hbel:Ov w (w.alloc (ze #[U zd m,O ga gn gc,O sa sn sc,O ya yn yc,O oa on oc,O va vn vc,O fa fn fc,O ba bn bc] 31)):=bA w _
 have K1:=Aa (Ez.scopeCheck_any K kf m ga gn gc sa sn sc ya yn yc oa on oc va vn vc fa fn fc ba bn bc gs sp ls ms vs fs l _ (h.over hbel))
 have HX:=Aa (hx.over hbel)
 have hxn:xn=ins.length:=by obtain ⟨-,a,c,he,-⟩:=hx;injection he
 have hxl:xn<=9223372036854775807:=by rw [hxn];exact hx.1
 have hyl:yn<=9223372036854775807:=by obtain ⟨hm,a,c,he,-⟩:=h.ins;injection he with e1 e2 e3;rw [e2];exact hm
 have HXN:=Aa hxn
 have K2:=Aa fun W (hw:Bi W (O xa xn xc) ins)=>C7 178 (fun l=>decide (100 < l.length)) ins (O xa xn xc) W hw (Aa fun l u hu _=>by
  obtain ⟨a,c,rfl,-⟩:=hu
  exact JG a l.length c W) Qw
 have K3:=Aa fun W (hw:Bi W (O xa xn xc) ins)=>C7 179 (fun l=>!l.all C3) ins (O xa xn xc) W hw (Aa fun l u hu hl=>GM l u W hu hl) J5
 obtain ⟨q2,hq2⟩:=nm (ins.any (fun l=>decide (100 < l.length)))
 obtain ⟨q3,hq3⟩:=nm (ins.any (fun l=>!l.all C3))
 rw [<-hq2] at K2
 rw [<-hq3] at K3
 have HQ2:=Aa hq2
 have HQ3:=Aa hq3
 have c3:(w.alloc (ze #[U zd m,O ga gn gc,O sa sn sc,O ya yn yc,O oa on oc,O va vn vc,O fa fn fc,O ba bn bc] 31)).cell? ⟨w.heap.size,3,none⟩=some (O ya yn yc):=by simp [go_sem]
 clear h hx hxn hq2 hq3
 go_enter Tryz.func117,Tryz.ntmps117
 go_wp2_with fail
 refine (K1.o).mono ?_
 rintro e w1 ⟨rfl,hb1⟩
 have hok:=Ez.eP_iff K kf m vn yn on sn gs sp ls ms vs fs l
 obtain ⟨E,hE⟩:=nm (Ez.eP K kf m vn yn on sn gs sp ls ms vs fs l)
 rw [<-hE] at hok ⊢
 have HE:=Aa hE
 clear hE
 have d3:=Ab hb1 _ _ c3
 have HX1:=Aa (HX.o.over hb1)
 have hB1:=hbel.trans (hb1.mono hbel.size)
 have HOK:=Aa hok
 clear hbel hb1 K1 HX c3 hok
 by_cases hw:E=0
 rotate_left
 ·have hwb:(E == 0)=false:=by simpa using hw
  go_wp2_with fail
  go_ret
  exact ⟨E,rfl,⟨fun h=>absurd h hw,fun h=>absurd (HOK.o.2 h.prog) hw,by unfold eR eRz;rw [<-HE.o,if_neg hw]⟩,hB1⟩
 subst hw
 by_cases hxy:xn=yn
 rotate_left
 ·have hb:((xn:Int) == (yn:Int))=false:=by simp;omega
  go_wp2_with fail
  go_ret
  exact ⟨1,rfl,⟨fun h=>absurd h (by decide),fun h=>absurd (HXN.o.trans h.many) hxy,by unfold eR eRz;rw [<-HE.o,if_pos rfl,if_neg (fun h=>hxy (HXN.o.trans h))]⟩,hB1⟩
 have hb:((xn:Int) == (yn:Int))=true:=by simp;omega
 have HXY:=Aa hxy
 clear hxy
 go_wp2_with fail
 refine (K2.o _ HX1.o).mono ?_
 rintro e w2 ⟨rfl,rfl⟩
 cases q2 with
 | true=>
  go_wp2_with fail
  go_ret
  refine ⟨2,rfl,⟨fun h=>absurd h (by decide),fun h=>?_,by unfold eR eRz;rw [<-HE.o,if_pos rfl,if_pos (HXN.o.symm.trans HXY.o),if_pos HQ2.o.symm]⟩,hB1⟩
  obtain ⟨x,hx,hl⟩:=List.any_eq_true.1 HQ2.o.symm
  exact absurd (h.long x hx) (by simpa using hl)
 | false=>
 go_wp2_with fail
 refine (K3.o _ HX1.o).mono ?_
 rintro e w3 ⟨rfl,rfl⟩
 cases q3 with
 | true=>
  go_wp2_with fail
  go_ret
  refine ⟨3,rfl,⟨fun h=>absurd h (by decide),fun h=>?_,by unfold eR eRz;rw [<-HE.o,if_pos rfl,if_pos (HXN.o.symm.trans HXY.o),if_neg (by rw [<-HQ2.o];decide),if_pos HQ3.o.symm]⟩,hB1⟩
  obtain ⟨x,hx,hl⟩:=List.any_eq_true.1 HQ3.o.symm
  have ha:x.all C3=true:=List.all_eq_true.2 fun y hy=>by simpa [C3,I32] using h.num x hx y hy
  simp [ha] at hl
 | false=>
 by_cases hf0:fuel < 0
 ·go_wp2_with fail
  go_ret
  exact ⟨3,rfl,⟨fun h=>absurd h (by decide),fun h=>by have:=h.f0;omega,by unfold eR eRz;rw [<-HE.o,if_pos rfl,if_pos (HXN.o.symm.trans HXY.o),if_neg (by rw [<-HQ2.o];decide),if_neg (by rw [<-HQ3.o];decide),if_pos (Or.inl hf0)]⟩,hB1⟩
 by_cases hf1:2000 < fuel
 ·go_wp2_with fail
  go_ret
  exact ⟨3,rfl,⟨fun h=>absurd h (by decide),fun h=>by have:=h.f1;omega,by unfold eR eRz;rw [<-HE.o,if_pos rfl,if_pos (HXN.o.symm.trans HXY.o),if_neg (by rw [<-HQ2.o];decide),if_neg (by rw [<-HQ3.o];decide),if_pos (Or.inr hf1)]⟩,hB1⟩
 go_wp2_with fail
 go_ret
 refine ⟨0,rfl,⟨fun _=>⟨HOK.o.1 (by first | rfl | trivial),by rw [<-HXN.o];exact HXY.o,fun x hx=>?_,fun x hx y hy=>?_,by omega,by omega⟩,fun _=>rfl,by unfold eR eRz;rw [<-HE.o,if_pos rfl,if_pos (HXN.o.symm.trans HXY.o),if_neg (by rw [<-HQ2.o];decide),if_neg (by rw [<-HQ3.o];decide),if_neg (by omega)]⟩,hB1⟩
 ·have:=List.any_eq_false.1 HQ2.o.symm x hx
  simpa using this
 ·have:=List.any_eq_false.1 HQ3.o.symm x hx
  simp only [Bool.not_eq_true,Bool.not_eq_false'] at this
  have:=List.all_eq_true.1 this y hy
  simpa [C3,I32] using this
end Go.Proofs.YtfffpjkcfnekaaaGreat.Ex
namespace Go.Proofs.YtfffpjkcfnekaaaGreat.Ex
open Go.RowKit
open Go.Value renaming slice -> O, int -> U, bool -> zg, agg -> zh, pointer -> zi, tuple -> zk
open Go.IntKind renaming i64 -> zd
open Go.Obj renaming cells -> ze
open Go.Ending renaming returned -> zj
open Go.ChangeShapes Go.WideShapes Go.ChangeAt
section
variable {H:Type} {enc:TypeId × Value->H} {W:World}
theorem IQ {fuel:Nat} {v:Value} {x:DataW H × List MemPlace} (h:DataW.trod enc Tryz.prog W 0 (fun _=>true) true fuel 52 [v]=some x):∃ l:List (List Int),Bi W v l/\LAt 1 (fun cs x=>∃ u,cs=[u]/\LAt 1 (fun cs x=>cs=[U zd x]) W u x) W v l:=by
 obtain ⟨l,hl⟩:=BK Tryz.underlying52 Tryz.cells25 (by omega) h [] (fun cs (x:List Int)=>∃ u,cs=[u]/\LAt 1 (fun cs x=>cs=[U zd x]) W u x) fun m cs y _ hy=>by
  have hlen:cs.length=1:=by
   rcases DataW.trod_slice Tryz.underlying25 hy with ⟨hcs,-⟩ | ⟨ad,len,cap,elems,rest,m,rfl,hcs,-⟩
   ·rw [hcs];rfl
   ·rw [hcs];rfl
  match cs,hlen with
  | [u],_=>
   obtain ⟨l,hl⟩:=Du hy
   exact ⟨l,u,rfl,hl⟩
 refine ⟨l,?_,hl⟩
 obtain ⟨hm,ao,cap,hv,-,-,-,hc⟩:=hl
 refine ⟨hm,ao,cap,hv,fun hne=>?_⟩
 obtain ⟨b,off,hb,hel⟩:=hc hne
 refine ⟨b,off,hb,fun i hi=>?_⟩
 obtain ⟨cs,-,hcs,u,rfl,hu⟩:=hel i l[i] (List.getElem?_eq_getElem hi)
 refine ⟨u,by have:=hcs 0 _ rfl;simpa using this,Ib hu,?_⟩
 have:=hu.1
 unfold maxLen at this
 omega
theorem open_lists {r:Go.Reach} {b0:Nat} {v:Value} {d:DataW H} {p:List MemPlace} (hv:Value.okWide Tryz.prog W r b0 52 v) (h:DataW.Trod enc Tryz.prog W 0 (fun _=>true) true 52 v d p) :
  ∃ (a:Option Addr) (n c:Nat) (l:List (List Int)),v=O a n c/\Bi W (O a n c) l/\LAt 1 (fun cs x=>∃ u,cs=[u]/\LAt 1 (fun cs x=>cs=[U zd x]) W u x) W (O a n c) l:=by
 obtain ⟨a,n,c,rfl⟩:=okWide_slice Tryz.underlying52 hv
 obtain ⟨fuel,hf⟩:=h
 have hf2:DataW.trod enc Tryz.prog W 0 (fun _=>true) true fuel 52 [O a n c]=some (d,p):=by simpa [Value.cells] using hf
 obtain ⟨l,h1,h2⟩:=IQ hf2
 exact ⟨a,n,c,l,rfl,h1,h2⟩
end
end Go.Proofs.YtfffpjkcfnekaaaGreat.Ex
namespace Go.Proofs.YtfffpjkcfnekaaaGreat.Ex
open Go.RowKit
open Go.Value renaming slice -> O, int -> U, bool -> zg, agg -> zh, pointer -> zi, tuple -> zk
open Go.IntKind renaming i64 -> zd
open Go.Obj renaming cells -> ze
open Go.Ending renaming returned -> zj
theorem Tryz.infoFt:(Tryz.prog.info? 89).map (fun i=>(i.zero,i.size,i.bytes))=some (some (zh #[U zd 0,U zd 0]),2,16):=by kernel_rfl
theorem CS {ops:Array Oper} {o:Oper} {a:Act} {W:World} {K:Act->World->Prop} {Q:Exit->Act->World->Prop} {E:Prop} (hg:o.guard=none) (s x:Operand) (t:TypeId) (hop:o.op=Op.call { callee:=Callee.builtin Builtin.append,args:=#[s,x],argTypes:=#[t,t] }) (v u v':Value) (W':World) (hs:a.eval s=v) (hx:a.eval x=u)
  (hr:(Builtin.append_ #[t,t] o.type #[v,u]).run Tryz.prog W=.ok v' W') (h:K (a.put o.dst v') W'):if Region.wanted o (yielded ops a.tmps)=true then Oper.wp Tryz.prog o a W K Q else E:=by
 have hw:Region.wanted o (yielded ops a.tmps)=true:=by simp [Region.wanted,hg]
 rw [if_pos hw]
 unfold Oper.wp execOp
 simp only [hop,resolve,invoke,builtin,Sem.run_bind,Sem.run_pure,Result.andThen_ok,List.map_toArray,List.map_cons,List.map_nil,hs,hx,hr]
 exact h
theorem Bv {cs:List Value} {w:World} {b j:Nat} {v:Value} (h:Ad cs w b) (hj:j < cs.length):Ad (cs.set j v) (w.setCell ⟨b,j,none⟩ v) b:=by
 intro i u hu
 by_cases hij:j=i
 ·subst hij
  rw [List.getElem?_set_self hj] at hu
  injection hu with hu
  subst hu
  exact World.cell?_setCell_same _ _ _ (h j _ (List.getElem?_eq_getElem hj))
 ·rw [List.getElem?_set_ne hij] at hu
  rw [World.cell?_setCell_other _ _ _ _ (by intro e;injection e with e1 e2;exact hij e2)]
  exact h i u hu
theorem Aq {w:World} {b i k:Nat} (h:b≠k) (u:Value):(w.setCell ⟨b,i,none⟩ u).heap[k]? = w.heap[k]?:=by
 simp [World.setCell,Array.getElem?_modify,h]
theorem JK {w:World} {b j:Nat} {u:Value}:w.grownBy (w.setCell ⟨b,j,none⟩ u) (some b):=
 ⟨rfl,rfl,rfl,by simp [World.setCell],fun k hk hne=>Aq (fun e=>hne (by rw [e])) u⟩
theorem DT {w w':World} {v:Value} {B:Nat} (h:w.grownBy w' v.ownBlock) (hv:∀ g,v.ownBlock=some g->B<=g) (hB:B<=w.heap.size):Below B w w':=
 ⟨h.os,h.tape,h.output,h.size,fun k hk=>h.block k (by omega) (fun e=>by have:=hv k e.symm;omega)⟩
def BX (l:List (Int × Int)):List Value:=l.flatMap fun x=>[U zd x.1,U zd x.2]
theorem I8 (l:List (Int × Int)) (a k:Int):BX (l++[(a,k)])=BX l++[U zd a,U zd k]:=by simp [BX]
def addF (a k:Int) (fl:List (Int × Int)):Bool->List (Int × Int)
 | true=>fl++[(a,k)]
 | false=>fl
def XJ (bj:Nat) (W:World) (k:Nat):Prop:=W.heap.size<=bj\/k=bj\/∃ v,W.cell? ⟨bj,11,none⟩=some v/\v.ownBlock=some k
theorem Aj (bj:Nat):XOk (XJ bj):=⟨fun W W' hb k h=>by
 by_cases hlt:W.heap.size<=bj
 ·exact Or.inl hlt
 ·rcases h with h | h | ⟨v,hv,ho⟩
  ·exact absurd (Nat.le_trans hb.size h) hlt
  ·exact Or.inr (Or.inl h)
  ·refine Or.inr (Or.inr ⟨v,?_,ho⟩)
   rw [<-hv]
   exact (World.cell?_of_block (a:=⟨bj,11,none⟩) (hb.block bj (by omega))).symm⟩
structure AI (cs:List Value) (w0:World) (bj:Nat) (av:Value) (fl:List (Int × Int)) (fv:Value) (W:World):Prop where
 below:Ov w0 W
 row:Ad (cs++[av,fv]) W bj
 fz:∀ j,W.frozen? ⟨bj,j,none⟩=false
 own:W.ownsRow w0.heap.size 89 2 fv fl.length (BX fl)
 ap:fv.ownBlock≠some bj
 lo:w0.heap.size<=bj/\bj < W.heap.size
 len:cs.length=10
theorem AI.c11 {cs:List Value} {w0:World} {bj:Nat} {av:Value} {fl:List (Int × Int)} {fv:Value} {W:World} (h:AI cs w0 bj av fl fv W):W.cell? ⟨bj,11,none⟩=some fv:=h.row 11 _ (by rw [List.getElem?_append_right (by rw [h.len];omega),h.len];rfl)
theorem AI.c10 {cs:List Value} {w0:World} {bj:Nat} {av:Value} {fl:List (Int × Int)} {fv:Value} {W:World} (h:AI cs w0 bj av fl fv W):W.cell? ⟨bj,10,none⟩=some av:=h.row 10 _ (by rw [List.getElem?_append_right (by rw [h.len];omega),h.len];rfl)
theorem AI.cw {cs:List Value} {w0:World} {bj:Nat} {av:Value} {fl:List (Int × Int)} {fv:Value} {W:World} (h:AI cs w0 bj av fl fv W):Ad cs W bj:=fun j u hu=>h.row j u (by rw [List.getElem?_append_left (List.getElem?_eq_some_iff.1 hu).1];exact hu)
theorem AI.over {cs:List Value} {w0:World} {bj:Nat} {av:Value} {fl:List (Int × Int)} {fv:Value} {W W':World} (h:AI cs w0 bj av fl fv W) (hb:Ov W W'):AI cs w0 bj av fl fv W':=
 ⟨h.below.trans (hb.mono h.below.size),h.row.over hb,fun j=>((Am hb).2 _ _ h.lo.2).trans (h.fz j),h.own.kept (row:=none) ⟨hb.os,hb.tape,hb.output,hb.size,fun k hk _=>hb.block k hk⟩ (by cases fv.ownBlock <;> simp),h.ap,⟨h.lo.1,Nat.lt_of_lt_of_le h.lo.2 hb.size⟩,h.len⟩
theorem MS {W:World} {B e s n:Nat} {v:Value} {xs:List Value} (h:W.ownsRow B e s v n xs):∀ g,v.ownBlock=some g->B<=g/\g < W.heap.size:=by
 intro g hg
 rcases h.2 with ⟨h,-⟩ | ⟨g',cap,cur,h,hb,hh,-⟩
 ·rw [h] at hg;cases hg
 ·rw [h] at hg
  simp [Value.ownBlock] at hg
  subst hg
  exact ⟨hb,(Array.getElem?_eq_some_iff.1 hh).1⟩
theorem AI.xlt {cs:List Value} {w0:World} {bj:Nat} {av:Value} {fl:List (Int × Int)} {fv:Value} {W:World} (h:AI cs w0 bj av fl fv W):∀ k,XJ bj W k->w0.heap.size<=k/\k < W.heap.size:=by
 rintro k (hk | rfl | ⟨v,hv,ho⟩)
 ·have:=h.lo.2;omega
 ·exact h.lo
 ·rw [h.c11] at hv
  injection hv with hv
  subst hv
  exact MS h.own k ho
theorem AI.add {cs:List Value} {w0:World} {bj:Nat} {av:Value} {fl:List (Int × Int)} {fv v':Value} {W W':World} {a k:Int} (h:AI cs w0 bj av fl fv W) (ho':W'.ownsRow w0.heap.size 89 2 v' (fl.length+1) (BX fl++[U zd a,U zd k])) (hg:W.grownBy W' fv.ownBlock) (hat:v'.ownBlock=fv.ownBlock\/v'.ownBlock=some W.heap.size) :
  AI cs w0 bj av (fl++[(a,k)]) v' (W'.setCell ⟨bj,11,none⟩ v')/\FrW (XJ bj) W (W'.setCell ⟨bj,11,none⟩ v'):=by
 have hbw:W'.heap[bj]? = W.heap[bj]?:=hg.block bj h.lo.2 (fun e=>h.ap e.symm)
 have hrow':Ad (cs++[av,fv]) W' bj:=fun j u hu=>(World.cell?_of_block (a:=⟨bj,j,none⟩) hbw).trans (h.row j u hu)
 have hBl:Below w0.heap.size W W':=DT hg (fun g e=>(MS h.own g e).1) h.below.size
 have hv':v'.ownBlock≠some bj:=by
  rcases hat with e | e
  ·rw [e];exact h.ap
  ·rw [e];intro e;injection e with e;have:=h.lo.2;omega
 have hsz:(W'.setCell ⟨bj,11,none⟩ v').heap.size=W'.heap.size:=by simp [World.setCell]
 have hrow2:Ad (cs++[av,v']) (W'.setCell ⟨bj,11,none⟩ v') bj:=by
  have:=Bv (j:=11) (v:=v') hrow' (by simp [h.len])
  rw [List.set_append,if_neg (by rw [h.len];omega),h.len] at this
  simpa using this
 have hc2:CE (W'.setCell ⟨bj,11,none⟩ v') bj 11 v':=hrow2 11 _ (by rw [List.getElem?_append_right (by rw [h.len];omega),h.len];rfl)
 refine ⟨⟨(h.below.trans hBl).setCell h.lo.1 _,hrow2,fun j=>?_,?_,hv',⟨h.lo.1,?_⟩,h.len⟩,⟨?_,?_,?_,?_,?_,?_⟩⟩
 ·have e1:(W'.setCell ⟨bj,11,none⟩ v').frozen? ⟨bj,j,none⟩=W'.frozen? ⟨bj,j,none⟩:=by simp [go_sem]
  rw [e1,World.frozen?_of_block (a:=⟨bj,j,none⟩) hbw]
  exact h.fz j
 ·rw [I8,List.length_append]
  exact ho'.kept (row:=some bj) JK (Or.inr hv')
 ·rw [hsz];exact Nat.lt_of_lt_of_le h.lo.2 hg.size
 ·exact hg.os
 ·exact hg.tape
 ·exact hg.output
 ·rw [hsz];exact hg.size
 ·intro k hk hx
  have hne:k≠bj:=fun e=>hx (Or.inr (Or.inl e))
  rw [Aq (Ne.symm hne) v']
  exact hg.block k hk (fun e=>hx (Or.inr (Or.inr ⟨fv,h.c11,e.symm⟩)))
 ·rintro k hk (hx | rfl | ⟨v,hv,ho⟩)
  ·rw [hsz] at hx;have:=hg.size;have:=h.lo.2;omega
  ·exact Or.inr (Or.inl rfl)
  ·rw [hc2] at hv
   injection hv with hv
   subst hv
   rcases hat with e | e
   ·exact Or.inr (Or.inr ⟨fv,h.c11,by rw [<-e];exact ho⟩)
   ·rw [e] at ho;injection ho with ho;omega
theorem Fp (cs:List Value) (w0:World) (bj:Nat) (av:Value) (fl) (fv:Value) (a k:Int) (is:Bool) (bx ba:Nat) (W:World) (h:AI cs w0 bj av fl fv W) (hx:W.cell? ⟨bx,0,none⟩=some (zi (some ⟨bj,0,none⟩))) (ha:W.cell? ⟨ba,0,none⟩=some (U zd a)) (nx:¬ XJ bj W bx) (na:¬ XJ bj W ba) (hl:fl.length<=1000) :
  Calls Tryz.prog 149 #[U zd k,zg is,zi (some ⟨bx,0,none⟩),zi (some ⟨ba,0,none⟩)] W fun e W'=>e=zj (zk #[])/\(∃ fv',AI cs w0 bj av (addF a k fl is) fv' W')/\FrW (XJ bj) W W':=by
 cases is with
 | false=>
  go_enter Tryz.func149,Tryz.ntmps149
  go_wp2_with fail
  go_end0
  exact ⟨rfl,⟨fv,h⟩,FrW.refl _⟩
 | true=>
  obtain ⟨i0,hi,hz0,hz1,hz2⟩:=info_parts Tryz.infoFt
  obtain ⟨fa,fn,fc,rfl⟩:=AG h.own
  have hb1:Ov W (W.drew.alloc (ze #[U zd a,U zd k] 89)):=(bD W).alloc (Nat.le_refl _) _
  have hJ1:=h.over hb1
  have hN:=Ad.new [U zd a,U zd k] 89 W.drew
  have hBW:w0.heap.size<=(W.drew.alloc (ze #[U zd a,U zd k] 89)).heap.size:=hJ1.below.size
  obtain ⟨v2,w2,hrun,hown2,hgr2,-,hat⟩:=run_append_own_at (P:=Tryz.prog) (w:=W.drew.alloc (ze #[U zd a,U zd k] 89)) w0.heap.size 79 79 89 i0 (zh #[U zd 0,U zd 0]) 2 16 Tryz.underlying79 hi hz0 hz1 hz2 rfl (by decide) _ _ _ hJ1.own ⟨W.drew.heap.size,0,none⟩ 1 1 [U zd a,U zd k] rfl (fun jj u hu=>by rw [Addr.add_lit,Nat.zero_add];exact hN jj u hu) (by simp [Value.oneCell']) (by unfold maxLen;omega) (by omega) hBW
  obtain ⟨va2,vn2,vc2,rfl⟩:=AG hown2
  have hfin:=hJ1.add hown2 hgr2 hat
  have x11:=h.c11
  have y11:=hJ1.c11
  have z11:=Ab (bA W (ze #[U zd a,U zd k] 89)) _ _ x11
  have d2:=hgr2.cell y11 (fun hx=>hJ1.ap hx.symm)
  have f2:w2.frozen? ⟨bj,11,none⟩=false:=(World.frozen?_of_block (a:=⟨bj,11,none⟩) (hgr2.block bj hJ1.lo.2 (fun hx=>hJ1.ap hx.symm))).trans (hJ1.fz 11)
  have nx1:¬ XJ bj (W.drew.alloc (ze #[U zd a,U zd k] 89)) bx:=fun e=>nx ((Aj bj).below _ _ hb1 _ e)
  have na1:¬ XJ bj (W.drew.alloc (ze #[U zd a,U zd k] 89)) ba:=fun e=>na ((Aj bj).below _ _ hb1 _ e)
  have hS0:CE W.drew bx 0 (zi (some ⟨bj,0,none⟩))/\CE W.drew ba 0 (U zd a):=⟨hx,ha⟩
  have hS1:CE (W.drew.alloc (ze #[U zd a,U zd k] 89)) bx 0 (zi (some ⟨bj,0,none⟩))/\CE (W.drew.alloc (ze #[U zd a,U zd k] 89)) ba 0 (U zd a):=⟨Ab hb1 _ _ hx,Ab hb1 _ _ ha⟩
  have hS2:CE w2 bx 0 (zi (some ⟨bj,0,none⟩))/\CE w2 ba 0 (U zd a):=⟨hgr2.cell hS1.1 (fun e=>nx1 (Or.inr (Or.inr ⟨_,hJ1.c11,e.symm⟩))),hgr2.cell hS1.2 (fun e=>na1 (Or.inr (Or.inr ⟨_,hJ1.c11,e.symm⟩)))⟩
  have hS3:CE (w2.setCell ⟨bj,11,none⟩ (O va2 vn2 vc2)) bx 0 (zi (some ⟨bj,0,none⟩))/\CE (w2.setCell ⟨bj,11,none⟩ (O va2 vn2 vc2)) ba 0 (U zd a):=⟨hfin.2.cell hS1.1 nx1,hfin.2.cell hS1.2 na1⟩
  have HFIN:Hx (AI cs w0 bj av (fl++[(a,k)]) (O va2 vn2 vc2) (w2.setCell ⟨bj,11,none⟩ (O va2 vn2 vc2))/\FrW (XJ bj) W (w2.setCell ⟨bj,11,none⟩ (O va2 vn2 vc2))):=⟨hfin.1,(FrW.of_below (Aj bj) hb1).trans hfin.2⟩
  clear hfin hown2 hgr2 hat hN hBW hJ1 h nx na nx1 na1 hb1 hi hz0 hz1 hz2
  go_enter Tryz.func149,Tryz.ntmps149
  go_wp2_with fail
  refine gS (fun Wz=>CE Wz bx 0 (zi (some ⟨bj,0,none⟩))/\CE Wz ba 0 (U zd a)) (hS0) fun hHeld=>?_
  refine kT 0 ?_
  refine kT 1 ?_
  refine kT 2 ?_
  refine kT 3 ?_
  refine kT 5 ?_
  refine kT 6 ?_
  refine kT 7 ?_
  refine rdB 4 8 rfl (fun K hK=>?_) rfl fun K hK=>?_
  ·go_simp
   refine xK hK (hS0) fun hHeld=>?_
   refine rdA 8 rfl fun K hK=>?_
   go_simp
   refine xK hK (hS1) fun hHeld=>?_
   refine rdA 9 rfl fun K hK=>?_
   refine CS rfl _ _ _ rfl _ _ _ _ rfl rfl hrun ?_
   refine xK hK (hS2) fun hHeld=>?_
   refine rdA 10 rfl fun K hK=>?_
   go_simp
   refine xK hK (hS2) fun hHeld=>?_
   refine rdA 11 rfl fun K hK=>?_
   go_simp
   refine xK hK (hS2) fun hHeld=>?_
   refine rdA 12 rfl fun K hK=>?_
   go_simp
   refine xK hK (hS3) fun hHeld=>?_
   refine gE ?_
   go_end0
   exact ⟨rfl,⟨_,HFIN.o.1⟩,HFIN.o.2⟩
  ·go_simp
   refine xK hK (hS1) fun hHeld=>?_
   refine rdA 4 rfl fun K hK=>?_
   go_simp
   refine xK hK (hS1) fun hHeld=>?_
   refine rdA 9 rfl fun K hK=>?_
   refine CS rfl _ _ _ rfl _ _ _ _ rfl rfl hrun ?_
   refine xK hK (hS2) fun hHeld=>?_
   refine rdA 10 rfl fun K hK=>?_
   go_simp
   refine xK hK (hS2) fun hHeld=>?_
   refine rdA 11 rfl fun K hK=>?_
   go_simp
   refine xK hK (hS2) fun hHeld=>?_
   refine rdA 12 rfl fun K hK=>?_
   go_simp
   refine xK hK (hS3) fun hHeld=>?_
   refine gE ?_
   go_end0
   exact ⟨rfl,⟨_,HFIN.o.1⟩,HFIN.o.2⟩
structure JSt (c:WC) (w0:World) (gs:List (Int × Int)) (Ls Fs:List Lev):Prop where
 n1:1<=c.n
 n6:c.n<=6
 gr:AF w0 (O c.ga c.gn c.gc) gs
 chk:AL c.n gs=0
 levs:BI w0 (O c.la c.ln c.lc) Ls
 lens:∀ x∈Ls,x.len c.n
 flevs:BI w0 (O c.ka c.kn c.kc) Fs
 flens:∀ x∈Fs,x.len c.n
 l16:Ls.length<=16
theorem DB (c:WC) (gs) (v u:Value) (l k) (w:World) (hg:AF w (O c.ga c.gn c.gc) gs) (hE:AL c.n gs=0) (hl:A5 w v l) (hll:l.len c.n) (hk:A5 w u k) (hkl:k.len c.n) :
  Calls Tryz.prog 57 #[c.v,v,u] w fun e w'=>e=zj (zg (AE l k c.n))/\Ov w w':=by
 obtain ⟨x,y,rfl,-⟩:=id hl
 obtain ⟨x',y',rfl,-⟩:=id hk
 exact Nk (c.n:Int) c.ga c.gn c.gc c.sa c.sn c.sc c.ya c.yn c.yc c.oa c.on c.oc c.va c.vn c.vc c.fa c.fn c.fc c.ba c.bn c.bc c.la c.ln c.lc c.ka c.kn c.kc gs x y x' y' l k w hg hl hk (Eg hE hll hkl)
theorem Pl (c:WC) (gs) (v u:Value) (l k) (w:World) (hg:AF w (O c.ga c.gn c.gc) gs) (hE:AL c.n gs=0) (hl:A5 w v l) (hll:l.len c.n) (hk:A5 w u k) (hkl:k.len c.n) :
  Calls Tryz.prog 58 #[c.v,v,u] w fun e w'=>∃ vj,e=zj vj/\AY w w' vj (BE l k c.n)/\Ov w w':=by
 obtain ⟨x,y,rfl,-⟩:=id hl
 obtain ⟨x',y',rfl,-⟩:=id hk
 exact Ku (c.n:Int) c.ga c.gn c.gc c.sa c.sn c.sc c.ya c.yn c.yc c.oa c.on c.oc c.va c.vn c.vc c.fa c.fn c.fc c.ba c.bn c.bc c.la c.ln c.lc c.ka c.kn c.kc gs x y x' y' l k w hg hl hk (Eg hE hll hkl)
theorem Gb (c:WC) (gs) (pr pw:Value) (b:Lab) (w:World) (hg:AF w (O c.ga c.gn c.gc) gs) (hl:AN w pr b.r) (hk:AN w pw b.w) (h2:A3 c.n gs b=0) :
  Calls Tryz.prog 114 #[c.v,zh #[pr,pw]] w fun e w'=>∃ vj,e=zj vj/\AY w w' vj (Av (Ay gs) c.n b)/\Ov w w':=
 JB (c.n:Int) c.ga c.gn c.gc c.sa c.sn c.sc c.ya c.yn c.yc c.oa c.on c.oc c.va c.vn c.vc c.fa c.fn c.fc c.ba c.bn c.bc c.la c.ln c.lc c.ka c.kn c.kc gs pr pw b w hg hl hk h2
theorem EE {w0:World} {ao:Option Addr} {an ac:Nat} {Ls:List Lev} {i:Nat} (h:BI w0 (O ao an ac) Ls) (hi:i < Ls.length):∃ b o a1 a2 a3 a4 a5 a6,ao=some ⟨b,o,none⟩/\an=Ls.length/\w0.cell? ⟨b,o+i*2,none⟩=some (O a1 a2 a3)/\w0.cell? ⟨b,o+i*2+1,none⟩=some (O a4 a5 a6)/\A5 w0 (zh #[O a1 a2 a3,O a4 a5 a6]) Ls[i]:=by
 obtain ⟨ao',cap,hv,hel⟩:=h
 injection hv with e1 e2 e3
 obtain ⟨b,o,hao,hel⟩:=hel (by rintro rfl;simp at hi)
 obtain ⟨rv,wv,c0,c1,hl⟩:=hel i hi
 obtain ⟨a1,a2,a3,a4,a5,a6,rfl,rfl⟩:=AR hl
 exact ⟨b,o,a1,a2,a3,a4,a5,a6,e1.trans hao,e2,c0,c1,hl⟩
abbrev Mo (bj:Nat) (c:WC) (bl ol:Nat) (W:World) (p1:Option Addr) (q1 r1:Nat) (p2:Option Addr) (q2 r2 i:Nat) (a1:Option Addr) (a2 a3:Nat) (a4:Option Addr) (a5 a6:Nat) (Wz:World):Prop:=Wz.cell? ⟨bj,0,none⟩=some (U zd (c.n:Int))/\CE Wz bj 1 (O c.ga c.gn c.gc)/\CE Wz bj 2 (O c.sa c.sn c.sc)/\CE Wz bj 3 (O c.ya c.yn c.yc)/\CE Wz bj 4 (O c.oa c.on c.oc)/\CE Wz bj 5 (O c.va c.vn c.vc)/\CE Wz bj 6 (O c.fa c.fn c.fc)/\CE Wz bj 7 (O c.ba c.bn c.bc)/\CE Wz bj 8 (O (some ⟨bl,ol,none⟩) c.ln c.lc)/\CE Wz bj 9 (O c.ka c.kn c.kc)/\CE Wz W.heap.size 0 (O p1 q1 r1)/\CE Wz W.heap.size 1 (O p2 q2 r2)/\CE Wz bl (ol+i*2) (O a1 a2 a3)/\CE Wz bl (ol+i*2+1) (O a4 a5 a6)
theorem ES (c) (w0:World) (bj:Nat) (av:Value) (fl) (fv:Value) (gs Ls Fs) (J:JSt c w0 gs Ls Fs) (v:Value) (l) (i:Nat) (W:World) (h:AI c.cs w0 bj av fl fv W) (hl:A5 W v l) (hll:l.len c.n) (hi:i < Ls.length) :
  Calls Tryz.prog 150 #[zi (some ⟨bj,0,none⟩),v,U zd (i:Int)] W fun e W'=>e=zj (zg (AE l Ls[i] c.n))/\Ov W W':=by
 obtain ⟨bl,ol,a1,a2,a3,a4,a5,a6,hla,hln,k0,k1,hk⟩:=EE J.levs hi
 obtain ⟨p1,q1,r1,p2,q2,r2,rfl⟩:∃ p1 q1 r1 p2 q2 r2,v=zh #[O p1 q1 r1,O p2 q2 r2]:=by
  obtain ⟨x,y,rfl,-⟩:=id hl
  obtain ⟨p1,q1,r1,p2,q2,r2,rfl,rfl⟩:=AR hl
  exact ⟨_,_,_,_,_,_,rfl⟩
 have hb1:Ov W (W.alloc (ze #[O p1 q1 r1,O p2 q2 r2] 50)):=bA W _
 have hJ1:=h.over hb1
 have rowB:=Ad.new [O p1 q1 r1,O p2 q2 r2] 50 W
 have hB1:=hJ1.below
 have hcv:c.v=zh #[U zd (c.n:Int),O c.ga c.gn c.gc,O c.sa c.sn c.sc,O c.ya c.yn c.yc,O c.oa c.on c.oc,O c.va c.vn c.vc,O c.fa c.fn c.fc,O c.ba c.bn c.bc,O (some ⟨bl,ol,none⟩) c.ln c.lc,O c.ka c.kn c.kc]:=by show Value.agg #[U zd (c.n:Int),O c.ga c.gn c.gc,O c.sa c.sn c.sc,O c.ya c.yn c.yc,O c.oa c.on c.oc,O c.va c.vn c.vc,O c.fa c.fn c.fc,O c.ba c.bn c.bc,O c.la c.ln c.lc,O c.ka c.kn c.kc]=_;rw [hla]
 have KF:Hx (∀ (W2:World),Ov (W.alloc (ze #[O p1 q1 r1,O p2 q2 r2] 50)) W2->Calls Tryz.prog 57 #[zh #[U zd (c.n:Int),O c.ga c.gn c.gc,O c.sa c.sn c.sc,O c.ya c.yn c.yc,O c.oa c.on c.oc,O c.va c.vn c.vc,O c.fa c.fn c.fc,O c.ba c.bn c.bc,O (some ⟨bl,ol,none⟩) c.ln c.lc,O c.ka c.kn c.kc],zh #[O p1 q1 r1,O p2 q2 r2],zh #[O a1 a2 a3,O a4 a5 a6]] W2 fun e w'=>e=zj (zg (AE l Ls[i] c.n))/\Ov W2 w'):=fun W2 hb2=>by
  have:=DB c gs _ _ l Ls[i] W2 (Af J.gr (hB1.trans (hb2.mono hB1.size))) J.chk (AJ (AJ hl hb1) hb2) hll (AJ hk (hB1.trans (hb2.mono hB1.size))) (J.lens _ (List.getElem_mem hi))
  rw [hcv] at this
  exact this
 have hS0:Mo bj c bl ol W p1 q1 r1 p2 q2 r2 i a1 a2 a3 a4 a5 a6 (W.alloc (ze #[O p1 q1 r1,O p2 q2 r2] 50)):=⟨hJ1.cw 0 _ rfl,hJ1.cw 1 _ rfl,hJ1.cw 2 _ rfl,hJ1.cw 3 _ rfl,hJ1.cw 4 _ rfl,hJ1.cw 5 _ rfl,hJ1.cw 6 _ rfl,hJ1.cw 7 _ rfl,by rw [<-hla];exact hJ1.cw 8 _ rfl,hJ1.cw 9 _ rfl,rowB 0 _ rfl,rowB 1 _ rfl,Ab hB1 _ _ k0,Ab hB1 _ _ k1⟩
 have HS:Hx (∀ W2,Ov (W.alloc (ze #[O p1 q1 r1,O p2 q2 r2] 50)) W2->Mo bj c bl ol W p1 q1 r1 p2 q2 r2 i a1 a2 a3 a4 a5 a6 W2):=fun W2 hb2=>by
  obtain ⟨s0,s1,s2,s3,s4,s5,s6,s7,s8,s9,s10,s11,s12,s13⟩:=hS0
  exact ⟨Ab hb2 _ _ s0,Ab hb2 _ _ s1,Ab hb2 _ _ s2,Ab hb2 _ _ s3,Ab hb2 _ _ s4,Ab hb2 _ _ s5,Ab hb2 _ _ s6,Ab hb2 _ _ s7,Ab hb2 _ _ s8,Ab hb2 _ _ s9,Ab hb2 _ _ s10,Ab hb2 _ _ s11,Ab hb2 _ _ s12,Ab hb2 _ _ s13⟩
 have hi1:(i:Int) < (c.ln:Int):=by rw [hln];omega
 have hi2:c.ln<=16:=by rw [hln];exact J.l16
 obtain ⟨t0,t1,t2,t3,t4,t5,t6,t7,t8,t9,t10,t11,t12,t13⟩:=id hS0
 generalize hfb:AE l Ls[i] c.n=fb at KF ⊢
 clear J h hJ1 hl hll rowB hB1 hk k0 k1 hfb hcv hla hln
 go_enter Tryz.func150,Tryz.ntmps150
 go_wp2_with fail
 refine gS (Mo bj c bl ol W p1 q1 r1 p2 q2 r2 i a1 a2 a3 a4 a5 a6) (hS0) fun hHeld=>?_
 refine kT 0 ?_
 refine kT 1 ?_
 refine kT 2 ?_
 refine kT 3 ?_
 refine kT 4 ?_
 refine kT 5 ?_
 refine kT 6 ?_
 refine kT 7 ?_
 refine kT 8 ?_
 refine kT 9 ?_
 refine kT 10 ?_
 refine kT 11 ?_
 refine kT 12 ?_
 refine kT 13 ?_
 refine rdA 14 rfl fun K hK=>?_
 go_simp
 refine (KF.o _ (bD _)).mono ?_
 rintro e W2 ⟨rfl,hb2⟩
 have hS2:=HS.o W2 (Ac (bD _) hb2)
 go_simp
 refine xK hK (hS2) fun hHeld=>?_
 refine rdA 15 rfl fun K hK=>?_
 go_simp
 refine xK hK (hS2) fun hHeld=>?_
 refine gE ?_
 go_wp2_with fail
 go_ret
 exact ⟨rfl,Ac hb1 (Ac (bD _) hb2)⟩
section
variable {α:Type}
def FI (p:α->Bool) (l:List α):Int:=match l.findIdx? p with | some i=>i | none=>-1
theorem Ig {p:α->Bool} {l:List α} {k:Nat} (hk:k < l.length) (h:(l.take k).all (fun g=>!p g)=true) (hp:p l[k]=true):FI p l=k:=by
 have:l.findIdx? p=some k:=by
  rw [List.findIdx?_eq_some_iff_getElem]
  refine ⟨hk,hp,fun j hj=>?_⟩
  have:=List.all_eq_true.1 h l[j] (List.mem_take_iff_getElem.2 ⟨j,by omega,rfl⟩)
  simpa using this
 simp [FI,this]
theorem Fi {p:α->Bool} {l:List α} (h:l.all (fun g=>!p g)=true):FI p l=-1:=by
 have:l.findIdx? p=none:=by
  rw [List.findIdx?_eq_none_iff]
  intro x hx
  have:=List.all_eq_true.1 h x hx
  simpa using this
 simp [FI,this]
theorem Gl (p:α->Bool) (l:List α):decide (0<=FI p l)=l.any p:=by
 unfold FI
 cases h:l.findIdx? p with
 | none=>
  have:l.any p=false:=by rw [List.any_eq_false];intro x hx;have:=(List.findIdx?_eq_none_iff.1 h) x hx;simpa using this
  rw [this];rfl
 | some i=>
  obtain ⟨hi,hp,_⟩:=List.findIdx?_eq_some_iff_getElem.1 h
  have:l.any p=true:=List.any_eq_true.2 ⟨_,List.getElem_mem hi,hp⟩
  rw [this];simp
end
theorem N2 (F:FuncId) (cap:List Value) (p:Int->Bool) (v:Value) (l) (w:World) (hv:AQ w v l) (hn:l.length<=6)
  (hF:Hx (∀ (i:Nat) (h:i < l.length) (w1:World),Ov w w1->Calls Tryz.prog F (U zd l[i]::cap).toArray w1 fun e w2=>e=zj (zg (p l[i]))/\Ov w1 w2))
  (hC:∀ (args:Array Value) (w:World),(callFunc F args).run Tryz.prog w=.ok (.enter F args) w) :
  Calls Tryz.prog 190 #[v,.func (.func F) #[] cap.toArray] w fun e w'=>e=zj (U zd (FI p l))/\Ov w w':=by
 obtain ⟨ao,cp,rfl,hcc⟩:=hv
 go_enter Tryz.func190,Tryz.ntmps190
 go_wp2_with fail
 go_loopw [8] (fun i wr=>∃ k:Nat,k<=l.length/\i=U zd k/\(l.take k).all (fun g=>!p g)=true/\Ov w wr) (fun i _=>l.length - (intOf i).toNat)
 case atStart=>exact ⟨0,Nat.zero_le _,rfl,rfl,Below.refl _ w⟩
 case round=>
  obtain ⟨k,hk,rfl,hall,hbel⟩:=hrel
  by_cases hkl:k < l.length
  ·obtain ⟨b,off,rfl,hcl⟩:=hcc (by rintro rfl;simp at hkl)
   have q0:=hcl k hkl
   have hlt:=bL q0
   rw [<-(Am hbel).1 _ _ hlt] at q0
   have hcall:=hF.o k hkl
   have hat:=fun (hp:p l[k]=true)=>Ig hkl hall hp
   have htk:p l[k]=false->(l.take (k+1)).all (fun g=>!p g)=true:=fun hp=>by
    rw [List.take_succ_eq_append_getElem hkl,List.all_append,hall]
    simp [hp]
   obtain ⟨r,hr⟩:=nm (p l[k])
   rw [<-hr] at hcall hat htk
   obtain ⟨g0,hg0⟩:=nm (l[k])
   rw [<-hg0] at q0 hcall
   clear hg0
   have HC:=Aa hcall
   have HA:=Aa hat
   have HT:=Aa htk
   clear hr hcall hat htk hcl hcc hF
   cases r with
   | true=>
    go_wp2_with fail
    refine (HC.o _ hbel).mono ?_
    rintro e w2 ⟨rfl,hb2⟩
    have hbel2:Ov w w2:=hbel.trans (hb2.mono hbel.size)
    go_wp2_with fail
    go_ret
    exact ⟨by rw [HA.o (by first | rfl | trivial)];rfl,hbel2⟩
   | false=>
    go_wp2_with fail
    refine (HC.o _ hbel).mono ?_
    rintro e w2 ⟨rfl,hb2⟩
    have hbel2:Ov w w2:=hbel.trans (hb2.mono hbel.size)
    go_wp2_with fail
    exact ⟨⟨k+1,by omega,by go_num,HT.o (by first | rfl | trivial),hbel2⟩,by simp [intOf];omega⟩
  ·have hke:k=l.length:=by omega
   rw [hke,List.take_length] at hall
   have hx:=Fi hall
   clear hall hcc hF
   go_wp2_with fail
   go_ret
   exact ⟨by rw [hx];rfl,hbel⟩
theorem Gw (F:FuncId) (cap:List Value) (p:Int->Bool) (v:Value) (l) (w:World) (hv:AQ w v l) (hn:l.length<=6)
  (hF:Hx (∀ (i:Nat) (h:i < l.length) (w1:World),Ov w w1->Calls Tryz.prog F (U zd l[i]::cap).toArray w1 fun e w2=>e=zj (zg (p l[i]))/\Ov w1 w2))
  (hC:∀ (args:Array Value) (w:World),(callFunc F args).run Tryz.prog w=.ok (.enter F args) w) :
  Calls Tryz.prog 124 #[v,.func (.func F) #[] cap.toArray] w fun e w'=>e=zj (zg (l.any p))/\Ov w w':=by
 have hI:=N2 F cap p v l w hv hn hF hC
 have hx:=Gl p l
 obtain ⟨r,hr⟩:=nm (FI p l)
 rw [<-hr] at hI hx
 rw [<-hx]
 have HI:=Aa hI
 clear hI hx hr hv hC hF
 go_enter Tryz.func124,Tryz.ntmps124
 go_wp2_with fail
 refine (HI.o).mono ?_
 rintro e w1 ⟨rfl,hb1⟩
 go_wp2_with fail
 go_ret
 exact ⟨by simp,hb1⟩
theorem N0 (F:FuncId) (cap:List Value) (p:Pol->Bool) (v:Value) (l:List Pol) (w:World) (hv:AN w v l) (hn:l.length<=6)
  (hF:Hx (∀ (i:Nat) (h:i < l.length) (w1:World),Ov w w1->∀ nv,AQ w1 nv l[i].names->Calls Tryz.prog F (zh #[U zd l[i].owner,nv]::cap).toArray w1 fun e w2=>e=zj (zg (p l[i]))/\Ov w1 w2))
  (hC:∀ (args:Array Value) (w:World),(callFunc F args).run Tryz.prog w=.ok (.enter F args) w) :
  Calls Tryz.prog 247 #[v,.func (.func F) #[] cap.toArray] w fun e w'=>e=zj (U zd (FI p l))/\Ov w w':=by
 obtain ⟨ao,cp,rfl,hcc⟩:=hv
 go_enter Tryz.func247,Tryz.ntmps247
 go_wp2_with fail
 go_loopw [8] (fun i wr=>∃ k:Nat,k<=l.length/\i=U zd k/\(l.take k).all (fun g=>!p g)=true/\Ov w wr) (fun i _=>l.length - (intOf i).toNat)
 case atStart=>exact ⟨0,Nat.zero_le _,rfl,rfl,Below.refl _ w⟩
 case round=>
  obtain ⟨k,hk,rfl,hall,hbel⟩:=hrel
  by_cases hkl:k < l.length
  ·obtain ⟨b,off,rfl,hcl⟩:=hcc (by rintro rfl;simp at hkl)
   obtain ⟨q0,nv,q1,hnv⟩:=hcl k hkl
   obtain ⟨q0,q1⟩:=co2 hbel q0 q1
   obtain ⟨n1,n2,hnf,-⟩:=id hnv
   subst hnf
   have hcall:=fun (w1:World) (hb:Ov w w1)=>hF.o k hkl w1 hb _ (BF hnv hb)
   have hat:=fun (hp:p l[k]=true)=>Ig hkl hall hp
   have htk:p l[k]=false->(l.take (k+1)).all (fun g=>!p g)=true:=fun hp=>by
    rw [List.take_succ_eq_append_getElem hkl,List.all_append,hall]
    simp [hp]
   obtain ⟨r,hr⟩:=nm (p l[k])
   rw [<-hr] at hcall hat htk
   obtain ⟨g0,hg0⟩:=nm (l[k].owner)
   rw [<-hg0] at q0 hcall
   clear hg0
   have HC:=Aa hcall
   have HA:=Aa hat
   have HT:=Aa htk
   clear hr hcall hat htk hcl hcc hF
   cases r with
   | true=>
    go_wp2_with fail
    refine (HC.o _ hbel).mono ?_
    rintro e w2 ⟨rfl,hb2⟩
    have hbel2:Ov w w2:=hbel.trans (hb2.mono hbel.size)
    go_wp2_with fail
    go_ret
    exact ⟨by rw [HA.o (by first | rfl | trivial)];rfl,hbel2⟩
   | false=>
    go_wp2_with fail
    refine (HC.o _ hbel).mono ?_
    rintro e w2 ⟨rfl,hb2⟩
    have hbel2:Ov w w2:=hbel.trans (hb2.mono hbel.size)
    go_wp2_with fail
    exact ⟨⟨k+1,by omega,by go_num,HT.o (by first | rfl | trivial),hbel2⟩,by simp [intOf];omega⟩
  ·have hke:k=l.length:=by omega
   rw [hke,List.take_length] at hall
   have hx:=Fi hall
   clear hall hcc hF
   go_wp2_with fail
   go_ret
   exact ⟨by rw [hx];rfl,hbel⟩
theorem JT (F:FuncId) (cap:List Value) (p:Pol->Bool) (v:Value) (l:List Pol) (w:World) (hv:AN w v l) (hn:l.length<=6)
  (hF:Hx (∀ (i:Nat) (h:i < l.length) (w1:World),Ov w w1->∀ nv,AQ w1 nv l[i].names->Calls Tryz.prog F (zh #[U zd l[i].owner,nv]::cap).toArray w1 fun e w2=>e=zj (zg (p l[i]))/\Ov w1 w2))
  (hC:∀ (args:Array Value) (w:World),(callFunc F args).run Tryz.prog w=.ok (.enter F args) w) :
  Calls Tryz.prog 235 #[v,.func (.func F) #[] cap.toArray] w fun e w'=>e=zj (zg (l.any p))/\Ov w w':=by
 have hI:=N0 F cap p v l w hv hn hF hC
 have hx:=Gl p l
 obtain ⟨r,hr⟩:=nm (FI p l)
 rw [<-hr] at hI hx
 rw [<-hx]
 have HI:=Aa hI
 clear hI hx hr hv hC hF
 go_enter Tryz.func235,Tryz.ntmps235
 go_wp2_with fail
 refine (HI.o).mono ?_
 rintro e w1 ⟨rfl,hb1⟩
 go_wp2_with fail
 go_ret
 exact ⟨by simp,hb1⟩
def DI (gn:List (Nat × Nat)) (n i j:Nat):Bool:=(acts gn n i)[j]?.getD false
structure JAc (c:WC) (w0:World) (av:Value) (gn:List (Nat × Nat)) (sp:List Int):Prop where
 acts:∃ ob,av=O (some ⟨ob,0,none⟩) c.n c.n/\CF w0 ob c.n gn c.n
 speak:AQ w0 (O c.sa c.sn c.sc) sp
 s6:sp.length<=6
 sIn:∀ x∈sp,0<=x/\x < (c.n:Int)
abbrev O9 (bx bj bw who ob:Nat) (c:WC) (kb other:Nat) (r:Bool) (Wz:World):Prop:=Wz.cell? ⟨bx,0,none⟩=some (zi (some ⟨bj,0,none⟩))/\CE Wz bw 0 (U zd (who:Int))/\CE Wz bj 10 (O (some ⟨ob,0,none⟩) c.n c.n)/\CE Wz ob who (O (some ⟨kb,0,none⟩) c.n c.n)/\CE Wz kb other (zg r)
theorem Rz (c) (w0:World) (bj:Nat) (av:Value) (fl) (fv:Value) (gn:List (Nat × Nat)) (sp) (A:JAc c w0 av gn sp) (bx bw who other:Nat) (W:World) (h:AI c.cs w0 bj av fl fv W) (n6:c.n<=6) (hx:W.cell? ⟨bx,0,none⟩=some (zi (some ⟨bj,0,none⟩))) (hw:W.cell? ⟨bw,0,none⟩=some (U zd (who:Int))) (h1:who < c.n) (h2:other < c.n) :
  Calls Tryz.prog 238 #[U zd (other:Int),zi (some ⟨bx,0,none⟩),zi (some ⟨bw,0,none⟩)] W fun e W'=>e=zj (zg (DI gn c.n who other))/\Ov W W':=by
 obtain ⟨ob,rfl,hR⟩:=A.acts
 obtain ⟨kb,-,k0,hK⟩:=hR who h1
 have k1:=(hK other (by rw [BG];exact h2)).1
 have hr:(acts gn c.n who)[other]'(by rw [BG];exact h2)=DI gn c.n who other:=by unfold DI;rw [List.getElem?_eq_getElem (by rw [BG];exact h2)];rfl
 rw [hr] at k1
 generalize DI gn c.n who other=r at k1 ⊢
 have hS0:O9 bx bj bw who ob c kb other r W:=⟨hx,hw,h.c10,Ab h.below _ _ k0,Ab h.below _ _ k1⟩
 obtain ⟨s0,s1,s2,s3,s4⟩:=id hS0
 have g1:(who:Int) < (c.n:Int):=by omega
 have g2:(other:Int) < (c.n:Int):=by omega
 clear h A hR hK k0 k1 hr hx hw
 go_enter Tryz.func238,Tryz.ntmps238
 go_wp2_with fail
 refine gS (O9 bx bj bw who ob c kb other r) (hS0) fun hHeld=>?_
 refine kT 0 ?_
 refine kT 1 ?_
 refine kT 2 ?_
 refine kT 3 ?_
 refine kT 4 ?_
 refine kT 5 ?_
 refine kT 6 ?_
 refine kT 7 ?_
 refine kT 8 ?_
 refine kT 9 ?_
 refine kT 10 ?_
 refine gE ?_
 go_wp2_with fail
 go_ret
 exact ⟨rfl,(bD _)⟩
theorem LQ (args:Array Value) (w:World):(callFunc 238 args).run Tryz.prog w=.ok (.enter 238 args) w:=by simp [go_sem]
abbrev O8 (bx bj bw other ob:Nat) (c:WC) (who kb:Nat) (r:Bool) (Wz:World):Prop:=Wz.cell? ⟨bx,0,none⟩=some (zi (some ⟨bj,0,none⟩))/\CE Wz bw 0 (U zd (other:Int))/\CE Wz bj 10 (O (some ⟨ob,0,none⟩) c.n c.n)/\CE Wz ob who (O (some ⟨kb,0,none⟩) c.n c.n)/\CE Wz kb other (zg r)
theorem Qe (c) (w0:World) (bj:Nat) (av:Value) (fl) (fv:Value) (gn:List (Nat × Nat)) (sp) (A:JAc c w0 av gn sp) (bx bw who other:Nat) (W:World) (h:AI c.cs w0 bj av fl fv W) (n6:c.n<=6) (hx:W.cell? ⟨bx,0,none⟩=some (zi (some ⟨bj,0,none⟩))) (hw:W.cell? ⟨bw,0,none⟩=some (U zd (other:Int))) (h1:who < c.n) (h2:other < c.n) :
  Calls Tryz.prog 237 #[U zd (who:Int),zi (some ⟨bx,0,none⟩),zi (some ⟨bw,0,none⟩)] W fun e W'=>e=zj (zg (DI gn c.n who other))/\Ov W W':=by
 obtain ⟨ob,rfl,hR⟩:=A.acts
 obtain ⟨kb,-,k0,hK⟩:=hR who h1
 have k1:=(hK other (by rw [BG];exact h2)).1
 have hr:(acts gn c.n who)[other]'(by rw [BG];exact h2)=DI gn c.n who other:=by unfold DI;rw [List.getElem?_eq_getElem (by rw [BG];exact h2)];rfl
 rw [hr] at k1
 generalize DI gn c.n who other=r at k1 ⊢
 have hS0:O8 bx bj bw other ob c who kb r W:=⟨hx,hw,h.c10,Ab h.below _ _ k0,Ab h.below _ _ k1⟩
 obtain ⟨s0,s1,s2,s3,s4⟩:=id hS0
 have g1:(who:Int) < (c.n:Int):=by omega
 have g2:(other:Int) < (c.n:Int):=by omega
 clear h A hR hK k0 k1 hr hx hw
 go_enter Tryz.func237,Tryz.ntmps237
 go_wp2_with fail
 refine gS (O8 bx bj bw other ob c who kb r) (hS0) fun hHeld=>?_
 refine kT 0 ?_
 refine kT 1 ?_
 refine kT 2 ?_
 refine kT 3 ?_
 refine kT 4 ?_
 refine kT 5 ?_
 refine kT 6 ?_
 refine kT 7 ?_
 refine kT 8 ?_
 refine kT 9 ?_
 refine kT 10 ?_
 refine kT 11 ?_
 refine gE ?_
 go_wp2_with fail
 go_ret
 exact ⟨rfl,(bD _)⟩
theorem Je (args:Array Value) (w:World):(callFunc 237 args).run Tryz.prog w=.ok (.enter 237 args) w:=by simp [go_sem]
def I9 (gn:List (Nat × Nat)) (n:Nat) (sp:List Int) (who:Nat):Bool:=sp.any fun x=>DI gn n who x.toNat
def EU (gn:List (Nat × Nat)) (n:Nat) (sp:List Int) (o:Nat):Bool:=!(sp.any fun x=>DI gn n x.toNat o)
theorem Qr (c) (w0:World) (bj:Nat) (av:Value) (fl) (fv:Value) (gn:List (Nat × Nat)) (sp) (A:JAc c w0 av gn sp) (who:Nat) (W:World) (h:AI c.cs w0 bj av fl fv W) (n6:c.n<=6) (h1:who < c.n) :
  Calls Tryz.prog 206 #[zi (some ⟨bj,0,none⟩),U zd (who:Int)] W fun e W'=>e=zj (zg (I9 gn c.n sp who))/\Ov W W':=by
 have hb:Ov W ((W.alloc (ze #[zi (some ⟨bj,0,none⟩)] 161)).alloc (ze #[U zd (who:Int)] 3)):=(bA W _).alloc (by simp) _
 have hJ:=h.over hb
 have e0:=E6 W [zi (some ⟨bj,0,none⟩)] 161 (ze #[U zd (who:Int)] 3) 0 _ rfl
 have e1:=FM W (ze #[zi (some ⟨bj,0,none⟩)] 161) [U zd (who:Int)] 3 0 _ rfl
 have t2:=hJ.cw 2 _ rfl
 have K:=Aa (Gw 238 [zi (some ⟨W.heap.size,0,none⟩),zi (some ⟨W.heap.size+1,0,none⟩)] (fun x=>DI gn c.n who x.toNat) (O c.sa c.sn c.sc) sp _ (BF A.speak hJ.below) A.s6
  (Aa fun i hi w1 hb1=>by
   obtain ⟨x0,x1⟩:=A.sIn _ (List.getElem_mem hi)
   have:=Rz c w0 bj av fl fv gn sp A W.heap.size (W.heap.size+1) who (sp[i].toNat) w1 (hJ.over hb1) n6 (Ab hb1 _ _ e0) (Ab hb1 _ _ e1) h1 (by omega)
   rwa [Int.toNat_of_nonneg x0] at this) LQ)
 have hfs:(sp.any fun x=>DI gn c.n who x.toNat)=I9 gn c.n sp who:=rfl
 rw [hfs] at K
 clear hJ h A hfs
 go_enter Tryz.func206,Tryz.ntmps206
 go_wp2_with fail
 refine (K.o).mono ?_
 rintro e w1 ⟨rfl,hb1⟩
 go_wp2_with fail
 go_ret
 exact ⟨rfl,Ac hb hb1⟩
theorem Q4 (c) (w0:World) (bj:Nat) (av:Value) (fl) (fv:Value) (gn:List (Nat × Nat)) (sp) (A:JAc c w0 av gn sp) (bx:Nat) (o:Nat) (na nn nc) (W:World) (h:AI c.cs w0 bj av fl fv W) (n6:c.n<=6) (hx:W.cell? ⟨bx,0,none⟩=some (zi (some ⟨bj,0,none⟩))) (h1:o < c.n) :
  Calls Tryz.prog 236 #[zh #[U zd (o:Int),O na nn nc],zi (some ⟨bx,0,none⟩)] W fun e W'=>e=zj (zg (EU gn c.n sp o))/\Ov W W':=by
 have hb:Ov W (W.alloc (ze #[U zd (o:Int),O na nn nc] 87)):=bA W _
 have hJ:=h.over hb
 have e0:=Ab hb _ _ hx
 have e1:=BC W [U zd (o:Int),O na nn nc] 87 0 _ rfl
 have t2:=hJ.cw 2 _ rfl
 have K:=Aa (Gw 237 [zi (some ⟨bx,0,none⟩),zi (some ⟨W.heap.size,0,none⟩)] (fun x=>DI gn c.n x.toNat o) (O c.sa c.sn c.sc) sp _ (BF A.speak hJ.below) A.s6
  (Aa fun i hi w1 hb1=>by
   obtain ⟨x0,x1⟩:=A.sIn _ (List.getElem_mem hi)
   have:=Qe c w0 bj av fl fv gn sp A bx W.heap.size (sp[i].toNat) o w1 (hJ.over hb1) n6 (Ab hb1 _ _ e0) (Ab hb1 _ _ e1) (by omega) h1
   rwa [Int.toNat_of_nonneg x0] at this) Je)
 have hfs:(!(sp.any fun x=>DI gn c.n x.toNat o))=EU gn c.n sp o:=rfl
 rw [<-hfs]
 generalize (sp.any fun x=>DI gn c.n x.toNat o)=r at K ⊢
 clear hJ h A hfs hx
 go_enter Tryz.func236,Tryz.ntmps236
 go_wp2_with fail
 refine (K.o).mono ?_
 rintro e w1 ⟨rfl,hb1⟩
 go_wp2_with fail
 go_ret
 exact ⟨rfl,Ac hb hb1⟩
theorem J2 (args:Array Value) (w:World):(callFunc 236 args).run Tryz.prog w=.ok (.enter 236 args) w:=by simp [go_sem]
theorem Pg (c) (w0:World) (bj:Nat) (av:Value) (fl) (fv:Value) (gn:List (Nat × Nat)) (sp) (A:JAc c w0 av gn sp) (v:Value) (ps:List Pol) (W:World) (h:AI c.cs w0 bj av fl fv W) (n6:c.n<=6) (hp:AN W v ps) (hp6:ps.length<=6) (hin:∀ q∈ps,0<=q.owner/\q.owner < (c.n:Int)) :
  Calls Tryz.prog 202 #[zi (some ⟨bj,0,none⟩),v] W fun e W'=>e=zj (zg (ps.any fun q=>EU gn c.n sp q.owner.toNat))/\Ov W W':=by
 have hb:Ov W (W.alloc (ze #[zi (some ⟨bj,0,none⟩)] 161)):=bA W _
 have hJ:=h.over hb
 have e0:=BC W [zi (some ⟨bj,0,none⟩)] 161 0 _ rfl
 have K:=Aa (JT 236 [zi (some ⟨W.heap.size,0,none⟩)] (fun q=>EU gn c.n sp q.owner.toNat) v ps _ (Ak hp hb) hp6
  (Aa fun i hi w1 hb1 nv hnv=>by
   obtain ⟨x0,x1⟩:=hin _ (List.getElem_mem hi)
   obtain ⟨n1,n2,rfl,-⟩:=hnv
   have:=Q4 c w0 bj av fl fv gn sp A W.heap.size (ps[i].owner.toNat) n1 ps[i].names.length n2 w1 (hJ.over hb1) n6 (Ab hb1 _ _ e0) (by omega)
   rwa [Int.toNat_of_nonneg x0] at this) J2)
 obtain ⟨pa,pn,pc,rfl⟩:∃ a n c,v=O a n c:=by obtain ⟨a,c,e,-⟩:=hp;exact ⟨_,_,_,e⟩
 generalize (ps.any fun q=>EU gn c.n sp q.owner.toNat)=r at K ⊢
 clear hJ h A hp hin
 go_enter Tryz.func202,Tryz.ntmps202
 go_wp2_with fail
 refine (K.o).mono ?_
 rintro e w1 ⟨rfl,hb1⟩
 go_wp2_with fail
 go_ret
 exact ⟨rfl,Ac hb hb1⟩
theorem Fb (c:WC) (w0:World) (bj:Nat) (av:Value) (fl) (fv:Value) (F:FuncId) (cap:List Value) (p:Nat->Bool) (W:World) (h:AI c.cs w0 bj av fl fv W) (n6:c.n<=6)
  (hF:Hx (∀ (i:Nat),i < c.n->∀ (w1:World),Ov W w1->Calls Tryz.prog F (U zd (i:Int)::cap).toArray w1 fun e w2=>e=zj (zg (p i))/\Ov w1 w2))
  (hC:∀ (args:Array Value) (w:World),(callFunc F args).run Tryz.prog w=.ok (.enter F args) w) :
  Calls Tryz.prog 203 #[zi (some ⟨bj,0,none⟩),.func (.func F) #[] cap.toArray] W fun e W'=>e=zj (zg ((List.range c.n).any p))/\Ov W W':=by
 have t0:=h.cw 0 _ rfl
 clear h
 go_enter Tryz.func203,Tryz.ntmps203
 go_wp2_with fail
 go_loopw [13] (fun i wr=>∃ k:Nat,k<=c.n/\i=U zd k/\(∀ j,j < k->p j=false)/\Ov W wr) (fun i _=>c.n - (intOf i).toNat)
 case atStart=>exact ⟨0,Nat.zero_le _,rfl,fun j hj=>absurd hj (by omega),Below.refl _ W⟩
 case round=>
  obtain ⟨k,hk,rfl,hall,hbel⟩:=hrel
  by_cases hkl:k < c.n
  ·have hcall:=hF.o k hkl
   have hat:p k=true->(List.range c.n).any p=true:=fun hp=>List.any_eq_true.2 ⟨k,List.mem_range.2 hkl,hp⟩
   have htk:p k=false->∀ j,j < k+1->p j=false:=fun hp j hj=>by
    by_cases hjk:j=k
    ·rw [hjk];exact hp
    ·exact hall j (by omega)
   generalize p k=r at hcall hat htk
   have HC:=Aa hcall
   have HA:=Aa hat
   have HT:=Aa htk
   clear hcall hat htk hF hall
   have hk2:(k:Int) < (c.n:Int):=by omega
   cases r with
   | true=>
    go_wp2_with fail
    refine (HC.o _ hbel).mono ?_
    rintro e w2 ⟨rfl,hb2⟩
    have hbel2:Ov W w2:=hbel.trans (hb2.mono hbel.size)
    go_wp2_with fail
    go_ret
    exact ⟨by rw [HA.o (by first | rfl | trivial)];rfl,hbel2⟩
   | false=>
    go_wp2_with fail
    refine (HC.o _ hbel).mono ?_
    rintro e w2 ⟨rfl,hb2⟩
    have hbel2:Ov W w2:=hbel.trans (hb2.mono hbel.size)
    go_wp2_with fail
    exact ⟨⟨k+1,by omega,by go_num,HT.o (by first | rfl | trivial),hbel2⟩,by simp [intOf];omega⟩
  ·have hx:(List.range c.n).any p=false:=by
    rw [List.any_eq_false]
    intro j hj
    rw [hall j (by have:=List.mem_range.1 hj;omega)]
    simp
   clear hall hF
   go_wp2_with fail
   go_ret
   exact ⟨by rw [hx];rfl,hbel⟩
section
variable {c:WC} {w0 W W':World} {bj:Nat} {av:Value} {fl:List (Int × Int)} {fv:Value} {gs:List (Int × Int)} {Ls Fs:List Lev}
theorem AI.xold (h:AI c.cs w0 bj av fl fv W) {k:Nat} (hk:k < w0.heap.size):¬ XJ bj W k:=fun e=>by have:=(h.xlt k e).1;omega
theorem Gd {n:Nat} (h1:1<=n) (h:AI c.cs w0 bj av fl fv W) {v:Value} {l:Lev} (hl:A5 w0 v l) (hll:l.len n):Ar n (XJ bj) W v l:=by
 have lt:∀ (v:Value) (l:List Bool),AH w0 v l->l.length=n->∀ a m c,v=O (some a) m c->a.block < w0.heap.size:=by
  intro v l hb hl a m c e
  obtain ⟨ao,cap,hv,hel⟩:=hb
  obtain ⟨b,off,hao,hel⟩:=hel (by rintro rfl;simp at hl;omega)
  rw [hv,hao] at e
  injection e with e1
  injection e1 with e1
  rw [<-e1]
  exact bL (hel 0 (by omega))
 obtain ⟨x,y,hv,bx,by'⟩:=id hl
 exact ⟨AJ hl h.below,hll,x,y,hv,fun a m c e=>h.xold (lt _ _ bx hll.1 a m c e),fun a m c e=>h.xold (lt _ _ by' hll.2 a m c e)⟩
theorem Fh {n:Nat} (h1:1<=n) (h:AI c.cs w0 bj av fl fv W) {v:Value} {Ls:List Lev} (hl:BI w0 v Ls) (hll:∀ x∈Ls,x.len n):A1 n (XJ bj) W v Ls:=by
 obtain ⟨ao,cap,hv,hel⟩:=hl
 refine ⟨ao,cap,hv,fun hne=>?_⟩
 obtain ⟨b,off,hao,hel⟩:=hel hne
 refine ⟨b,off,hao,fun i hi=>?_⟩
 obtain ⟨rv,wv,c0,c1,hl⟩:=hel i hi
 exact ⟨rv,wv,Ab h.below _ _ c0,Ab h.below _ _ c1,Gd h1 h hl (hll _ (List.getElem_mem hi))⟩
theorem Q7 (J:JSt c w0 gs Ls Fs) (fs:List FnD) (hF:Fs.length=fs.length):EJ c w0 Ls.length fs gs (fun _:List (Int × Int)=>Ls) (fun _=>Fs) (fun fl W=>∃ fv,AI c.cs w0 bj av fl fv W) (XJ bj) where
 n1:=J.n1
 n6:=J.n6
 gr:=J.gr
 chk:=J.chk
 nv16:=J.l16
 below:=fun _ _ ⟨_,h⟩=>h.below
 levs:=fun _ _ ⟨_,h⟩=>⟨Fh J.n1 h J.levs J.lens,rfl⟩
 flevs:=fun _ _ ⟨_,h⟩=>⟨Fh J.n1 h J.flevs J.flens,hF⟩
 over:=fun _ _ _ ⟨fv,h⟩ hb=>⟨fv,h.over hb⟩
 xok:=Aj bj
 xlt:=fun _ _ ⟨_,h⟩ k hk=>(h.xlt k hk).2
theorem Iw (J:JSt c w0 gs Ls Fs) (h:AI c.cs w0 bj av fl fv W) (v:Value) (l) (K:Nat) (cs:List Value) (d) (hl:Ar c.n (XJ bj) W v l) (hx:RX w0 K cs d) (hv:∀ x∈AD K d,0<=x/\x < (Ls.length:Int)) :
  Calls Tryz.prog 103 #[c.v,v,.agg cs.toArray] W fun e w'=>
   (∃ p1 q1 r1 p2 q2 r2,e=zj (zh #[O p1 q1 r1,O p2 q2 r2])/\Ar c.n (XJ bj) w' (zh #[O p1 q1 r1,O p2 q2 r2]) (A4 c.n Ls l (AD K d)))/\Ov W w':=
 CU c J.n1 J.n6 gs Ls (XJ bj) (Aj bj) v l K cs d W (Af J.gr h.below) J.chk (Fh J.n1 h J.levs J.lens) hl J.l16 (fun k hk=>(h.xlt k hk).2) (hx.over h.below) hv
end
structure DZ (bj s:Nat) (a:Int) (st lv:List Value) (W:World):Prop where
 j:W.cell? ⟨s,0,none⟩=some (zi (some ⟨bj,0,none⟩))
 a:W.cell? ⟨s+1,0,none⟩=some (U zd a)
 st:Ad st W (s+1+1)
 lv:Ad lv W (s+1+1+1)
 x:∀ i,s<=i->i<=s+3->¬ XJ bj W i
 lt:s+3 < W.heap.size
theorem DZ.keep {bj s:Nat} {a:Int} {st lv:List Value} {W W':World} (h:DZ bj s a st lv W) (hf:FrW (XJ bj) W W'):DZ bj s a st lv W':=
 ⟨hf.cell h.j (h.x s (Nat.le_refl _) (by omega)),hf.cell h.a (h.x _ (by omega) (by omega)),hf.row h.st (h.x _ (by omega) (by omega)),hf.row h.lv (h.x _ (by omega) (by omega)),fun i h0 h1 e=>h.x i h0 h1 (hf.mov i (by have:=h.lt;omega) e),Nat.lt_of_lt_of_le h.lt hf.size⟩
theorem C0 (bj:Nat) (a:Int) (st lv:List Value) (W:World) (hx:∀ k,XJ bj W k->k < W.heap.size) :
  DZ bj W.heap.size a st lv ((((W.alloc (ze #[zi (some ⟨bj,0,none⟩)] 161)).alloc (ze #[U zd a] 3)).alloc (.cells st.toArray 130)).alloc (.cells lv.toArray 50)) /\
  Ov W ((((W.alloc (ze #[zi (some ⟨bj,0,none⟩)] 161)).alloc (ze #[U zd a] 3)).alloc (.cells st.toArray 130)).alloc (.cells lv.toArray 50)):=by
 have hb:Ov W ((((W.alloc (ze #[zi (some ⟨bj,0,none⟩)] 161)).alloc (ze #[U zd a] 3)).alloc (.cells st.toArray 130)).alloc (.cells lv.toArray 50)):=(((bA W _).alloc (by simp) _).alloc (by simp <;> omega) _).alloc (by simp <;> omega) _
 refine ⟨⟨by simp [go_sem],by simp [go_sem],?_,?_,fun i h0 h1 e=>?_,by simp <;> omega⟩,hb⟩
 ·have r:=(Ad.new st 130 ((W.alloc (ze #[zi (some ⟨bj,0,none⟩)] 161)).alloc (ze #[U zd a] 3))).over (bA _ (.cells lv.toArray 50))
  simpa using r
 ·have r:=Ad.new lv 50 (((W.alloc (ze #[zi (some ⟨bj,0,none⟩)] 161)).alloc (ze #[U zd a] 3)).alloc (.cells st.toArray 130))
  simpa using r
 ·have:=hx i ((Aj bj).below _ _ hb i e)
  omega
abbrev O7 (W:World) (bj:Nat) (c:WC) (vr ek en:Int) (xa:Option Addr) (xl xc:Nat) (p1:Option Addr) (q1 r1:Nat) (p2:Option Addr) (q2 r2:Nat) (Wz:World):Prop:=Wz.cell? ⟨W.heap.size,0,none⟩=some (zi (some ⟨bj,0,none⟩))/\CE Wz bj 0 (U zd (c.n:Int))/\CE Wz bj 1 (O c.ga c.gn c.gc)/\CE Wz bj 2 (O c.sa c.sn c.sc)/\CE Wz bj 3 (O c.ya c.yn c.yc)/\CE Wz bj 4 (O c.oa c.on c.oc)/\CE Wz bj 5 (O c.va c.vn c.vc)/\CE Wz bj 6 (O c.fa c.fn c.fc)/\CE Wz bj 7 (O c.ba c.bn c.bc)/\CE Wz bj 8 (O c.la c.ln c.lc)/\CE Wz bj 9 (O c.ka c.kn c.kc)/\CE Wz (W.heap.size+1+1) 1 (U zd vr)/\CE Wz (W.heap.size+1+1) 3 (U zd ek)/\CE Wz (W.heap.size+1+1) 4 (U zd en)/\CE Wz (W.heap.size+1+1) 5 (O xa xl xc)/\CE Wz (W.heap.size+1+1+1) 0 (O p1 q1 r1)/\CE Wz (W.heap.size+1+1+1) 1 (O p2 q2 r2)
theorem PM (c) (w0:World) (bj:Nat) (av:Value) (gs Ls Fs) (J:JSt c w0 gs Ls Fs) (sp) (A:JAc c w0 av (Ay gs) sp) (K ni no:Nat) (fs vs) (hvs:Bh w0 (O c.va c.vn c.vc) vs) (hvn:vs.length=Ls.length) (hvc:∀ v∈vs,A3 c.n gs v.2=0) (ls) (hls:AW w0 (O c.ya c.yn c.yc) ls) (hlc:∀ b∈ls,A3 c.n gs b=0) (hni:ls.length=ni) (hni5:ni<=5) (os) (hos:AW w0 (O c.oa c.on c.oc) os) (hoc:∀ b∈os,A3 c.n gs b=0) (hno:os.length=no) (hno5:no<=5)
  (fl:List (Int × Int)) (hfl:fl.length<=900) (fv:Value) (W:World) (a:Int) (k:Nat) (cs:List Value) (d:D) (v:Value) (p:Lev) (funcs:Int) (h:AI c.cs w0 bj av fl fv W) (hrs:RS w0 K (k+1) cs d) (hok:Cq K Ls.length ni no funcs fs d) (hl:Ar c.n (XJ bj) W v p) (hk:Ag d=1) :
  Calls Tryz.prog 88 #[zi (some ⟨bj,0,none⟩),U zd a,.agg cs.toArray,v] W fun e W'=>e=zj (zk #[])/\(∃ fv',AI c.cs w0 bj av (addF a 1 fl (!AE (A4 c.n Ls p (AD K (Ap d))) (Ls.getD (Ao d).toNat AU) c.n)) fv' W')/\FrW (XJ bj) W W':=by
 obtain ⟨p1,q1,r1,p2,q2,r2,rfl⟩:=hl.form
 obtain ⟨ek,en,xa,xl,xc,aa,ac,ta,tc,ea,ec,rfl,i0,i1,i2,hX,hA,hT,hE,-,-,-⟩:=hrs.form
 have hkd:sC (Ag d) (Ao d) (Ae d) ek en xa xl xc aa (Ah d).length ac ta (Ai d).length tc ea (Al d).length ec=sC 1 (Ao d) (Ae d) ek en xa xl xc aa (Ah d).length ac ta (Ai d).length tc ea (Al d).length ec:=by rw [hk]
 rw [hkd]
 clear hkd
 have hv2:=hok.2.1 (by omega)
 obtain ⟨jv,hjv⟩:∃ j:Nat,Ao d=(j:Int):=⟨(Ao d).toNat,by omega⟩
 have hjl:jv < Ls.length:=by omega
 have hgd:Ls.getD (Ao d).toNat AU=Ls[jv]:=by rw [hjv];simp [List.getD_eq_getElem?_getD,hjl]
 rw [hgd]
 obtain ⟨vr,hvr⟩:=nm (Ao d)
 obtain ⟨ot,hot⟩:=nm (Ae d)
 obtain ⟨al,hal⟩:=nm ((Ah d).length)
 obtain ⟨tl,htl⟩:=nm ((Ai d).length)
 obtain ⟨el,hel⟩:=nm ((Al d).length)
 rw [<-hvr,<-hot,<-hal,<-htl,<-hel]
 obtain ⟨hbox,hb⟩:=C0 bj a [U zd 1,U zd vr,U zd ot,U zd ek,U zd en,O xa xl xc,O aa al ac,O ta tl tc,O ea el ec] [O p1 q1 r1,O p2 q2 r2] W (fun k hk=>(h.xlt k hk).2)
 have hF1:=FrW.of_below (Aj bj) hb
 have hFD:=hF1.trans (FrW.of_below (Aj bj) (bD _))
 have HF1:=Aa hF1
 have HJ1:=Aa (h.over hb)
 have HBX1:=Aa hbox
 have HL1:=Aa (hl.keep J.n1 hF1)
 have HJD:=Aa (HJ1.o.over (bD _))
 have HBXD:=Aa (hbox.keep (FrW.of_below (Aj bj) (bD _)))
 have HLD:=Aa (hl.keep J.n1 hFD)
 have HFD:=Aa hFD
 have KW:=Aa (fun (W2:World) (h2:AI c.cs w0 bj av fl fv W2) (hl2:Ar c.n (XJ bj) W2 (zh #[O p1 q1 r1,O p2 q2 r2]) p)=>Iw J h2 _ p K [U zd ek,U zd en,O xa xl xc] (Ap d) hl2 hX (A8 hok))
 obtain ⟨r,hr⟩:=nm (AE (A4 c.n Ls p (AD K (Ap d))) Ls[jv] c.n)
 have KR:Hx (∀ (W2:World),AI c.cs w0 bj av fl fv W2->∀ (x:Value),Ar c.n (XJ bj) W2 x (A4 c.n Ls p (AD K (Ap d)))->Calls Tryz.prog 150 #[zi (some ⟨bj,0,none⟩),x,U zd vr] W2 fun e W'=>e=zj (zg r)/\Ov W2 W'):=fun W2 h2 x hx=>by
  rw [hr,hvr,hjv]
  exact ES c w0 bj av fl fv gs Ls Fs J x _ jv W2 h2 hx.at_ hx.len hjl
 rw [<-hr]
 have KB:=Aa (fun (W2:World) (h2:AI c.cs w0 bj av fl fv W2) (hb2:DZ bj W.heap.size a [U zd 1,U zd vr,U zd ot,U zd ek,U zd en,O xa xl xc,O aa al ac,O ta tl tc,O ea el ec] [O p1 q1 r1,O p2 q2 r2] W2) (is:Bool)=>Fp c.cs w0 bj av fl fv a 1 is W.heap.size (W.heap.size+1) W2 h2 hb2.j hb2.a (hb2.x _ (Nat.le_refl _) (by omega)) (hb2.x _ (by omega) (by omega)) (by omega))
 have HS:Hx (∀ (W2:World) (fl2:List (Int × Int)) (fv2:Value),AI c.cs w0 bj av fl2 fv2 W2->DZ bj W.heap.size a [U zd 1,U zd vr,U zd ot,U zd ek,U zd en,O xa xl xc,O aa al ac,O ta tl tc,O ea el ec] [O p1 q1 r1,O p2 q2 r2] W2->O7 W bj c vr ek en xa xl xc p1 q1 r1 p2 q2 r2 W2):=fun W2 fl2 fv2 h2 hb2=>⟨hb2.j,h2.cw 0 _ rfl,h2.cw 1 _ rfl,h2.cw 2 _ rfl,h2.cw 3 _ rfl,h2.cw 4 _ rfl,h2.cw 5 _ rfl,h2.cw 6 _ rfl,h2.cw 7 _ rfl,h2.cw 8 _ rfl,h2.cw 9 _ rfl,hb2.st 1 _ rfl,hb2.st 3 _ rfl,hb2.st 4 _ rfl,hb2.st 5 _ rfl,hb2.lv 0 _ rfl,hb2.lv 1 _ rfl⟩
 have HSD:=Aa (HS.o _ _ _ HJD.o HBXD.o)
 obtain ⟨t0,t1,t2,t3,t4,t5,t6,t7,t8,t9,t10,t11,t12,t13,t14,t15,t16⟩:=HS.o _ _ _ HJ1.o HBX1.o
 have g0:=hbox.st 0 _ rfl
 clear hr hgd hjv hv2 hvr hot hal htl hel hbox hb hF1 hFD h hl hrs hX hA hT hE hok J A hvs hvc hls hlc hos hoc hfl hk i0 i1 i2 hjl
 go_enter Tryz.func88,Tryz.ntmps88
 go_wp2_with fail
 refine gS (O7 W bj c vr ek en xa xl xc p1 q1 r1 p2 q2 r2) (HSD.o) fun hHeld=>?_
 refine kT 0 ?_
 refine kT 1 ?_
 refine kT 2 ?_
 refine kT 3 ?_
 refine kT 4 ?_
 refine kT 5 ?_
 refine kT 6 ?_
 refine kT 7 ?_
 refine kT 8 ?_
 refine kT 10 ?_
 refine kT 11 ?_
 refine rdA 9 rfl fun K hK=>?_
 go_simp
 refine (KW.o _ HJD.o HLD.o).mono ?_
 rintro e W3 ⟨⟨o1,o2,o3,o4,o5,o6,rfl,hL3⟩,hb3⟩
 have HL3:=Aa hL3
 have HJ3:=Aa (HJD.o.over hb3)
 have HB3:=Aa (HBXD.o.keep (FrW.of_below (Aj bj) hb3))
 have HS3:=Aa (HS.o W3 _ _ HJ3.o HB3.o)
 have HF3:=Aa (HFD.o.trans (FrW.of_below (Aj bj) hb3))
 clear hL3 hb3
 go_simp
 refine xK hK (HS3.o) fun hHeld=>?_
 refine rdA 12 rfl fun K hK=>?_
 go_simp
 refine (KR.o _ HJ3.o _ HL3.o).mono ?_
 rintro e W4 ⟨rfl,hb4⟩
 have HJ4:=Aa (HJ3.o.over hb4)
 have HB4:=Aa (HB3.o.keep (FrW.of_below (Aj bj) hb4))
 have HS4:=Aa (HS.o W4 _ _ HJ4.o HB4.o)
 have HF4:=Aa (HF3.o.trans (FrW.of_below (Aj bj) hb4))
 clear hb4
 go_simp
 refine xK hK (HS4.o) fun hHeld=>?_
 refine kT 13 ?_
 refine rdA 14 rfl fun K hK=>?_
 go_simp
 refine (KB.o _ HJ4.o HB4.o _).mono ?_
 rintro e W5 ⟨rfl,⟨fv5,hJ5⟩,hF5⟩
 have HJ5:=Aa hJ5
 have HS5:=Aa (HS.o W5 _ _ hJ5 (HB4.o.keep hF5))
 have HF5:=Aa (HF4.o.trans hF5)
 clear hJ5 hF5
 go_simp
 refine xK hK (HS5.o) fun hHeld=>?_
 refine gE ?_
 go_end0
 exact ⟨rfl,⟨fv5,HJ5.o⟩,HF5.o⟩
theorem MU {K nv ni no:Nat} {funcs:Int} {fs:List FnD} {d:D} (h:Cq K nv ni no funcs fs d) (hk:Ag d=4):0<=Ae d/\Ae d < no:=by
 unfold Cq at h
 grind
theorem DS (gn:List (Nat × Nat)) (n:Nat) (b:Lab):(Av gn n b).len n:=⟨AO _ _,AO _ _⟩
abbrev O6 (W:World) (bj:Nat) (c:WC) (bo oo jo:Nat) (ek en:Int) (xa:Option Addr) (xl xc:Nat) (p1:Option Addr) (q1 r1:Nat) (p2:Option Addr) (q2 r2:Nat) (pa1:Option Addr) (pn1 pc1:Nat) (pa2:Option Addr) (pn2 pc2:Nat) (Wz:World):Prop:=Wz.cell? ⟨W.heap.size,0,none⟩=some (zi (some ⟨bj,0,none⟩))/\CE Wz bj 0 (U zd (c.n:Int))/\CE Wz bj 1 (O c.ga c.gn c.gc)/\CE Wz bj 2 (O c.sa c.sn c.sc)/\CE Wz bj 3 (O c.ya c.yn c.yc)/\CE Wz bj 4 (O (some ⟨bo,oo,none⟩) c.on c.oc)/\CE Wz bj 5 (O c.va c.vn c.vc)/\CE Wz bj 6 (O c.fa c.fn c.fc)/\CE Wz bj 7 (O c.ba c.bn c.bc)/\CE Wz bj 8 (O c.la c.ln c.lc)/\CE Wz bj 9 (O c.ka c.kn c.kc)/\CE Wz (W.heap.size+1+1) 2 (U zd (jo:Int))/\CE Wz (W.heap.size+1+1) 3 (U zd ek)/\CE Wz (W.heap.size+1+1) 4 (U zd en)/\CE Wz (W.heap.size+1+1) 5 (O xa xl xc)/\CE Wz (W.heap.size+1+1+1) 0 (O p1 q1 r1)/\CE Wz (W.heap.size+1+1+1) 1 (O p2 q2 r2)/\CE Wz bo (oo+jo*2) (O pa1 pn1 pc1)/\CE Wz bo (oo+jo*2+1) (O pa2 pn2 pc2)
theorem PJ (c) (w0:World) (bj:Nat) (av:Value) (gs Ls Fs) (J:JSt c w0 gs Ls Fs) (sp) (A:JAc c w0 av (Ay gs) sp) (K ni no:Nat) (fs vs) (hvs:Bh w0 (O c.va c.vn c.vc) vs) (hvn:vs.length=Ls.length) (hvc:∀ v∈vs,A3 c.n gs v.2=0) (ls) (hls:AW w0 (O c.ya c.yn c.yc) ls) (hlc:∀ b∈ls,A3 c.n gs b=0) (hni:ls.length=ni) (hni5:ni<=5) (os) (hos:AW w0 (O c.oa c.on c.oc) os) (hoc:∀ b∈os,A3 c.n gs b=0) (hno:os.length=no) (hno5:no<=5)
  (fl:List (Int × Int)) (hfl:fl.length<=900) (fv:Value) (W:World) (a:Int) (k:Nat) (cs:List Value) (d:D) (v:Value) (p:Lev) (funcs:Int) (h:AI c.cs w0 bj av fl fv W) (hrs:RS w0 K (k+1) cs d) (hok:Cq K Ls.length ni no funcs fs d) (hl:Ar c.n (XJ bj) W v p) (hk:Ag d=4) :
  Calls Tryz.prog 88 #[zi (some ⟨bj,0,none⟩),U zd a,.agg cs.toArray,v] W fun e W'=>e=zj (zk #[])/\(∃ fv',AI c.cs w0 bj av (addF a 4 fl (!AE (A4 c.n Ls p (AD K (Ap d))) (Av (Ay gs) c.n (os.getD (Ae d).toNat ⟨[],[]⟩)) c.n)) fv' W')/\FrW (XJ bj) W W':=by
 obtain ⟨p1,q1,r1,p2,q2,r2,rfl⟩:=hl.form
 obtain ⟨ek,en,xa,xl,xc,aa,ac,ta,tc,ea,ec,rfl,i0,i1,i2,hX,hA,hT,hE,-,-,-⟩:=hrs.form
 have hkd:sC (Ag d) (Ao d) (Ae d) ek en xa xl xc aa (Ah d).length ac ta (Ai d).length tc ea (Al d).length ec=sC 4 (Ao d) (Ae d) ek en xa xl xc aa (Ah d).length ac ta (Ai d).length tc ea (Al d).length ec:=by rw [hk]
 rw [hkd]
 clear hkd
 have ho2:0<=Ae d/\Ae d < no:=MU hok hk
 obtain ⟨hym,ya',yc',hye,hyc⟩:=hos
 injection hye with y1 y2 y3
 obtain ⟨jo,hjo⟩:∃ j:Nat,Ae d=(j:Int):=⟨(Ae d).toNat,by omega⟩
 have hjL:jo < os.length:=by omega
 obtain ⟨bo,oo,hyo,hyel⟩:=hyc (by intro h;rw [h] at hjL;simp at hjL)
 obtain ⟨pr,pw,l0,l1,hpr,hpw⟩:=hyel jo hjL
 obtain ⟨pa1,pn1,pc1,rfl⟩:=Aw hpr
 obtain ⟨pa2,pn2,pc2,rfl⟩:=Aw hpw
 have hya:c.oa=some ⟨bo,oo,none⟩:=y1.trans hyo
 have hyn:c.on=os.length:=y2
 have hgd:os.getD (Ae d).toNat ⟨[],[]⟩=os[jo]:=by rw [hjo];simp [List.getD_eq_getElem?_getD,hjL]
 rw [hgd]
 have hlk:=hoc os[jo] (List.getElem_mem hjL)
 generalize os[jo]=lb at hlk hpr hpw ⊢
 obtain ⟨vr,hvr⟩:=nm (Ao d)
 obtain ⟨ot,hot⟩:=nm (Ae d)
 obtain ⟨al,hal⟩:=nm ((Ah d).length)
 obtain ⟨tl,htl⟩:=nm ((Ai d).length)
 obtain ⟨el,hel⟩:=nm ((Al d).length)
 rw [<-hvr,<-hot,<-hal,<-htl,<-hel]
 obtain ⟨hbox,hb⟩:=C0 bj a [U zd 4,U zd vr,U zd ot,U zd ek,U zd en,O xa xl xc,O aa al ac,O ta tl tc,O ea el ec] [O p1 q1 r1,O p2 q2 r2] W (fun k hk=>(h.xlt k hk).2)
 have hF1:=FrW.of_below (Aj bj) hb
 have hFD:=hF1.trans (FrW.of_below (Aj bj) (bD _))
 have HF1:=Aa hF1
 have HJ1:=Aa (h.over hb)
 have HBX1:=Aa hbox
 have HL1:=Aa (hl.keep J.n1 hF1)
 have HJD:=Aa (HJ1.o.over (bD _))
 have HBXD:=Aa (hbox.keep (FrW.of_below (Aj bj) (bD _)))
 have HLD:=Aa (hl.keep J.n1 hFD)
 have HFD:=Aa hFD
 have hot2:ot=(jo:Int):=by rw [hot,hjo]
 have hcv:c.v=(zh #[U zd (c.n:Int),O c.ga c.gn c.gc,O c.sa c.sn c.sc,O c.ya c.yn c.yc,O (some ⟨bo,oo,none⟩) c.on c.oc,O c.va c.vn c.vc,O c.fa c.fn c.fc,O c.ba c.bn c.bc,O c.la c.ln c.lc,O c.ka c.kn c.kc]):=by show Value.agg #[U zd (c.n:Int),O c.ga c.gn c.gc,O c.sa c.sn c.sc,O c.ya c.yn c.yc,O c.oa c.on c.oc,O c.va c.vn c.vc,O c.fa c.fn c.fc,O c.ba c.bn c.bc,O c.la c.ln c.lc,O c.ka c.kn c.kc]=_;rw [hya]
 have KW:Hx (∀ (W2:World),AI c.cs w0 bj av fl fv W2->Ar c.n (XJ bj) W2 (zh #[O p1 q1 r1,O p2 q2 r2]) p->Calls Tryz.prog 103 #[(zh #[U zd (c.n:Int),O c.ga c.gn c.gc,O c.sa c.sn c.sc,O c.ya c.yn c.yc,O (some ⟨bo,oo,none⟩) c.on c.oc,O c.va c.vn c.vc,O c.fa c.fn c.fc,O c.ba c.bn c.bc,O c.la c.ln c.lc,O c.ka c.kn c.kc]),(zh #[O p1 q1 r1,O p2 q2 r2]),zh #[U zd ek,U zd en,O xa xl xc]] W2 fun e w'=>(∃ p1 q1 r1 p2 q2 r2,e=zj (zh #[O p1 q1 r1,O p2 q2 r2])/\Ar c.n (XJ bj) w' (zh #[O p1 q1 r1,O p2 q2 r2]) (A4 c.n Ls p (AD K (Ap d))))/\Ov W2 w'):=fun W2 h2 hl2=>by
  have:=Iw J h2 _ p K [U zd ek,U zd en,O xa xl xc] (Ap d) hl2 hX (A8 hok)
  rw [hcv] at this
  exact this
 have KL:Hx (∀ (W2:World),AI c.cs w0 bj av fl fv W2->Calls Tryz.prog 114 #[(zh #[U zd (c.n:Int),O c.ga c.gn c.gc,O c.sa c.sn c.sc,O c.ya c.yn c.yc,O (some ⟨bo,oo,none⟩) c.on c.oc,O c.va c.vn c.vc,O c.fa c.fn c.fc,O c.ba c.bn c.bc,O c.la c.ln c.lc,O c.ka c.kn c.kc]),zh #[O pa1 pn1 pc1,O pa2 pn2 pc2]] W2 fun e w'=>∃ vj,e=zj vj/\AY W2 w' vj (Av (Ay gs) c.n lb)/\Ov W2 w'):=fun W2 h2=>by
  have:=Gb c gs (O pa1 pn1 pc1) (O pa2 pn2 pc2) lb W2 (Af J.gr h2.below) (Ak hpr h2.below) (Ak hpw h2.below) hlk
  rw [hcv] at this
  exact this
 obtain ⟨r,hr⟩:=nm (AE (A4 c.n Ls p (AD K (Ap d))) (Av (Ay gs) c.n lb) c.n)
 have KF:Hx (∀ (W2:World) (x:Value),AI c.cs w0 bj av fl fv W2->∀ (y:Value),Ar c.n (XJ bj) W2 x (A4 c.n Ls p (AD K (Ap d)))->A5 W2 y (Av (Ay gs) c.n lb)->Calls Tryz.prog 57 #[(zh #[U zd (c.n:Int),O c.ga c.gn c.gc,O c.sa c.sn c.sc,O c.ya c.yn c.yc,O (some ⟨bo,oo,none⟩) c.on c.oc,O c.va c.vn c.vc,O c.fa c.fn c.fc,O c.ba c.bn c.bc,O c.la c.ln c.lc,O c.ka c.kn c.kc]),x,y] W2 fun e W'=>e=zj (zg r)/\Ov W2 W'):=fun W2 x h2 y hx hy=>by
  have:=DB c gs x y _ _ W2 (Af J.gr h2.below) J.chk hx.at_ hx.len hy (DS _ _ _)
  rw [hcv,<-hr] at this
  exact this
 rw [<-hr]
 have KB:=Aa (fun (W2:World) (h2:AI c.cs w0 bj av fl fv W2) (hb2:DZ bj W.heap.size a [U zd 4,U zd vr,U zd ot,U zd ek,U zd en,O xa xl xc,O aa al ac,O ta tl tc,O ea el ec] [O p1 q1 r1,O p2 q2 r2] W2) (is:Bool)=>Fp c.cs w0 bj av fl fv a 4 is W.heap.size (W.heap.size+1) W2 h2 hb2.j hb2.a (hb2.x _ (Nat.le_refl _) (by omega)) (hb2.x _ (by omega) (by omega)) (by omega))
 have HS:Hx (∀ (W2:World) (fl2:List (Int × Int)) (fv2:Value),AI c.cs w0 bj av fl2 fv2 W2->DZ bj W.heap.size a [U zd 4,U zd vr,U zd ot,U zd ek,U zd en,O xa xl xc,O aa al ac,O ta tl tc,O ea el ec] [O p1 q1 r1,O p2 q2 r2] W2->O6 W bj c bo oo jo ek en xa xl xc p1 q1 r1 p2 q2 r2 pa1 pn1 pc1 pa2 pn2 pc2 W2):=fun W2 fl2 fv2 h2 hb2=>⟨hb2.j,h2.cw 0 _ rfl,h2.cw 1 _ rfl,h2.cw 2 _ rfl,h2.cw 3 _ rfl,by rw [<-hya];exact h2.cw 4 _ rfl,h2.cw 5 _ rfl,h2.cw 6 _ rfl,h2.cw 7 _ rfl,h2.cw 8 _ rfl,h2.cw 9 _ rfl,by rw [<-hot2];exact hb2.st 2 _ rfl,hb2.st 3 _ rfl,hb2.st 4 _ rfl,hb2.st 5 _ rfl,hb2.lv 0 _ rfl,hb2.lv 1 _ rfl,Ab h2.below _ _ l0,Ab h2.below _ _ l1⟩
 have HSD:=Aa (HS.o _ _ _ HJD.o HBXD.o)
 obtain ⟨t0,t1,t2,t3,t4,t5,t6,t7,t8,t9,t10,t11,t12,t13,t14,t15,t16,t17,t18⟩:=HS.o _ _ _ HJ1.o HBX1.o
 have g0:=hbox.st 0 _ rfl
 have gj1:(jo:Int) < (c.on:Int):=by omega
 have gj2:c.on<=5:=by omega
 clear hr hgd hot2 hjo ho2 hlk hcv hya hyn hyc hyel hyo hym y1 y2 y3 l0 l1 hpr hpw hvr hot hal htl hel hbox hb hF1 hFD h hl hrs hX hA hT hE hok J A hvs hvc hls hlc hoc hfl hk i0 i1 i2 hjL hno hni
 go_enter Tryz.func88,Tryz.ntmps88
 go_wp2_with fail
 refine gS (O6 W bj c bo oo jo ek en xa xl xc p1 q1 r1 p2 q2 r2 pa1 pn1 pc1 pa2 pn2 pc2) (HSD.o) fun hHeld=>?_
 refine kT 0 ?_
 refine kT 1 ?_
 refine kT 2 ?_
 refine kT 3 ?_
 refine kT 4 ?_
 refine kT 5 ?_
 refine kT 6 ?_
 refine kT 7 ?_
 refine kT 8 ?_
 refine kT 9 ?_
 refine kT 10 ?_
 refine kT 11 ?_
 refine kT 13 ?_
 refine kT 14 ?_
 refine kT 15 ?_
 refine kT 16 ?_
 refine kT 17 ?_
 refine kT 18 ?_
 refine kT 19 ?_
 refine kT 20 ?_
 refine kT 21 ?_
 refine kT 22 ?_
 refine kT 23 ?_
 refine kT 24 ?_
 refine kT 25 ?_
 refine kT 26 ?_
 refine rdA 12 rfl fun K hK=>?_
 go_simp
 refine (KW.o _ HJD.o HLD.o).mono ?_
 rintro e W3 ⟨⟨o1,o2,o3,o4,o5,o6,rfl,hL3⟩,hb3⟩
 have HL3:=Aa hL3
 have HJ3:=Aa (HJD.o.over hb3)
 have HB3:=Aa (HBXD.o.keep (FrW.of_below (Aj bj) hb3))
 have HS3:=Aa (HS.o W3 _ _ HJ3.o HB3.o)
 have HF3:=Aa (HFD.o.trans (FrW.of_below (Aj bj) hb3))
 clear hL3 hb3
 go_simp
 refine xK hK (HS3.o) fun hHeld=>?_
 refine rdA 27 rfl fun K hK=>?_
 go_simp
 refine (KL.o _ HJ3.o).mono ?_
 rintro e W4 ⟨vj,rfl,hL4,hb4⟩
 have HV4:=Aa hL4
 have HJ4:=Aa (HJ3.o.over hb4)
 have HB4:=Aa (HB3.o.keep (FrW.of_below (Aj bj) hb4))
 have HS4:=Aa (HS.o W4 _ _ HJ4.o HB4.o)
 have HF4:=Aa (HF3.o.trans (FrW.of_below (Aj bj) hb4))
 have HL4:=Aa (HL3.o.over (Aj bj) hb4)
 clear hL4 hb4
 go_simp
 refine xK hK (HS4.o) fun hHeld=>?_
 refine rdA 28 rfl fun K hK=>?_
 go_simp
 refine (KF.o _ _ HJ4.o _ HL4.o (An HV4.o)).mono ?_
 rintro e W5 ⟨rfl,hb5⟩
 have HJ5:=Aa (HJ4.o.over hb5)
 have HB5:=Aa (HB4.o.keep (FrW.of_below (Aj bj) hb5))
 have HS5:=Aa (HS.o W5 _ _ HJ5.o HB5.o)
 have HF5:=Aa (HF4.o.trans (FrW.of_below (Aj bj) hb5))
 clear hb5
 go_simp
 refine xK hK (HS5.o) fun hHeld=>?_
 refine kT 29 ?_
 refine rdA 30 rfl fun K hK=>?_
 go_simp
 refine (KB.o _ HJ5.o HB5.o _).mono ?_
 rintro e W6 ⟨rfl,⟨fv6,hJ6⟩,hF6⟩
 have HJ6:=Aa hJ6
 have HS6:=Aa (HS.o W6 _ _ hJ6 (HB5.o.keep hF6))
 have HF6:=Aa (HF5.o.trans hF6)
 clear hJ6 hF6
 go_simp
 refine xK hK (HS6.o) fun hHeld=>?_
 refine gE ?_
 go_end0
 exact ⟨rfl,⟨fv6,HJ6.o⟩,HF6.o⟩
end Go.Proofs.YtfffpjkcfnekaaaGreat.Ex
