/- The document's own least level above two, and greatest below: JoinLevels and MeetLevels. -/
import Derived.Test.YtfffpjkcfnekaaaGreatH03
import Derived.Maps.AppendAt
import Derived.Deep.CutRange
import Derived.Test.YtfffpjkcfnekaaaGreatH02
import Derived.Deep.QuietTactic
import Derived.BigQuiet
import Derived.Deep.RegionHeld2
set_option linter.unusedVariables false
set_option maxHeartbeats 8000000
set_option maxRecDepth 100000
namespace Go.Proofs.YtfffpjkcfnekaaaGreat
open Go.RowKit
open Go.Value renaming slice -> O, int -> zd, bool -> ze, agg -> zg, pointer -> zi, tuple -> zj
open Go.IntKind renaming i64 -> U
open Go.Obj renaming cells -> zf
open Go.Ending renaming returned -> zh
structure Lab where
 r:List Pol
 w:List Pol
def L1 (n:Nat) (b:Lab):Prop:=(b.r.length<=4/\∀ p∈b.r,H4 n p)/\(b.w.length<=4/\∀ p∈b.w,H4 n p)
def Ed (m:Int) (b:Lab):Int:=if AV m b.r=0 then AV m b.w else AV m b.r
theorem GI {m:Int} {ps:List Pol} (h:Bv m ps=0):∀ p∈ps,Ch m p=0:=by
 induction ps with
 | nil=>simp
 | cons p ps ih=>
  rw [Bv] at h
  split at h
  ·rename_i h0
   intro q hq
   rcases List.mem_cons.1 hq with rfl | hq
   ·exact h0
   ·exact ih h q hq
  ·rename_i h0
   exact absurd h h0
theorem IJ {n:Nat} {p:Pol} (h:Ch n p=0):H4 n p:=by
 unfold Ch at h
 split at h
 ·split at h
  ·split at h
   ·rename_i h1 h2 h3
    simp [AN] at h1
    refine ⟨h1,h2,fun x hx=>?_⟩
    have:=List.all_eq_true.1 h3 x hx
    simp [AN] at this
    exact this
   ·cases h
  ·cases h
 ·cases h
theorem EM {n:Nat} {ps:List Pol} (h:AV n ps=0):ps.length<=4/\∀ p∈ps,H4 n p:=by
 unfold AV at h
 split at h
 ·rename_i h1
  exact ⟨h1,fun p hp=>IJ (GI h p hp)⟩
 ·cases h
theorem I3 {n:Nat} {b:Lab} (h:Ed n b=0):L1 n b:=by
 unfold Ed at h
 split at h
 ·rename_i h1
  exact ⟨EM h1,EM h⟩
 ·rename_i h1
  exact absurd h h1
theorem E7 (m:Int) (hm:1<=m/\m<=6) (v pr pw:Value) (bl:Lab) (w:World) (hp:Az w pr bl.r) (hq:Az w pw bl.w) :
  Calls Tryz.prog 94 #[zg #[zd U m,v],zg #[pr,pw]] w fun e w'=>e=zh (zd U (Ed m bl))/\Ov w w':=by
 have hbel:Ov w ((w.alloc (zf #[zd U m,v] 24)).alloc (zf #[pr,pw] 39)):=(bA w _).alloc (by simp) _
 have h1:=CK m hm v pr bl.r _ (Au hp hbel)
 have h2:=fun (W:World) (hW:Ov w W)=>CK m hm v pw bl.w W (Au hq hW)
 have hx:Ed m bl=if AV m bl.r=0 then AV m bl.w else AV m bl.r:=rfl
 obtain ⟨e1,he1⟩:=nm (AV m bl.r)
 obtain ⟨e2,he2⟩:=nm (AV m bl.w)
 rw [<-he1,<-he2] at hx
 rw [<-he1] at h1
 rw [<-he2] at h2
 rw [hx]
 have K1:=Aa h1
 have K2:=Aa h2
 clear h1 h2 he1 he2 hx hp hq
 by_cases h0:e1=0
 ·subst h0
  go_enter Tryz.func94,Tryz.ntmps94
  go_wp2_with fail
  refine (K1.o).mono ?_
  rintro e w1 ⟨rfl,hb1⟩
  obtain ⟨hc,hf⟩:=AI hb1
  have c0:w1.cell? ⟨w.heap.size,0,none⟩=some (zd U m):=by rw [hc _ _ (by simp;omega)];simp [go_sem]
  have c1:w1.cell? ⟨w.heap.size,1,none⟩=some v:=by rw [hc _ _ (by simp;omega)];simp [go_sem]
  have c2:w1.cell? ⟨w.heap.size+1,1,none⟩=some pw:=by rw [hc _ _ (by simp)];simp [go_sem]
  have hbel1:Ov w w1:=hbel.trans (hb1.mono (by simp;omega))
  clear hc hf hb1 K1
  go_wp2_with fail
  refine (K2.o _ hbel1).mono ?_
  rintro e w2 ⟨rfl,hb2⟩
  have hbel2:Ov w w2:=hbel1.trans (hb2.mono hbel1.size)
  clear K2 c0 c1 c2
  go_wp2_with fail
  go_ret
  exact ⟨rfl,hbel2⟩
 ·have b1:(e1 == 0)=false:=by simpa using h0
  rw [if_neg h0]
  clear h0
  go_enter Tryz.func94,Tryz.ntmps94
  go_wp2_with fail
  refine (K1.o).mono ?_
  rintro e w1 ⟨rfl,hb1⟩
  have hbel1:Ov w w1:=hbel.trans (hb1.mono (by simp;omega))
  go_wp2_with fail
  go_ret
  exact ⟨rfl,hbel1⟩
def Co (m:Int) (gs:List (Int × Int)) (b:Lab):Int:=if AX m gs=0 then Ed m b else AX m gs
def LT:Prop:=∀ (m:Int) (v:Value) (gs:List (Int × Int)) (pr pw:Value) (bl:Lab) (w:World),Bk w v gs->Az w pr bl.r->Az w pw bl.w ->
 Calls Tryz.prog 48 #[zg #[zd U m,v],zg #[pr,pw]] w fun e w'=>e=zh (zd U (Co m gs bl))/\Ov w w'
theorem Bc {w:World} {v:Value} {ps:List Pol} (h:Az w v ps):∃ a n c,v=O a n c:=by
 obtain ⟨a,c,e,_⟩:=h
 exact ⟨a,_,c,e⟩
theorem GG {w:World} {v:Value} {gs:List (Int × Int)} (h:Bk w v gs):∃ a n c,v=O a n c:=by
 obtain ⟨a,c,e,_⟩:=h
 exact ⟨a,_,c,e⟩
theorem Io:LT:=by
 intro m v gs pr pw bl w hv hp hq
 have hbel:Ov w ((w.alloc (zf #[zd U m,v] 24)).alloc (zf #[pr,pw] 39)):=(bA w _).alloc (by simp) _
 have hC:=fun (W:World) (hB:Ov w W)=>check_any m v gs W (Bq hv hB)
 have hP:=fun (W:World) (hB:Ov w W)=>C8 m v pr bl.r W (Au hp hB)
 have hQ:=fun (W:World) (hB:Ov w W)=>C8 m v pw bl.w W (Au hq hB)
 have hE:Co m gs bl=if AX m gs=0 then (if AV m bl.r=0 then AV m bl.w else AV m bl.r) else AX m gs:=rfl
 obtain ⟨r,hr⟩:=nm (AX m gs)
 obtain ⟨p1,hp1⟩:=nm (AV m bl.r)
 obtain ⟨p2,hp2⟩:=nm (AV m bl.w)
 rw [<-hr,<-hp1,<-hp2] at hE
 rw [<-hr] at hC
 rw [<-hp1] at hP
 rw [<-hp2] at hQ
 obtain ⟨va,vn,vc,rfl⟩:=GG hv
 obtain ⟨pa,pn,pc,rfl⟩:=Bc hp
 obtain ⟨qa,qn,qc,rfl⟩:=Bc hq
 have KC:=Aa hC
 have KP:=Aa hP
 have KQ:=Aa hQ
 have HE:=Aa hE
 clear hC hP hQ hE hr hp1 hp2 hv hp hq
 go_enter Tryz.func48,Tryz.ntmps48
 go_wp2_with fail
 refine (KC.o _ hbel).mono ?_
 rintro e w1 ⟨rfl,hb1⟩
 obtain ⟨hc,hf⟩:=AI hb1
 have c0:w1.cell? ⟨w.heap.size,0,none⟩=some (zd U m):=by rw [hc _ _ (by simp;omega)];simp [go_sem]
 have c1:w1.cell? ⟨w.heap.size,1,none⟩=some (O va vn vc):=by rw [hc _ _ (by simp;omega)];simp [go_sem]
 have c2:w1.cell? ⟨w.heap.size+1,0,none⟩=some (O pa pn pc):=by rw [hc _ _ (by simp)];simp [go_sem]
 have c3:w1.cell? ⟨w.heap.size+1,1,none⟩=some (O qa qn qc):=by rw [hc _ _ (by simp)];simp [go_sem]
 have hB1:Ov w w1:=hbel.trans (hb1.mono (by simp;omega))
 clear hc hf hb1 hbel KC
 by_cases hr0:r=0
 ·subst hr0
  go_wp2_with fail
  refine (KP.o _ hB1).mono ?_
  rintro e w2 ⟨rfl,hb2⟩
  have ltw:=bL c0
  have ltp:=bL c2
  obtain ⟨hc,hf⟩:=AI hb2
  have d0:w2.cell? ⟨w.heap.size,0,none⟩=some (zd U m):=by rw [hc _ _ ltw];exact c0
  have d1:w2.cell? ⟨w.heap.size,1,none⟩=some (O va vn vc):=by rw [hc _ _ ltw];exact c1
  have d3:w2.cell? ⟨w.heap.size+1,1,none⟩=some (O qa qn qc):=by rw [hc _ _ ltp];exact c3
  have hB2:Ov w w2:=hB1.trans (hb2.mono hB1.size)
  clear hc hf hb2 hB1 c0 c1 c2 c3 KP
  by_cases hp0:p1=0
  ·subst hp0
   go_wp2_with fail
   refine (KQ.o _ hB2).mono ?_
   rintro e w3 ⟨rfl,hb3⟩
   have hB3:Ov w w3:=hB2.trans (hb3.mono hB2.size)
   clear d0 d1 d3 hb3 KQ
   go_wp2_with fail
   go_ret
   exact ⟨by rw [HE.o];simp,hB3⟩
  ·have hne:(p1 != 0)=true:=by simpa using hp0
   go_wp2_with fail
   go_ret
   exact ⟨by rw [HE.o];simp [hp0],hB2⟩
 ·have hne:(r != 0)=true:=by simpa using hr0
  go_wp2_with fail
  go_ret
  exact ⟨by rw [HE.o];simp [hr0],hB1⟩
end Go.Proofs.YtfffpjkcfnekaaaGreat
namespace Go.Proofs.YtfffpjkcfnekaaaGreat.Ex
open Go.RowKit
open Go.Value renaming slice -> O, int -> zd, bool -> ze, agg -> zg, pointer -> zi, tuple -> zj
open Go.IntKind renaming i64 -> U
open Go.Obj renaming cells -> zf
open Go.Ending renaming returned -> zh
def sD (kd va ot:Int) (e:D) (ags ts es:List D):D:=.agg [.lit (.int U kd),.lit (.int U va),.lit (.int U ot),e,.slice ags [],.slice ts [],.slice es []]
def Ae:D->Int
 | .agg (.lit (.int _ n)::_)=>n
 | _=>0
def Av:D->Int
 | .agg (_::.lit (.int _ n)::_)=>n
 | _=>0
def Ac:D->Int
 | .agg (_::_::.lit (.int _ n)::_)=>n
 | _=>0
def Ai:D->D
 | .agg (_::_::_::e::_)=>e
 | d=>d
def Ah:D->List D
 | .agg (_::_::_::_::.slice l _::_)=>l
 | _=>[]
def Af:D->List D
 | .agg (_::_::_::_::_::.slice l _::_)=>l
 | _=>[]
def Al:D->List D
 | .agg (_::_::_::_::_::_::.slice l _::_)=>l
 | _=>[]
def RS (w:World) (K:Nat):Nat->List Value->D->Prop
 | 0,_,_=>False
 | k+1,cs,d=>∃ (kd va ot:Int) (x0 x1 x2:Value) (e:D) (vA:Value) (ags:List D) (vT:Value) (ts:List D) (vE:Value) (es:List D),
   cs=[zd U kd,zd U va,zd U ot,x0,x1,x2,vA,vT,vE]/\d=sD kd va ot e ags ts es/\Bn kd/\Bn va/\Bn ot/\RX w K [x0,x1,x2] e/\XS 3 (RX w K) w vA ags/\XS 9 (RS w K k) w vT ts/\XS 9 (RS w K k) w vE es
theorem RS.mono {w w':World} {K:Nat} (hw:∀ a u,w.cell? a=some u->w'.cell? a=some u) :
  ∀ (k m:Nat) (cs:List Value) (d:D),k<=m->RS w K k cs d->RS w' K m cs d:=by
 intro k
 induction k with
 | zero=>intro m cs d _ h;exact h.elim
 | succ k ih=>
  intro m cs d hkm h
  obtain ⟨m',rfl⟩:∃ m',m=m' + 1:=⟨m - 1,by omega⟩
  obtain ⟨kd,va,ot,x0,x1,x2,e,vA,ags,vT,ts,vE,es,hcs,hd,h1,h2,h3,he,hA,hT,hE⟩:=h
  exact ⟨kd,va,ot,x0,x1,x2,e,vA,ags,vT,ts,vE,es,hcs,hd,h1,h2,h3,RX.mono hw K K _ e (Nat.le_refl _) he,
   hA.mono hw (fun cs d _ hh=>RX.mono hw K K cs d (Nat.le_refl _) hh),hT.mono hw (fun cs d _ hh=>ih m' cs d (by omega) hh),hE.mono hw (fun cs d _ hh=>ih m' cs d (by omega) hh)⟩
def AD (w:World) (K k:Nat) (v:Value) (l:List D):Prop:=XS 9 (RS w K k) w v l
theorem AD.over {w w':World} {K k:Nat} {v:Value} {l:List D} (h:AD w K k v l) (hb:Ov w w'):AD w' K k v l:=
 XS.mono h (Ab hb) (fun cs d _ hh=>RS.mono (Ab hb) k k cs d (Nat.le_refl _) hh)
theorem ArgsAt.over {w w':World} {K:Nat} {v:Value} {l:List D} (h:XS 3 (RX w K) w v l) (hb:Ov w w'):XS 3 (RX w' K) w' v l:=
 XS.mono h (Ab hb) (fun cs d _ hh=>RX.mono (Ab hb) K K cs d (Nat.le_refl _) hh)
structure FnD where
 ps:List Int
 body:List D
 res:D
def AQ (fs:List FnD) (c:Int):FnD:=fs.getD c.toNat ⟨[],[],.agg []⟩
def LO (v:Value) (ps:List Int):Prop:=ps.length<=maxLen/\∃ pa pc,v=O pa ps.length pc/\ps.length<=pc/\pc<=maxLen
def AL (w:World) (K k:Nat) (v:Value) (fs:List FnD):Prop:=
 fs.length<=maxLen/\∃ ao cap,v=O ao fs.length cap/\(fs≠[]->∃ b off,ao=some ⟨b,off,none⟩/\∀ i (h:i < fs.length),∃ (vP vB x0 x1 x2:Value),
  w.cell? ⟨b,off+i*5,none⟩=some vP/\w.cell? ⟨b,off+i*5+1,none⟩=some vB/\w.cell? ⟨b,off+i*5+2,none⟩=some x0/\w.cell? ⟨b,off+i*5+3,none⟩=some x1/\w.cell? ⟨b,off+i*5+4,none⟩=some x2 /\
  Aq w vP fs[i].ps/\LO vP fs[i].ps/\AD w K k vB fs[i].body/\RX w K [x0,x1,x2] fs[i].res)
theorem AL.over {w w':World} {K k:Nat} {v:Value} {l:List FnD} (h:AL w K k v l) (hb:Ov w w'):AL w' K k v l:=by
 obtain ⟨hm,ao,cap,hv,hc⟩:=h
 refine ⟨hm,ao,cap,hv,fun hne=>?_⟩
 obtain ⟨b,off,hao,hel⟩:=hc hne
 refine ⟨b,off,hao,fun i hi=>?_⟩
 obtain ⟨vP,vB,x0,x1,x2,h0,h1,h2,h3,h4,hp,hpl,hs,hx⟩:=hel i hi
 exact ⟨vP,vB,x0,x1,x2,Ab hb _ _ h0,Ab hb _ _ h1,Ab hb _ _ h2,Ab hb _ _ h3,Ab hb _ _ h4,hp.over hb,hpl,hs.over hb,hx.over hb⟩
def BC (w:World) (v:Value) (ls:List Lab):Prop:=
 ls.length<=maxLen/\∃ ao cap,v=O ao ls.length cap/\(ls≠[]->∃ b off,ao=some ⟨b,off,none⟩/\∀ i (h:i < ls.length),∃ (pr pw:Value),
  w.cell? ⟨b,off+i*2,none⟩=some pr/\w.cell? ⟨b,off+i*2+1,none⟩=some pw/\Az w pr ls[i].r/\Az w pw ls[i].w)
theorem BC.over {w w':World} {v:Value} {l:List Lab} (h:BC w v l) (hb:Ov w w'):BC w' v l:=by
 obtain ⟨hm,ao,cap,hv,hc⟩:=h
 refine ⟨hm,ao,cap,hv,fun hne=>?_⟩
 obtain ⟨b,off,hao,hel⟩:=hc hne
 refine ⟨b,off,hao,fun i hi=>?_⟩
 obtain ⟨pr,pw,h0,h1,hr,hw⟩:=hel i hi
 exact ⟨pr,pw,Ab hb _ _ h0,Ab hb _ _ h1,Au hr hb,Au hw hb⟩
def C7 (w:World) (v:Value) (ls:List (Bool × Lab)):Prop:=
 ls.length<=maxLen/\∃ ao cap,v=O ao ls.length cap/\(ls≠[]->∃ b off,ao=some ⟨b,off,none⟩/\∀ i (h:i < ls.length),∃ (pr pw:Value),
  w.cell? ⟨b,off+i*3,none⟩=some (ze ls[i].1)/\w.cell? ⟨b,off+i*3+1,none⟩=some pr/\w.cell? ⟨b,off+i*3+2,none⟩=some pw/\Az w pr ls[i].2.r/\Az w pw ls[i].2.w)
theorem C7.over {w w':World} {v:Value} {l:List (Bool × Lab)} (h:C7 w v l) (hb:Ov w w'):C7 w' v l:=by
 obtain ⟨hm,ao,cap,hv,hc⟩:=h
 refine ⟨hm,ao,cap,hv,fun hne=>?_⟩
 obtain ⟨b,off,hao,hel⟩:=hc hne
 refine ⟨b,off,hao,fun i hi=>?_⟩
 obtain ⟨pr,pw,h0,h1,h2,hr,hw⟩:=hel i hi
 exact ⟨pr,pw,Ab hb _ _ h0,Ab hb _ _ h1,Ab hb _ _ h2,Au hr hb,Au hw hb⟩
def Ak (why:Int):Ending:=.panicked [{ v:=.iface 230 (zg #[zd U 0,zd U why]),recovered:=false }]
theorem IY (why:Int) (w:World):Calls Tryz.prog 215 #[zd U 0,ze false,zd U why] w fun e w'=>e=Ak why/\w'=w:=by
 unfold Ak
 go_enter Tryz.func215,Tryz.ntmps215
 go_wp2_with fail
 exact ⟨rfl,rfl,rfl⟩
theorem H8 (why:Int) (w:World):Calls Tryz.prog 172 #[ze false,zd U why] w fun e w'=>e=Ak why/\w'=w:=by
 have K:=Aa fun W=>IY why W
 unfold Ak at K ⊢
 go_enter Tryz.func172,Tryz.ntmps172
 go_wp2_with fail
 refine (K.o _).mono ?_
 rintro e w1 ⟨rfl,rfl⟩
 go_wp2_with fail
 exact ⟨rfl,rfl,rfl⟩
def Nc (ok:Bool) (why:Int) (w:World) (e:Ending) (w':World):Prop:=(ok=true/\e=zh (zj #[])\/ok=false/\e=Ak why)/\w'=w
theorem AM (ok:Bool) (why:Int) (w:World):Calls Tryz.prog 172 #[ze ok,zd U why] w (Nc ok why w):=by
 cases ok with
 | true=>exact (AH why w).mono fun e w' h=>⟨Or.inl ⟨rfl,h.1⟩,h.2⟩
 | false=>exact (H8 why w).mono fun e w' h=>⟨Or.inr ⟨rfl,h.1⟩,h.2⟩
theorem CP (why:Int) (w:World):Calls Tryz.prog 171 #[zd U why] w (Nc (why == 0) why w):=by
 by_cases h:why=0
 ·subst h
  exact (Lb w).mono fun e w' h=>⟨Or.inl ⟨rfl,h.1⟩,h.2⟩
 ·have hb:(why == 0)=false:=by simpa using h
  have K:=Aa fun W=>H8 why W
  have H:Calls Tryz.prog 171 #[zd U why] w fun e w'=>e=Ak why/\w'=w:=by
   unfold Ak at K ⊢
   go_enter Tryz.func171,Tryz.ntmps171
   go_wp2_with fail
   refine (K.o _).mono ?_
   rintro e w1 ⟨rfl,rfl⟩
   go_wp2_with fail
   exact ⟨rfl,rfl,rfl⟩
  exact H.mono fun e w' h=>⟨Or.inr ⟨hb,h.1⟩,h.2⟩
@[simp] theorem Ng (kd va ot:Int) (e:D) (ags ts es:List D):Ae (sD kd va ot e ags ts es)=kd:=rfl
@[simp] theorem Nk (kd va ot:Int) (e:D) (ags ts es:List D):Av (sD kd va ot e ags ts es)=va:=rfl
@[simp] theorem MO (kd va ot:Int) (e:D) (ags ts es:List D):Ac (sD kd va ot e ags ts es)=ot:=rfl
@[simp] theorem Nh (kd va ot:Int) (e:D) (ags ts es:List D):Ai (sD kd va ot e ags ts es)=e:=rfl
@[simp] theorem Nj (kd va ot:Int) (e:D) (ags ts es:List D):Ah (sD kd va ot e ags ts es)=ags:=rfl
@[simp] theorem Nf (kd va ot:Int) (e:D) (ags ts es:List D):Af (sD kd va ot e ags ts es)=ts:=rfl
@[simp] theorem Ni (kd va ot:Int) (e:D) (ags ts es:List D):Al (sD kd va ot e ags ts es)=es:=rfl
abbrev sC (kd va ot ek en:Int) (xa:Option Addr) (xl xc:Nat) (aa:Option Addr) (al ac:Nat) (ta:Option Addr) (tl tc:Nat) (ea:Option Addr) (el ec:Nat):List Value:=
 [zd U kd,zd U va,zd U ot,zd U ek,zd U en,O xa xl xc,O aa al ac,O ta tl tc,O ea el ec]
theorem RS.form {w:World} {K k:Nat} {cs:List Value} {d:D} (h:RS w K (k+1) cs d) :
  ∃ (ek en:Int) (xa:Option Addr) (xl xc:Nat) (aa:Option Addr) (ac:Nat) (ta:Option Addr) (tc:Nat) (ea:Option Addr) (ec:Nat),
   cs=sC (Ae d) (Av d) (Ac d) ek en xa xl xc aa (Ah d).length ac ta (Af d).length tc ea (Al d).length ec/\Bn (Ae d)/\Bn (Av d)/\Bn (Ac d) /\
   RX w K [zd U ek,zd U en,O xa xl xc] (Ai d)/\XS 3 (RX w K) w (O aa (Ah d).length ac) (Ah d)/\AD w K k (O ta (Af d).length tc) (Af d)/\AD w K k (O ea (Al d).length ec) (Al d) /\
   ek=Ap (Ai d)/\en=AA (Ai d)/\xl=(Ar (Ai d)).length:=by
 obtain ⟨kd,va,ot,x0,x1,x2,e,vA,ags,vT,ts,vE,es,rfl,rfl,h1,h2,h3,he,hA,hT,hE⟩:=h
 obtain ⟨xa,xc,hx⟩:=he.form
 simp only [List.cons.injEq,and_true] at hx
 obtain ⟨rfl,rfl,rfl⟩:=hx
 obtain ⟨aa,ac,rfl,-⟩:=hA.2
 obtain ⟨ta,tc,rfl,-⟩:=hT.2
 obtain ⟨ea,ec,rfl,-⟩:=hE.2
 exact ⟨_,_,xa,_,xc,aa,ac,ta,tc,ea,ec,rfl,h1,h2,h3,he,hA,hT,hE,rfl,rfl,rfl⟩
def Bi:Nat->D->Nat
 | 0,_=>0
 | k+1,d=>1+((Af d).map (Bi k)).sum+((Al d).map (Bi k)).sum
def Aj (k:Nat) (l:List D):Nat:=(l.map (Bi k)).sum
theorem CW {k:Nat} {l:List D} {j:Nat} (hj:j < l.length):Aj k (l.take (j+1))=Aj k (l.take j)+Bi k l[j]:=by
 unfold Aj
 rw [List.take_succ_eq_append_getElem hj,List.map_append,List.sum_append]
 simp
theorem AD.zero {w:World} {K:Nat} {v:Value} {l:List D} (h:AD w K 0 v l):l=[]:=by
 cases l with
 | nil=>rfl
 | cons d l=>
  obtain ⟨-,ao,cap,-,hc⟩:=h
  obtain ⟨b,off,-,hel⟩:=hc (by simp)
  obtain ⟨cs,-,-,hr⟩:=hel 0 d rfl
  exact hr.elim
def An (k:Nat) (fs:List FnD):Nat:=(fs.map fun f=>Aj k f.body).sum
theorem B9 {k:Nat} {l:List FnD} {j:Nat} (hj:j < l.length):An k (l.take (j+1))=An k (l.take j)+Aj k l[j].body:=by
 unfold An
 rw [List.take_succ_eq_append_getElem hj,List.map_append,List.sum_append]
 simp
def BB (ok:Prop) (w:World) (e:Ending) (w':World):Prop:=((ok/\e=zh (zj #[]))\/∃ why:Int,why≠0/\e=Ak why)/\Ov w w'
theorem Gg (w:World):Calls Tryz.prog 243 #[zd U 1] w fun e w'=>e=zh (zj #[zg #[ze true,ze false,ze true,ze false,ze false,ze false],ze true])/\Ov w w':=by
 go_enter Tryz.func243,Tryz.ntmps243
 go_wp2_with fail
 exact bodyPost_ret (v:=zj #[zg #[ze true,ze false,ze true,ze false,ze false,ze false],ze true]) (by simp [results,Tryz.results243,go_sem]) rfl ⟨rfl,bA w _⟩
theorem Gf (w:World):Calls Tryz.prog 243 #[zd U 2] w fun e w'=>e=zh (zj #[zg #[ze true,ze true,ze false,ze true,ze false,ze false],ze true])/\Ov w w':=by
 go_enter Tryz.func243,Tryz.ntmps243
 go_wp2_with fail
 exact bodyPost_ret (v:=zj #[zg #[ze true,ze true,ze false,ze true,ze false,ze false],ze true]) (by simp [results,Tryz.results243,go_sem]) rfl ⟨rfl,bA w _⟩
theorem Ge (w:World):Calls Tryz.prog 243 #[zd U 3] w fun e w'=>e=zh (zj #[zg #[ze true,ze true,ze false,ze false,ze false,ze false],ze true])/\Ov w w':=by
 go_enter Tryz.func243,Tryz.ntmps243
 go_wp2_with fail
 exact bodyPost_ret (v:=zj #[zg #[ze true,ze true,ze false,ze false,ze false,ze false],ze true]) (by simp [results,Tryz.results243,go_sem]) rfl ⟨rfl,bA w _⟩
theorem Gd (w:World):Calls Tryz.prog 243 #[zd U 4] w fun e w'=>e=zh (zj #[zg #[ze false,ze true,ze true,ze false,ze false,ze false],ze true])/\Ov w w':=by
 go_enter Tryz.func243,Tryz.ntmps243
 go_wp2_with fail
 exact bodyPost_ret (v:=zj #[zg #[ze false,ze true,ze true,ze false,ze false,ze false],ze true]) (by simp [results,Tryz.results243,go_sem]) rfl ⟨rfl,bA w _⟩
theorem Gc (w:World):Calls Tryz.prog 243 #[zd U 5] w fun e w'=>e=zh (zj #[zg #[ze true,ze false,ze true,ze false,ze false,ze false],ze true])/\Ov w w':=by
 go_enter Tryz.func243,Tryz.ntmps243
 go_wp2_with fail
 exact bodyPost_ret (v:=zj #[zg #[ze true,ze false,ze true,ze false,ze false,ze false],ze true]) (by simp [results,Tryz.results243,go_sem]) rfl ⟨rfl,bA w _⟩
theorem Gb (w:World):Calls Tryz.prog 243 #[zd U 6] w fun e w'=>e=zh (zj #[zg #[ze true,ze false,ze true,ze false,ze false,ze false],ze true])/\Ov w w':=by
 go_enter Tryz.func243,Tryz.ntmps243
 go_wp2_with fail
 exact bodyPost_ret (v:=zj #[zg #[ze true,ze false,ze true,ze false,ze false,ze false],ze true]) (by simp [results,Tryz.results243,go_sem]) rfl ⟨rfl,bA w _⟩
theorem Ga (w:World):Calls Tryz.prog 243 #[zd U 7] w fun e w'=>e=zh (zj #[zg #[ze false,ze false,ze true,ze false,ze true,ze true],ze true])/\Ov w w':=by
 go_enter Tryz.func243,Tryz.ntmps243
 go_wp2_with fail
 exact bodyPost_ret (v:=zj #[zg #[ze false,ze false,ze true,ze false,ze true,ze true],ze true]) (by simp [results,Tryz.results243,go_sem]) rfl ⟨rfl,bA w _⟩
theorem F9 (w:World):Calls Tryz.prog 243 #[zd U 8] w fun e w'=>e=zh (zj #[zg #[ze false,ze false,ze true,ze false,ze true,ze false],ze true])/\Ov w w':=by
 go_enter Tryz.func243,Tryz.ntmps243
 go_wp2_with fail
 exact bodyPost_ret (v:=zj #[zg #[ze false,ze false,ze true,ze false,ze true,ze false],ze true]) (by simp [results,Tryz.results243,go_sem]) rfl ⟨rfl,bA w _⟩
theorem Ej (k:Int) (hk:¬ (1<=k/\k<=8)) (w:World):Calls Tryz.prog 243 #[zd U k] w fun e w'=>e=zh (zj #[zg #[ze false,ze false,ze false,ze false,ze false,ze false],ze false])/\Ov w w':=by
 have b1:(k == 1)=false:=by simp;omega
 have b2:(k == 2)=false:=by simp;omega
 have b3:(k == 3)=false:=by simp;omega
 have b4:(k == 4)=false:=by simp;omega
 have b5:(k == 5)=false:=by simp;omega
 have b6:(k == 6)=false:=by simp;omega
 have b7:(k == 7)=false:=by simp;omega
 have b8:(k == 8)=false:=by simp;omega
 clear hk
 go_enter Tryz.func243,Tryz.ntmps243
 go_wp2_with fail
 exact bodyPost_ret (v:=zj #[zg #[ze false,ze false,ze false,ze false,ze false,ze false],ze false]) (by simp [results,Tryz.results243,go_sem]) rfl ⟨rfl,bA w _⟩
theorem AY (k:Int) (funcs:Int) (m:Int) (ga gn gc sa sn sc ya yn yc oa on oc va vn vc fa fn fc ba bn bc) (w:World):Calls Tryz.prog 244 #[zg #[zd U m,O ga gn gc,O sa sn sc,O ya yn yc,O oa on oc,O va vn vc,O fa fn fc,O ba bn bc],zd U k,zd U funcs] w fun e w'=>e=zh (zd U (if k=2 then funcs else if k=3 then yn else on))/\Ov w w':=by
 have hbel:Ov w (w.alloc (zf #[zd U m,O ga gn gc,O sa sn sc,O ya yn yc,O oa on oc,O va vn vc,O fa fn fc,O ba bn bc] 184)):=bA w _
 by_cases h2:k=2
 ·subst h2
  go_enter Tryz.func244,Tryz.ntmps244
  go_wp2_with fail
  go_ret
  exact ⟨rfl,hbel⟩
 ·by_cases h3:k=3
  ·subst h3
   go_enter Tryz.func244,Tryz.ntmps244
   go_wp2_with fail
   go_ret
   exact ⟨rfl,hbel⟩
  ·rw [if_neg h2,if_neg h3]
   go_enter Tryz.func244,Tryz.ntmps244
   go_wp2_with fail
   go_ret
   exact ⟨rfl,hbel⟩
def Dz (K:Nat) (nv ni no:Nat) (funcs:Int) (fs:List FnD) (d:D):Prop:=
 (1<=Ae d/\Ae d<=8)/\((Ae d=1\/Ae d=2\/Ae d=3\/Ae d=5\/Ae d=6)->0<=Av d/\Av d < nv) /\
 (Ae d=2->(0<=Ac d/\Ac d < funcs)/\(∀ f,fs[(Ac d).toNat]? = some f->f.ps.length=(Ah d).length)/\∀ a∈Ah d,Am nv K a=0) /\
 (Ae d=3->0<=Ac d/\Ac d < ni)/\((Ae d=1\/4<=Ae d)->Am nv K (Ai d)=0)/\((Ae d=2\/Ae d=3)->Ap (Ai d)=0/\Ar (Ai d)=[])/\(Ae d=4->0<=Ac d/\Ac d < no)
def okS (K:Nat) (nv ni no:Nat) (funcs:Int) (fs:List FnD):Nat->D->Prop
 | 0,_=>False
 | k+1,d=>Dz K nv ni no funcs fs d/\(∀ s∈Af d,okS K nv ni no funcs fs k s)/\∀ s∈Al d,okS K nv ni no funcs fs k s
theorem BB.imp {p q:Prop} {w:World} {e:Ending} {w':World} (h:BB p w e w') (hpq:p->q):BB q w e w':=by
 obtain ⟨h,hB⟩:=h
 refine ⟨?_,hB⟩
 rcases h with ⟨hp,he⟩ | h
 ·exact Or.inl ⟨hpq hp,he⟩
 ·exact Or.inr h
theorem AL.mono {w:World} {K k m:Nat} {v:Value} {l:List FnD} (h:AL w K k v l) (hkm:k<=m):AL w K m v l:=by
 obtain ⟨hm,ao,cap,hv,hc⟩:=h
 refine ⟨hm,ao,cap,hv,fun hne=>?_⟩
 obtain ⟨b,off,hao,hel⟩:=hc hne
 refine ⟨b,off,hao,fun i hi=>?_⟩
 obtain ⟨vP,vB,x0,x1,x2,h0,h1,h2,h3,h4,hp,hpl,hs,hx⟩:=hel i hi
 exact ⟨vP,vB,x0,x1,x2,h0,h1,h2,h3,h4,hp,hpl,XS.mono hs (fun _ _ hh=>hh) (fun cs d _ hh=>RS.mono (fun _ _ q=>q) k m cs d hkm hh),hx⟩
theorem Aq.prefix {w:World} {ao:Option Addr} {cap:Nat} {vs:List Int} (h:Aq w (O ao vs.length cap) vs) {i:Nat} (hi:i<=vs.length) (c:Nat):Aq w (O ao i c) (vs.take i):=by
 obtain ⟨a2,c2,he,hc⟩:=h
 injection he with e1 e2 e3
 subst e1
 refine ⟨ao,c,by simp [Nat.min_eq_left hi],fun hne=>?_⟩
 obtain ⟨b,off,hao,hel⟩:=hc (by rintro rfl;simp at hne)
 refine ⟨b,off,hao,fun j hj=>?_⟩
 have hj2:j < vs.length:=by simp at hj;omega
 rw [List.getElem_take]
 exact hel j hj2
def okF (K:Nat) (nv ni no:Nat) (ahead:Int) (fs:List FnD) (k:Nat) (f:FnD):Prop:=
 f.ps.length<=4/\(∀ p∈f.ps,0<=p/\p < nv)/\(∀ s∈f.body,okS K nv ni no ahead fs k s)/\Am nv K f.res=0
end Go.Proofs.YtfffpjkcfnekaaaGreat.Ex
