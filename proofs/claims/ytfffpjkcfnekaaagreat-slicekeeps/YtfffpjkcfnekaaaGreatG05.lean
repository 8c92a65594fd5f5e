/- The document's own least level above two, and greatest below: JoinLevels and MeetLevels. -/
import Derived.Test.YtfffpjkcfnekaaaGreatG04
import Derived.Maps.AppendAt
import Derived.Deep.CutRange
import Derived.Test.YtfffpjkcfnekaaaGreatG03
import Derived.Deep.QuietTactic
import Derived.BigQuiet
import Derived.Deep.RegionHeld2
set_option linter.unusedVariables false
set_option maxHeartbeats 8000000
set_option maxRecDepth 100000
namespace Go.Proofs.YtfffpjkcfnekaaaGreat
open Go.RowKit
open Go.Value renaming slice -> O, int -> zd, bool -> ze, agg -> zg, pointer -> zi, tuple -> zj
open Go.IntKind renaming i64 -> U
open Go.Obj renaming cells -> zf
open Go.Ending renaming returned -> zh
structure Lab where
 r:List Pol
 w:List Pol
def Lc (n:Nat) (b:Lab):Prop:=(b.r.length<=4/\∀ p∈b.r,G7 n p)/\(b.w.length<=4/\∀ p∈b.w,G7 n p)
def GH (m:Int) (b:Lab):Int:=if BM m b.r=0 then BM m b.w else BM m b.r
theorem Ge {m:Int} {ps:List Pol} (h:BL m ps=0):∀ p∈ps,Ci m p=0:=by
 induction ps with
 | nil=>simp
 | cons p ps ih=>
  rw [BL] at h
  split at h
  ·rename_i h0
   intro q hq
   rcases List.mem_cons.1 hq with rfl | hq
   ·exact h0
   ·exact ih h q hq
  ·rename_i h0
   exact absurd h h0
theorem H4 {n:Nat} {p:Pol} (h:Ci n p=0):G7 n p:=by
 unfold Ci at h
 split at h
 ·split at h
  ·split at h
   ·rename_i h1 h2 h3
    simp [Bn] at h1
    refine ⟨h1,h2,fun x hx=>?_⟩
    have:=List.all_eq_true.1 h3 x hx
    simp [Bn] at this
    exact this
   ·cases h
  ·cases h
 ·cases h
theorem El {n:Nat} {ps:List Pol} (h:BM n ps=0):ps.length<=4/\∀ p∈ps,G7 n p:=by
 unfold BM at h
 split at h
 ·rename_i h1
  exact ⟨h1,fun p hp=>H4 (Ge h p hp)⟩
 ·cases h
theorem Ij {n:Nat} {b:Lab} (h:GH n b=0):Lc n b:=by
 unfold GH at h
 split at h
 ·rename_i h1
  exact ⟨El h1,El h⟩
 ·rename_i h1
  exact absurd h h1
def Cj (m:Int) (gs:List (Int × Int)) (b:Lab):Int:=if Ba m gs=0 then GH m b else Ba m gs
def KH:Prop:=∀ (m:Int) (v:Value) (gs:List (Int × Int)) (pr pw:Value) (bl:Lab) (w:World),Bf w v gs->AD w pr bl.r->AD w pw bl.w ->
 Calls Tryz.prog 48 #[zg #[zd U m,v],zg #[pr,pw]] w fun e w'=>e=zh (zd U (Cj m gs bl))/\Ov w w'
theorem A2 {w:World} {v:Value} {ps:List Pol} (h:AD w v ps):∃ a n c,v=O a n c:=by
 obtain ⟨a,c,e,_⟩:=h
 exact ⟨a,_,c,e⟩
theorem Gc {w:World} {v:Value} {gs:List (Int × Int)} (h:Bf w v gs):∃ a n c,v=O a n c:=by
 obtain ⟨a,c,e,_⟩:=h
 exact ⟨a,_,c,e⟩
theorem Ho:KH:=by
 intro m v gs pr pw bl w hv hp hq
 have hbel:Ov w ((w.alloc (zf #[zd U m,v] 24)).alloc (zf #[pr,pw] 39)):=(bA w _).alloc (by simp) _
 have hC:=fun (W:World) (hB:Ov w W)=>check_any m v gs W (Bz hv hB)
 have hP:=fun (W:World) (hB:Ov w W)=>CU m v pr bl.r W (Ap hp hB)
 have hQ:=fun (W:World) (hB:Ov w W)=>CU m v pw bl.w W (Ap hq hB)
 have hE:Cj m gs bl=if Ba m gs=0 then (if BM m bl.r=0 then BM m bl.w else BM m bl.r) else Ba m gs:=rfl
 obtain ⟨r,hr⟩:=nm (Ba m gs)
 obtain ⟨p1,hp1⟩:=nm (BM m bl.r)
 obtain ⟨p2,hp2⟩:=nm (BM m bl.w)
 rw [<-hr,<-hp1,<-hp2] at hE
 rw [<-hr] at hC
 rw [<-hp1] at hP
 rw [<-hp2] at hQ
 obtain ⟨va,vn,vc,rfl⟩:=Gc hv
 obtain ⟨pa,pn,pc,rfl⟩:=A2 hp
 obtain ⟨qa,qn,qc,rfl⟩:=A2 hq
 have KC:=Aa hC
 have KP:=Aa hP
 have KQ:=Aa hQ
 have HE:=Aa hE
 clear hC hP hQ hE hr hp1 hp2 hv hp hq
 go_enter Tryz.func48,Tryz.ntmps48
 go_wp2_with fail
 refine (KC.o _ hbel).mono ?_
 rintro e w1 ⟨rfl,hb1⟩
 obtain ⟨hc,hf⟩:=AM hb1
 have c0:w1.cell? ⟨w.heap.size,0,none⟩=some (zd U m):=by rw [hc _ _ (by simp;omega)];simp [go_sem]
 have c1:w1.cell? ⟨w.heap.size,1,none⟩=some (O va vn vc):=by rw [hc _ _ (by simp;omega)];simp [go_sem]
 have c2:w1.cell? ⟨w.heap.size+1,0,none⟩=some (O pa pn pc):=by rw [hc _ _ (by simp)];simp [go_sem]
 have c3:w1.cell? ⟨w.heap.size+1,1,none⟩=some (O qa qn qc):=by rw [hc _ _ (by simp)];simp [go_sem]
 have hB1:Ov w w1:=hbel.trans (hb1.mono (by simp;omega))
 clear hc hf hb1 hbel KC
 by_cases hr0:r=0
 ·subst hr0
  go_wp2_with fail
  refine (KP.o _ hB1).mono ?_
  rintro e w2 ⟨rfl,hb2⟩
  have ltw:=bL c0
  have ltp:=bL c2
  obtain ⟨hc,hf⟩:=AM hb2
  have d0:w2.cell? ⟨w.heap.size,0,none⟩=some (zd U m):=by rw [hc _ _ ltw];exact c0
  have d1:w2.cell? ⟨w.heap.size,1,none⟩=some (O va vn vc):=by rw [hc _ _ ltw];exact c1
  have d3:w2.cell? ⟨w.heap.size+1,1,none⟩=some (O qa qn qc):=by rw [hc _ _ ltp];exact c3
  have hB2:Ov w w2:=hB1.trans (hb2.mono hB1.size)
  clear hc hf hb2 hB1 c0 c1 c2 c3 KP
  by_cases hp0:p1=0
  ·subst hp0
   go_wp2_with fail
   refine (KQ.o _ hB2).mono ?_
   rintro e w3 ⟨rfl,hb3⟩
   have hB3:Ov w w3:=hB2.trans (hb3.mono hB2.size)
   clear d0 d1 d3 hb3 KQ
   go_wp2_with fail
   go_ret
   exact ⟨by rw [HE.o];simp,hB3⟩
  ·have hne:(p1 != 0)=true:=by simpa using hp0
   go_wp2_with fail
   go_ret
   exact ⟨by rw [HE.o];simp [hp0],hB2⟩
 ·have hne:(r != 0)=true:=by simpa using hr0
  go_wp2_with fail
  go_ret
  exact ⟨by rw [HE.o];simp [hr0],hB1⟩
end Go.Proofs.YtfffpjkcfnekaaaGreat
namespace Go.Proofs.YtfffpjkcfnekaaaGreat.Ex
open Go.RowKit
open Go.Value renaming slice -> O, int -> zd, bool -> ze, agg -> zg, pointer -> zi, tuple -> zj
open Go.IntKind renaming i64 -> U
open Go.Obj renaming cells -> zf
open Go.Ending renaming returned -> zh
def sD (kd va ot:Int) (e:D) (ags ts es:List D):D:=.agg [.lit (.int U kd),.lit (.int U va),.lit (.int U ot),e,.slice ags [],.slice ts [],.slice es []]
def Ad:D->Int
 | .agg (.lit (.int _ n)::_)=>n
 | _=>0
def Aq:D->Int
 | .agg (_::.lit (.int _ n)::_)=>n
 | _=>0
def Ac:D->Int
 | .agg (_::_::.lit (.int _ n)::_)=>n
 | _=>0
def Ao:D->D
 | .agg (_::_::_::e::_)=>e
 | d=>d
def Ak:D->List D
 | .agg (_::_::_::_::.slice l _::_)=>l
 | _=>[]
def Ae:D->List D
 | .agg (_::_::_::_::_::.slice l _::_)=>l
 | _=>[]
def Aj:D->List D
 | .agg (_::_::_::_::_::_::.slice l _::_)=>l
 | _=>[]
def RS (w:World) (K:Nat):Nat->List Value->D->Prop
 | 0,_,_=>False
 | k+1,cs,d=>∃ (kd va ot:Int) (x0 x1 x2:Value) (e:D) (vA:Value) (ags:List D) (vT:Value) (ts:List D) (vE:Value) (es:List D),
   cs=[zd U kd,zd U va,zd U ot,x0,x1,x2,vA,vT,vE]/\d=sD kd va ot e ags ts es/\Bd kd/\Bd va/\Bd ot/\RX w K [x0,x1,x2] e/\XS 3 (RX w K) w vA ags/\XS 9 (RS w K k) w vT ts/\XS 9 (RS w K k) w vE es
theorem RS.mono {w w':World} {K:Nat} (hw:∀ a u,w.cell? a=some u->w'.cell? a=some u) :
  ∀ (k m:Nat) (cs:List Value) (d:D),k<=m->RS w K k cs d->RS w' K m cs d:=by
 intro k
 induction k with
 | zero=>intro m cs d _ h;exact h.elim
 | succ k ih=>
  intro m cs d hkm h
  obtain ⟨m',rfl⟩:∃ m',m=m' + 1:=⟨m - 1,by omega⟩
  obtain ⟨kd,va,ot,x0,x1,x2,e,vA,ags,vT,ts,vE,es,hcs,hd,h1,h2,h3,he,hA,hT,hE⟩:=h
  exact ⟨kd,va,ot,x0,x1,x2,e,vA,ags,vT,ts,vE,es,hcs,hd,h1,h2,h3,RX.mono hw K K _ e (Nat.le_refl _) he,
   hA.mono hw (fun cs d _ hh=>RX.mono hw K K cs d (Nat.le_refl _) hh),hT.mono hw (fun cs d _ hh=>ih m' cs d (by omega) hh),hE.mono hw (fun cs d _ hh=>ih m' cs d (by omega) hh)⟩
def AC (w:World) (K k:Nat) (v:Value) (l:List D):Prop:=XS 9 (RS w K k) w v l
theorem AC.over {w w':World} {K k:Nat} {v:Value} {l:List D} (h:AC w K k v l) (hb:Ov w w'):AC w' K k v l:=
 XS.mono h (Ab hb) (fun cs d _ hh=>RS.mono (Ab hb) k k cs d (Nat.le_refl _) hh)
theorem ArgsAt.over {w w':World} {K:Nat} {v:Value} {l:List D} (h:XS 3 (RX w K) w v l) (hb:Ov w w'):XS 3 (RX w' K) w' v l:=
 XS.mono h (Ab hb) (fun cs d _ hh=>RX.mono (Ab hb) K K cs d (Nat.le_refl _) hh)
structure FnD where
 ps:List Int
 body:List D
 res:D
def AN (fs:List FnD) (c:Int):FnD:=fs.getD c.toNat ⟨[],[],.agg []⟩
def Kw (v:Value) (ps:List Int):Prop:=ps.length<=maxLen/\∃ pa pc,v=O pa ps.length pc/\ps.length<=pc/\pc<=maxLen
def AP (w:World) (K k:Nat) (v:Value) (fs:List FnD):Prop:=
 fs.length<=maxLen/\∃ ao cap,v=O ao fs.length cap/\(fs≠[]->∃ b off,ao=some ⟨b,off,none⟩/\∀ i (h:i < fs.length),∃ (vP vB x0 x1 x2:Value),
  w.cell? ⟨b,off+i*5,none⟩=some vP/\w.cell? ⟨b,off+i*5+1,none⟩=some vB/\w.cell? ⟨b,off+i*5+2,none⟩=some x0/\w.cell? ⟨b,off+i*5+3,none⟩=some x1/\w.cell? ⟨b,off+i*5+4,none⟩=some x2 /\
  Ar w vP fs[i].ps/\Kw vP fs[i].ps/\AC w K k vB fs[i].body/\RX w K [x0,x1,x2] fs[i].res)
theorem AP.over {w w':World} {K k:Nat} {v:Value} {l:List FnD} (h:AP w K k v l) (hb:Ov w w'):AP w' K k v l:=by
 obtain ⟨hm,ao,cap,hv,hc⟩:=h
 refine ⟨hm,ao,cap,hv,fun hne=>?_⟩
 obtain ⟨b,off,hao,hel⟩:=hc hne
 refine ⟨b,off,hao,fun i hi=>?_⟩
 obtain ⟨vP,vB,x0,x1,x2,h0,h1,h2,h3,h4,hp,hpl,hs,hx⟩:=hel i hi
 exact ⟨vP,vB,x0,x1,x2,Ab hb _ _ h0,Ab hb _ _ h1,Ab hb _ _ h2,Ab hb _ _ h3,Ab hb _ _ h4,hp.over hb,hpl,hs.over hb,hx.over hb⟩
def BB (w:World) (v:Value) (ls:List Lab):Prop:=
 ls.length<=maxLen/\∃ ao cap,v=O ao ls.length cap/\(ls≠[]->∃ b off,ao=some ⟨b,off,none⟩/\∀ i (h:i < ls.length),∃ (pr pw:Value),
  w.cell? ⟨b,off+i*2,none⟩=some pr/\w.cell? ⟨b,off+i*2+1,none⟩=some pw/\AD w pr ls[i].r/\AD w pw ls[i].w)
theorem BB.over {w w':World} {v:Value} {l:List Lab} (h:BB w v l) (hb:Ov w w'):BB w' v l:=by
 obtain ⟨hm,ao,cap,hv,hc⟩:=h
 refine ⟨hm,ao,cap,hv,fun hne=>?_⟩
 obtain ⟨b,off,hao,hel⟩:=hc hne
 refine ⟨b,off,hao,fun i hi=>?_⟩
 obtain ⟨pr,pw,h0,h1,hr,hw⟩:=hel i hi
 exact ⟨pr,pw,Ab hb _ _ h0,Ab hb _ _ h1,Ap hr hb,Ap hw hb⟩
def CT (w:World) (v:Value) (ls:List (Bool × Lab)):Prop:=
 ls.length<=maxLen/\∃ ao cap,v=O ao ls.length cap/\(ls≠[]->∃ b off,ao=some ⟨b,off,none⟩/\∀ i (h:i < ls.length),∃ (pr pw:Value),
  w.cell? ⟨b,off+i*3,none⟩=some (ze ls[i].1)/\w.cell? ⟨b,off+i*3+1,none⟩=some pr/\w.cell? ⟨b,off+i*3+2,none⟩=some pw/\AD w pr ls[i].2.r/\AD w pw ls[i].2.w)
theorem CT.over {w w':World} {v:Value} {l:List (Bool × Lab)} (h:CT w v l) (hb:Ov w w'):CT w' v l:=by
 obtain ⟨hm,ao,cap,hv,hc⟩:=h
 refine ⟨hm,ao,cap,hv,fun hne=>?_⟩
 obtain ⟨b,off,hao,hel⟩:=hc hne
 refine ⟨b,off,hao,fun i hi=>?_⟩
 obtain ⟨pr,pw,h0,h1,h2,hr,hw⟩:=hel i hi
 exact ⟨pr,pw,Ab hb _ _ h0,Ab hb _ _ h1,Ab hb _ _ h2,Ap hr hb,Ap hw hb⟩
def Ah (why:Int):Ending:=.panicked [{ v:=.iface 230 (zg #[zd U 0,zd U why]),recovered:=false }]
theorem Ig (why:Int) (w:World):Calls Tryz.prog 215 #[zd U 0,ze false,zd U why] w fun e w'=>e=Ah why/\w'=w:=by
 unfold Ah
 go_enter Tryz.func215,Tryz.ntmps215
 go_wp2_with fail
 exact ⟨rfl,rfl,rfl⟩
theorem Ha (why:Int) (w:World):Calls Tryz.prog 172 #[ze false,zd U why] w fun e w'=>e=Ah why/\w'=w:=by
 have K:=Aa fun W=>Ig why W
 unfold Ah at K ⊢
 go_enter Tryz.func172,Tryz.ntmps172
 go_wp2_with fail
 refine (K.o _).mono ?_
 rintro e w1 ⟨rfl,rfl⟩
 go_wp2_with fail
 exact ⟨rfl,rfl,rfl⟩
def Mq (ok:Bool) (why:Int) (w:World) (e:Ending) (w':World):Prop:=(ok=true/\e=zh (zj #[])\/ok=false/\e=Ah why)/\w'=w
theorem AH (ok:Bool) (why:Int) (w:World):Calls Tryz.prog 172 #[ze ok,zd U why] w (Mq ok why w):=by
 cases ok with
 | true=>exact (AE why w).mono fun e w' h=>⟨Or.inl ⟨rfl,h.1⟩,h.2⟩
 | false=>exact (Ha why w).mono fun e w' h=>⟨Or.inr ⟨rfl,h.1⟩,h.2⟩
theorem Cy (why:Int) (w:World):Calls Tryz.prog 171 #[zd U why] w (Mq (why == 0) why w):=by
 by_cases h:why=0
 ·subst h
  exact (JX w).mono fun e w' h=>⟨Or.inl ⟨rfl,h.1⟩,h.2⟩
 ·have hb:(why == 0)=false:=by simpa using h
  have K:=Aa fun W=>Ha why W
  have H:Calls Tryz.prog 171 #[zd U why] w fun e w'=>e=Ah why/\w'=w:=by
   unfold Ah at K ⊢
   go_enter Tryz.func171,Tryz.ntmps171
   go_wp2_with fail
   refine (K.o _).mono ?_
   rintro e w1 ⟨rfl,rfl⟩
   go_wp2_with fail
   exact ⟨rfl,rfl,rfl⟩
  exact H.mono fun e w' h=>⟨Or.inr ⟨hb,h.1⟩,h.2⟩
@[simp] theorem Mt (kd va ot:Int) (e:D) (ags ts es:List D):Ad (sD kd va ot e ags ts es)=kd:=rfl
@[simp] theorem Mx (kd va ot:Int) (e:D) (ags ts es:List D):Aq (sD kd va ot e ags ts es)=va:=rfl
@[simp] theorem L4 (kd va ot:Int) (e:D) (ags ts es:List D):Ac (sD kd va ot e ags ts es)=ot:=rfl
@[simp] theorem Mu (kd va ot:Int) (e:D) (ags ts es:List D):Ao (sD kd va ot e ags ts es)=e:=rfl
@[simp] theorem Mw (kd va ot:Int) (e:D) (ags ts es:List D):Ak (sD kd va ot e ags ts es)=ags:=rfl
@[simp] theorem Ms (kd va ot:Int) (e:D) (ags ts es:List D):Ae (sD kd va ot e ags ts es)=ts:=rfl
@[simp] theorem Mv (kd va ot:Int) (e:D) (ags ts es:List D):Aj (sD kd va ot e ags ts es)=es:=rfl
abbrev sC (kd va ot ek en:Int) (xa:Option Addr) (xl xc:Nat) (aa:Option Addr) (al ac:Nat) (ta:Option Addr) (tl tc:Nat) (ea:Option Addr) (el ec:Nat):List Value:=
 [zd U kd,zd U va,zd U ot,zd U ek,zd U en,O xa xl xc,O aa al ac,O ta tl tc,O ea el ec]
theorem RS.form {w:World} {K k:Nat} {cs:List Value} {d:D} (h:RS w K (k+1) cs d) :
  ∃ (ek en:Int) (xa:Option Addr) (xl xc:Nat) (aa:Option Addr) (ac:Nat) (ta:Option Addr) (tc:Nat) (ea:Option Addr) (ec:Nat),
   cs=sC (Ad d) (Aq d) (Ac d) ek en xa xl xc aa (Ak d).length ac ta (Ae d).length tc ea (Aj d).length ec/\Bd (Ad d)/\Bd (Aq d)/\Bd (Ac d) /\
   RX w K [zd U ek,zd U en,O xa xl xc] (Ao d)/\XS 3 (RX w K) w (O aa (Ak d).length ac) (Ak d)/\AC w K k (O ta (Ae d).length tc) (Ae d)/\AC w K k (O ea (Aj d).length ec) (Aj d) /\
   ek=Au (Ao d)/\en=AG (Ao d)/\xl=(Ax (Ao d)).length:=by
 obtain ⟨kd,va,ot,x0,x1,x2,e,vA,ags,vT,ts,vE,es,rfl,rfl,h1,h2,h3,he,hA,hT,hE⟩:=h
 obtain ⟨xa,xc,hx⟩:=he.form
 simp only [List.cons.injEq,and_true] at hx
 obtain ⟨rfl,rfl,rfl⟩:=hx
 obtain ⟨aa,ac,rfl,-⟩:=hA.2
 obtain ⟨ta,tc,rfl,-⟩:=hT.2
 obtain ⟨ea,ec,rfl,-⟩:=hE.2
 exact ⟨_,_,xa,_,xc,aa,ac,ta,tc,ea,ec,rfl,h1,h2,h3,he,hA,hT,hE,rfl,rfl,rfl⟩
def A5:Nat->D->Nat
 | 0,_=>0
 | k+1,d=>1+((Ae d).map (A5 k)).sum+((Aj d).map (A5 k)).sum
def Ai (k:Nat) (l:List D):Nat:=(l.map (A5 k)).sum
theorem De {k:Nat} {l:List D} {j:Nat} (hj:j < l.length):Ai k (l.take (j+1))=Ai k (l.take j)+A5 k l[j]:=by
 unfold Ai
 rw [List.take_succ_eq_append_getElem hj,List.map_append,List.sum_append]
 simp
theorem AC.zero {w:World} {K:Nat} {v:Value} {l:List D} (h:AC w K 0 v l):l=[]:=by
 cases l with
 | nil=>rfl
 | cons d l=>
  obtain ⟨-,ao,cap,-,hc⟩:=h
  obtain ⟨b,off,-,hel⟩:=hc (by simp)
  obtain ⟨cs,-,-,hr⟩:=hel 0 d rfl
  exact hr.elim
def Am (k:Nat) (fs:List FnD):Nat:=(fs.map fun f=>Ai k f.body).sum
theorem B7 {k:Nat} {l:List FnD} {j:Nat} (hj:j < l.length):Am k (l.take (j+1))=Am k (l.take j)+Ai k l[j].body:=by
 unfold Am
 rw [List.take_succ_eq_append_getElem hj,List.map_append,List.sum_append]
 simp
def Bw (ok:Prop) (w:World) (e:Ending) (w':World):Prop:=((ok/\e=zh (zj #[]))\/∃ why:Int,why≠0/\e=Ah why)/\Ov w w'
theorem FP (w:World):Calls Tryz.prog 243 #[zd U 1] w fun e w'=>e=zh (zj #[zg #[ze true,ze false,ze true,ze false,ze false,ze false],ze true])/\Ov w w':=by
 go_enter Tryz.func243,Tryz.ntmps243
 go_wp2_with fail
 exact bodyPost_ret (v:=zj #[zg #[ze true,ze false,ze true,ze false,ze false,ze false],ze true]) (by simp [results,Tryz.results243,go_sem]) rfl ⟨rfl,bA w _⟩
theorem FO (w:World):Calls Tryz.prog 243 #[zd U 2] w fun e w'=>e=zh (zj #[zg #[ze true,ze true,ze false,ze true,ze false,ze false],ze true])/\Ov w w':=by
 go_enter Tryz.func243,Tryz.ntmps243
 go_wp2_with fail
 exact bodyPost_ret (v:=zj #[zg #[ze true,ze true,ze false,ze true,ze false,ze false],ze true]) (by simp [results,Tryz.results243,go_sem]) rfl ⟨rfl,bA w _⟩
theorem FN (w:World):Calls Tryz.prog 243 #[zd U 3] w fun e w'=>e=zh (zj #[zg #[ze true,ze true,ze false,ze false,ze false,ze false],ze true])/\Ov w w':=by
 go_enter Tryz.func243,Tryz.ntmps243
 go_wp2_with fail
 exact bodyPost_ret (v:=zj #[zg #[ze true,ze true,ze false,ze false,ze false,ze false],ze true]) (by simp [results,Tryz.results243,go_sem]) rfl ⟨rfl,bA w _⟩
theorem FM (w:World):Calls Tryz.prog 243 #[zd U 4] w fun e w'=>e=zh (zj #[zg #[ze false,ze true,ze true,ze false,ze false,ze false],ze true])/\Ov w w':=by
 go_enter Tryz.func243,Tryz.ntmps243
 go_wp2_with fail
 exact bodyPost_ret (v:=zj #[zg #[ze false,ze true,ze true,ze false,ze false,ze false],ze true]) (by simp [results,Tryz.results243,go_sem]) rfl ⟨rfl,bA w _⟩
theorem FL (w:World):Calls Tryz.prog 243 #[zd U 5] w fun e w'=>e=zh (zj #[zg #[ze true,ze false,ze true,ze false,ze false,ze false],ze true])/\Ov w w':=by
 go_enter Tryz.func243,Tryz.ntmps243
 go_wp2_with fail
 exact bodyPost_ret (v:=zj #[zg #[ze true,ze false,ze true,ze false,ze false,ze false],ze true]) (by simp [results,Tryz.results243,go_sem]) rfl ⟨rfl,bA w _⟩
theorem FK (w:World):Calls Tryz.prog 243 #[zd U 6] w fun e w'=>e=zh (zj #[zg #[ze true,ze false,ze true,ze false,ze false,ze false],ze true])/\Ov w w':=by
 go_enter Tryz.func243,Tryz.ntmps243
 go_wp2_with fail
 exact bodyPost_ret (v:=zj #[zg #[ze true,ze false,ze true,ze false,ze false,ze false],ze true]) (by simp [results,Tryz.results243,go_sem]) rfl ⟨rfl,bA w _⟩
theorem FJ (w:World):Calls Tryz.prog 243 #[zd U 7] w fun e w'=>e=zh (zj #[zg #[ze false,ze false,ze true,ze false,ze true,ze true],ze true])/\Ov w w':=by
 go_enter Tryz.func243,Tryz.ntmps243
 go_wp2_with fail
 exact bodyPost_ret (v:=zj #[zg #[ze false,ze false,ze true,ze false,ze true,ze true],ze true]) (by simp [results,Tryz.results243,go_sem]) rfl ⟨rfl,bA w _⟩
theorem FI (w:World):Calls Tryz.prog 243 #[zd U 8] w fun e w'=>e=zh (zj #[zg #[ze false,ze false,ze true,ze false,ze true,ze false],ze true])/\Ov w w':=by
 go_enter Tryz.func243,Tryz.ntmps243
 go_wp2_with fail
 exact bodyPost_ret (v:=zj #[zg #[ze false,ze false,ze true,ze false,ze true,ze false],ze true]) (by simp [results,Tryz.results243,go_sem]) rfl ⟨rfl,bA w _⟩
theorem DX (k:Int) (hk:¬ (1<=k/\k<=8)) (w:World):Calls Tryz.prog 243 #[zd U k] w fun e w'=>e=zh (zj #[zg #[ze false,ze false,ze false,ze false,ze false,ze false],ze false])/\Ov w w':=by
 have b1:(k == 1)=false:=by simp;omega
 have b2:(k == 2)=false:=by simp;omega
 have b3:(k == 3)=false:=by simp;omega
 have b4:(k == 4)=false:=by simp;omega
 have b5:(k == 5)=false:=by simp;omega
 have b6:(k == 6)=false:=by simp;omega
 have b7:(k == 7)=false:=by simp;omega
 have b8:(k == 8)=false:=by simp;omega
 clear hk
 go_enter Tryz.func243,Tryz.ntmps243
 go_wp2_with fail
 exact bodyPost_ret (v:=zj #[zg #[ze false,ze false,ze false,ze false,ze false,ze false],ze false]) (by simp [results,Tryz.results243,go_sem]) rfl ⟨rfl,bA w _⟩
theorem AO (k:Int) (funcs:Int) (m:Int) (ga gn gc sa sn sc ya yn yc oa on oc va vn vc fa fn fc ba bn bc) (w:World):Calls Tryz.prog 244 #[zg #[zd U m,O ga gn gc,O sa sn sc,O ya yn yc,O oa on oc,O va vn vc,O fa fn fc,O ba bn bc],zd U k,zd U funcs] w fun e w'=>e=zh (zd U (if k=2 then funcs else if k=3 then yn else on))/\Ov w w':=by
 have hbel:Ov w (w.alloc (zf #[zd U m,O ga gn gc,O sa sn sc,O ya yn yc,O oa on oc,O va vn vc,O fa fn fc,O ba bn bc] 184)):=bA w _
 by_cases h2:k=2
 ·subst h2
  go_enter Tryz.func244,Tryz.ntmps244
  go_wp2_with fail
  go_ret
  exact ⟨rfl,hbel⟩
 ·by_cases h3:k=3
  ·subst h3
   go_enter Tryz.func244,Tryz.ntmps244
   go_wp2_with fail
   go_ret
   exact ⟨rfl,hbel⟩
  ·rw [if_neg h2,if_neg h3]
   go_enter Tryz.func244,Tryz.ntmps244
   go_wp2_with fail
   go_ret
   exact ⟨rfl,hbel⟩
def Dh (K:Nat) (nv ni no:Nat) (funcs:Int) (fs:List FnD) (d:D):Prop:=
 (1<=Ad d/\Ad d<=8)/\((Ad d=1\/Ad d=2\/Ad d=3\/Ad d=5\/Ad d=6)->0<=Aq d/\Aq d < nv) /\
 (Ad d=2->(0<=Ac d/\Ac d < funcs)/\(∀ f,fs[(Ac d).toNat]? = some f->f.ps.length=(Ak d).length)/\∀ a∈Ak d,Al nv K a=0) /\
 (Ad d=3->0<=Ac d/\Ac d < ni)/\((Ad d=1\/4<=Ad d)->Al nv K (Ao d)=0)/\((Ad d=2\/Ad d=3)->Au (Ao d)=0/\Ax (Ao d)=[])/\(Ad d=4->0<=Ac d/\Ac d < no)
def okS (K:Nat) (nv ni no:Nat) (funcs:Int) (fs:List FnD):Nat->D->Prop
 | 0,_=>False
 | k+1,d=>Dh K nv ni no funcs fs d/\(∀ s∈Ae d,okS K nv ni no funcs fs k s)/\∀ s∈Aj d,okS K nv ni no funcs fs k s
theorem Bw.imp {p q:Prop} {w:World} {e:Ending} {w':World} (h:Bw p w e w') (hpq:p->q):Bw q w e w':=by
 obtain ⟨h,hB⟩:=h
 refine ⟨?_,hB⟩
 rcases h with ⟨hp,he⟩ | h
 ·exact Or.inl ⟨hpq hp,he⟩
 ·exact Or.inr h
theorem AP.mono {w:World} {K k m:Nat} {v:Value} {l:List FnD} (h:AP w K k v l) (hkm:k<=m):AP w K m v l:=by
 obtain ⟨hm,ao,cap,hv,hc⟩:=h
 refine ⟨hm,ao,cap,hv,fun hne=>?_⟩
 obtain ⟨b,off,hao,hel⟩:=hc hne
 refine ⟨b,off,hao,fun i hi=>?_⟩
 obtain ⟨vP,vB,x0,x1,x2,h0,h1,h2,h3,h4,hp,hpl,hs,hx⟩:=hel i hi
 exact ⟨vP,vB,x0,x1,x2,h0,h1,h2,h3,h4,hp,hpl,XS.mono hs (fun _ _ hh=>hh) (fun cs d _ hh=>RS.mono (fun _ _ q=>q) k m cs d hkm hh),hx⟩
theorem Ar.prefix {w:World} {ao:Option Addr} {cap:Nat} {vs:List Int} (h:Ar w (O ao vs.length cap) vs) {i:Nat} (hi:i<=vs.length) (c:Nat):Ar w (O ao i c) (vs.take i):=by
 obtain ⟨a2,c2,he,hc⟩:=h
 injection he with e1 e2 e3
 subst e1
 refine ⟨ao,c,by simp [Nat.min_eq_left hi],fun hne=>?_⟩
 obtain ⟨b,off,hao,hel⟩:=hc (by rintro rfl;simp at hne)
 refine ⟨b,off,hao,fun j hj=>?_⟩
 have hj2:j < vs.length:=by simp at hj;omega
 rw [List.getElem_take]
 exact hel j hj2
def okF (K:Nat) (nv ni no:Nat) (ahead:Int) (fs:List FnD) (k:Nat) (f:FnD):Prop:=
 f.ps.length<=4/\(∀ p∈f.ps,0<=p/\p < nv)/\(∀ s∈f.body,okS K nv ni no ahead fs k s)/\Al nv K f.res=0
end Go.Proofs.YtfffpjkcfnekaaaGreat.Ex
