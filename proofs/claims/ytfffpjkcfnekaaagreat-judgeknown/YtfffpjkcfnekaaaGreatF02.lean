/- Package label: Check and Level keep their contracts. -/
import Derived.Test.YtfffpjkcfnekaaaGreatF01
import Derived.Deep.QuietTactic
import Derived.BigQuiet
import Derived.Deep.RegionHeld2
import Derived.Deep.RegionHeld3
import Derived.Deep.DrawnRows
import Derived.RangeFuncNested
import Derived.RangeFuncBound
import Derived.RangeFuncCalls
import Derived.RangeFuncLeaves
import Derived.Shelf.Abstract
import Derived.Shelf.RegionOpen
import Derived.WalkKit
import Derived.OwnWalkIn
import Derived.TacticsInMore
import Derived.LoopNIn
import Derived.LoopIn
set_option linter.unusedVariables false
set_option maxHeartbeats 8000000
set_option maxRecDepth 100000
namespace Go.Proofs.YtfffpjkcfnekaaaGreat
open Go.RowKit
open Go.Value renaming slice -> O, int -> U, bool -> zg, agg -> zh, pointer -> zj, tuple -> zm
open Go.IntKind renaming i64 -> zd
open Go.Obj renaming cells -> ze
open Go.Ending renaming returned -> zk
theorem AM {w:World} {v:Value} {ps:List Pol} (h:AI w v ps):∃ a n c,v=O a n c:=by
 obtain ⟨a,c,e,_⟩:=h
 exact ⟨a,_,c,e⟩
theorem Co {w:World} {v:Value} {gs:List (Int × Int)} (h:AG w v gs):∃ a n c,v=O a n c:=by
 obtain ⟨a,c,e,_⟩:=h
 exact ⟨a,_,c,e⟩
theorem JK:M0:=by
 intro m v gs pr pw bl w hv hp hq
 have hbel:Ov w ((w.alloc (ze #[U zd m,v] 24)).alloc (ze #[pr,pw] 39)):=(bA w _).alloc (by simp) _
 have hC:=fun (W:World) (hB:Ov w W)=>check_any m v gs W (Af hv hB)
 have hP:=fun (W:World) (hB:Ov w W)=>DB m v pr bl.r W (Ah hp hB)
 have hQ:=fun (W:World) (hB:Ov w W)=>DB m v pw bl.w W (Ah hq hB)
 have hE:Bq m gs bl=if AQ m gs=0 then (if Ci m bl.r=0 then Ci m bl.w else Ci m bl.r) else AQ m gs:=rfl
 obtain ⟨r,hr⟩:=nm (AQ m gs)
 obtain ⟨p1,hp1⟩:=nm (Ci m bl.r)
 obtain ⟨p2,hp2⟩:=nm (Ci m bl.w)
 rw [<-hr,<-hp1,<-hp2] at hE
 rw [<-hr] at hC
 rw [<-hp1] at hP
 rw [<-hp2] at hQ
 obtain ⟨va,vn,vc,rfl⟩:=Co hv
 obtain ⟨pa,pn,pc,rfl⟩:=AM hp
 obtain ⟨qa,qn,qc,rfl⟩:=AM hq
 have KC:=Aa hC
 have KP:=Aa hP
 have KQ:=Aa hQ
 have HE:=Aa hE
 clear hC hP hQ hE hr hp1 hp2 hv hp hq
 go_enter Tryz.func48,Tryz.ntmps48
 go_wp2_with fail
 refine (KC.o _ hbel).mono ?_
 rintro e w1 ⟨rfl,hb1⟩
 obtain ⟨hc,hf⟩:=Ap hb1
 have c0:w1.cell? ⟨w.heap.size,0,none⟩=some (U zd m):=by rw [hc _ _ (by simp;omega)];simp [go_sem]
 have c1:w1.cell? ⟨w.heap.size,1,none⟩=some (O va vn vc):=by rw [hc _ _ (by simp;omega)];simp [go_sem]
 have c2:w1.cell? ⟨w.heap.size+1,0,none⟩=some (O pa pn pc):=by rw [hc _ _ (by simp)];simp [go_sem]
 have c3:w1.cell? ⟨w.heap.size+1,1,none⟩=some (O qa qn qc):=by rw [hc _ _ (by simp)];simp [go_sem]
 have hB1:Ov w w1:=hbel.trans (hb1.mono (by simp;omega))
 clear hc hf hb1 hbel KC
 by_cases hr0:r=0
 ·subst hr0
  go_wp2_with fail
  refine (KP.o _ hB1).mono ?_
  rintro e w2 ⟨rfl,hb2⟩
  have ltw:=bL c0
  have ltp:=bL c2
  obtain ⟨hc,hf⟩:=Ap hb2
  have d0:w2.cell? ⟨w.heap.size,0,none⟩=some (U zd m):=by rw [hc _ _ ltw];exact c0
  have d1:w2.cell? ⟨w.heap.size,1,none⟩=some (O va vn vc):=by rw [hc _ _ ltw];exact c1
  have d3:w2.cell? ⟨w.heap.size+1,1,none⟩=some (O qa qn qc):=by rw [hc _ _ ltp];exact c3
  have hB2:Ov w w2:=hB1.trans (hb2.mono hB1.size)
  clear hc hf hb2 hB1 c0 c1 c2 c3 KP
  by_cases hp0:p1=0
  ·subst hp0
   go_wp2_with fail
   refine (KQ.o _ hB2).mono ?_
   rintro e w3 ⟨rfl,hb3⟩
   have hB3:Ov w w3:=hB2.trans (hb3.mono hB2.size)
   clear d0 d1 d3 hb3 KQ
   go_wp2_with fail
   go_ret
   exact ⟨by rw [HE.o];simp,hB3⟩
  ·have hne:(p1 != 0)=true:=by simpa using hp0
   go_wp2_with fail
   go_ret
   exact ⟨by rw [HE.o];simp [hp0],hB2⟩
 ·have hne:(r != 0)=true:=by simpa using hr0
  go_wp2_with fail
  go_ret
  exact ⟨by rw [HE.o];simp [hr0],hB1⟩
def Ae (W:World) (b n:Nat) (l:List Bool):Prop:=l.length=n/\∀ i (h:i < l.length),W.cell? ⟨b,i,none⟩=some (zg l[i])
theorem Ee {W W':World} {b n:Nat} {l:List Bool} (h:Ae W b n l) (hb:Ov W W'):Ae W' b n l:=
 ⟨h.1,fun i hi=>by rw [(Ap hb).1 _ _ (bL (h.2 i hi))];exact h.2 i hi⟩
theorem Hd (b kb n:Nat) (l:List Bool) (x:Int) (W:World) (hn:n<=6) (hx:0<=x/\x < n) (h0:W.cell? ⟨b,0,none⟩=some (O (some ⟨kb,0,none⟩) n n)) (hr:Ae W kb n l) :
  Calls Tryz.prog 128 #[U zd x,zj (some ⟨b,0,none⟩)] W fun e w'=>e=zk (zg (l[x.toNat]?.getD false))/\Ov W w':=by
 obtain ⟨k,rfl⟩:∃ k:Nat,x=k:=⟨x.toNat,by omega⟩
 have hk:k < l.length:=by rw [hr.1];omega
 have q:=hr.2 k hk
 have hx2:l[(k:Int).toNat]?.getD false=l[k]:=by simp [hk]
 rw [hx2]
 obtain ⟨y,hy⟩:=nm (l[k])
 rw [<-hy] at q ⊢
 clear hy hx2 hr
 go_enter Tryz.func128,Tryz.ntmps128
 go_wp2_with fail
 go_ret
 exact ⟨by simp,Below.refl _ W⟩
def GL (l:List Bool) (p:Pol):Bool:=(l[p.owner.toNat]?.getD false) || p.names.any (fun x=>l[x.toNat]?.getD false)
theorem Et (kb n:Nat) (l:List Bool) (vp:Value) (ps:List Pol) (w:World) (hn:n<=6) (hr:Ae w kb n l) (hp:AI w vp ps) (hps:ps.length<=4/\∀ p∈ps,Er n p) :
  Calls Tryz.prog 72 #[O (some ⟨kb,0,none⟩) n n,vp] w fun e w'=>e=zk (zg (ps.all (GL l)))/\Ov w w':=by
 have HP:=Aa hp
 obtain ⟨ao,cap,rfl,-⟩:=hp
 have hbel:Ov w (w.alloc (ze #[O (some ⟨kb,0,none⟩) n n] 48)):=bA w _
 have KA:=Aa fun (x:Int) (W:World) (hx:0<=x/\x < n) (hB:Ov w W) (h0:W.cell? ⟨w.heap.size,0,none⟩=some (O (some ⟨kb,0,none⟩) n n))=>Hd w.heap.size kb n l x W hn hx h0 (Ee hr hB)
 have hl4:=hps.1
 have HPS:=Aa hps.2
 clear hps hr
 go_enter Tryz.func72,Tryz.ntmps72
 go_wp2_with fail
 go_loopw [11] (fun i wr=>∃ k:Nat,k<=ps.length/\i=U zd k/\(ps.take k).all (GL l)=true/\Ov w wr/\wr.cell? ⟨w.heap.size,0,none⟩=some (O (some ⟨kb,0,none⟩) n n)) (fun i _=>ps.length - (intOf i).toNat)
 case atStart=>exact ⟨0,Nat.zero_le _,rfl,rfl,hbel,by simp [go_sem]⟩
 case round=>
  obtain ⟨k,hk,rfl,hall,hbw,c0⟩:=hrel
  by_cases hkl:k < ps.length
  ·obtain ⟨b,off,cap',nv,hve,q0,q1,q2⟩:=Gs (Ah HP.o hbw) hkl
   injection hve with e1 e2 e3
   subst e1 e3
   clear e2
   obtain ⟨hown,hnm6,hnms⟩:=HPS.o ps[k] (List.getElem_mem hkl)
   have hpr:GL l ps[k]=((l[ps[k].owner.toNat]?.getD false) || ps[k].names.any (fun x=>l[x.toNat]?.getD false)):=rfl
   have hnext:GL l ps[k]=true->(ps.take (k+1)).all (GL l)=true:=fun h=>by
    rw [List.take_succ_eq_append_getElem hkl,List.all_append,hall]
    simp [h]
   have hstop:GL l ps[k]=false->ps.all (GL l)=false:=fun h=>by
    rw [List.all_eq_false]
    exact ⟨ps[k],List.getElem_mem hkl,by simp [h]⟩
   have hal:Ov wr (wr.alloc (ze #[U zd ps[k].owner,nv] 87)):=bA wr _
   have hO:=fun (W:World) (hB:Ov w W) (h0:W.cell? ⟨w.heap.size,0,none⟩=some (O (some ⟨kb,0,none⟩) n n))=>KA.o ps[k].owner W hown hB h0
   have hN:=fun (W:World) (hB:Ov w W) (hB2:Ov wr W) (h0:W.cell? ⟨w.heap.size,0,none⟩=some (O (some ⟨kb,0,none⟩) n n))=>DC 128 (zj (some ⟨w.heap.size,0,none⟩)) (fun x=>l[x.toNat]?.getD false) nv ps[k].names W (BF q2 hB2) hnm6 (Aa fun i hi w1 hb=>KA.o ps[k].names[i] w1 (hnms _ (List.getElem_mem hi)) (hB.trans (hb.mono hB.size)) (by rw [(Ap hb).1 _ _ (bL h0)];exact h0)) Oe
   obtain ⟨x1,hx1⟩:=nm (l[ps[k].owner.toNat]?.getD false)
   obtain ⟨x2,hx2⟩:=nm (ps[k].names.any (fun x=>l[x.toNat]?.getD false))
   obtain ⟨ow,how⟩:=nm (ps[k].owner)
   rw [<-hx1,<-hx2] at hpr
   rw [hpr] at hnext hstop
   rw [<-hx1] at hO
   rw [<-hx2] at hN
   rw [<-how] at q0 hal hO
   obtain ⟨na,nn,nc,hnv⟩:∃ a n c,nv=O a n c:=by obtain ⟨a,c,e,_⟩:=q2;exact ⟨a,_,c,e⟩
   subst hnv
   have HN:=Aa hnext
   have HS:=Aa hstop
   have KO:=Aa hO
   have KN:=Aa hN
   have hbw2:=hbw.trans (hal.mono hbw.size)
   have ltw:=bL c0
   have ltb:=bL q0
   have c0':(wr.alloc (ze #[U zd ow,O na nn nc] 87)).cell? ⟨w.heap.size,0,none⟩=some (O (some ⟨kb,0,none⟩) n n):=by rw [(Ap hal).1 _ _ ltw];exact c0
   have HC0:=Aa c0'
   clear hx1 hx2 how hpr hnext hstop hO hN hall q2 c0' hown hnm6 hnms
   cases x1 with
   | true=>
    go_wp2_with fail
    refine (KO.o _ hbw2 HC0.o).mono ?_
    rintro e w2 ⟨rfl,hb2⟩
    have hb3:=hbw2.trans (hb2.mono hbw2.size)
    have d0:w2.cell? ⟨w.heap.size,0,none⟩=some (O (some ⟨kb,0,none⟩) n n):=by rw [(Ap hb2).1 _ _ (bL HC0.o)];exact HC0.o
    clear hb2 hbw2 c0 q0 q1 HC0
    go_wp2_with fail
    exact ⟨⟨k+1,by omega,by go_num,HN.o (by simp),hb3,d0⟩,by simp [intOf];omega⟩
   | false=>
    go_wp2_with fail
    refine (KO.o _ hbw2 HC0.o).mono ?_
    rintro e w2 ⟨rfl,hb2⟩
    have hb3:=hbw2.trans (hb2.mono hbw2.size)
    have d0:w2.cell? ⟨w.heap.size,0,none⟩=some (O (some ⟨kb,0,none⟩) n n):=by rw [(Ap hb2).1 _ _ (bL HC0.o)];exact HC0.o
    have d1:w2.cell? ⟨wr.heap.size,1,none⟩=some (O na nn nc):=by rw [(Ap hb2).1 _ _ (by simp)];simp [go_sem]
    have hb4:Ov wr w2:=hal.trans (hb2.mono (by simp))
    clear hb2 hbw2 c0 q0 q1 HC0
    go_wp2_with fail
    refine (KN.o _ hb3 hb4 d0).mono ?_
    rintro e w3 ⟨rfl,hb5⟩
    have hb6:=hb3.trans (hb5.mono hb3.size)
    have f0:w3.cell? ⟨w.heap.size,0,none⟩=some (O (some ⟨kb,0,none⟩) n n):=by rw [(Ap hb5).1 _ _ (bL d0)];exact d0
    clear hb5 hb3 d0 d1 hb4 KN KO
    cases x2 with
    | true=>
     go_wp2_with fail
     exact ⟨⟨k+1,by omega,by go_num,HN.o (by simp),hb6,f0⟩,by simp [intOf];omega⟩
    | false=>
     go_wp2_with fail
     go_ret
     exact ⟨by rw [HS.o (by simp)];rfl,hb6⟩
  ·have hke:k=ps.length:=by omega
   have hz:ps.all (GL l)=true:=by rw [hke,List.take_length] at hall;exact hall
   have HZ:=Aa hz
   clear hz hall c0
   go_wp2_with fail
   go_ret
   exact ⟨by rw [HZ.o];rfl,hbw⟩
end Go.Proofs.YtfffpjkcfnekaaaGreat
namespace Go.Proofs.YtfffpjkcfnekaaaGreat.Ex
open Go.RowKit
open Go.Value renaming slice -> O, int -> U, bool -> zg, agg -> zh, pointer -> zj, tuple -> zm
open Go.IntKind renaming i64 -> zd
open Go.Obj renaming cells -> ze
open Go.Ending renaming returned -> zk
def sD (kd va ot:Int) (e:D) (ags ts es:List D):D:=.agg [.lit (.int zd kd),.lit (.int zd va),.lit (.int zd ot),e,.slice ags [],.slice ts [],.slice es []]
def Ak:D->Int
 | .agg (.lit (.int _ n)::_)=>n
 | _=>0
def AJ:D->Int
 | .agg (_::.lit (.int _ n)::_)=>n
 | _=>0
def Ag:D->Int
 | .agg (_::_::.lit (.int _ n)::_)=>n
 | _=>0
def AR:D->D
 | .agg (_::_::_::e::_)=>e
 | d=>d
def An:D->List D
 | .agg (_::_::_::_::.slice l _::_)=>l
 | _=>[]
def Ar:D->List D
 | .agg (_::_::_::_::_::.slice l _::_)=>l
 | _=>[]
def Av:D->List D
 | .agg (_::_::_::_::_::_::.slice l _::_)=>l
 | _=>[]
def RS (w:World) (K:Nat):Nat->List Value->D->Prop
 | 0,_,_=>False
 | k+1,cs,d=>∃ (kd va ot:Int) (x0 x1 x2:Value) (e:D) (vA:Value) (ags:List D) (vT:Value) (ts:List D) (vE:Value) (es:List D),
   cs=[U zd kd,U zd va,U zd ot,x0,x1,x2,vA,vT,vE]/\d=sD kd va ot e ags ts es/\Ch kd/\Ch va/\Ch ot/\RX w K [x0,x1,x2] e/\XS 3 (RX w K) w vA ags/\XS 9 (RS w K k) w vT ts/\XS 9 (RS w K k) w vE es
theorem RS.mono {w w':World} {K:Nat} (hw:∀ a u,w.cell? a=some u->w'.cell? a=some u) :
  ∀ (k m:Nat) (cs:List Value) (d:D),k<=m->RS w K k cs d->RS w' K m cs d:=by
 intro k
 induction k with
 | zero=>intro m cs d _ h;exact h.elim
 | succ k ih=>
  intro m cs d hkm h
  obtain ⟨m',rfl⟩:∃ m',m=m' + 1:=⟨m - 1,by omega⟩
  obtain ⟨kd,va,ot,x0,x1,x2,e,vA,ags,vT,ts,vE,es,hcs,hd,h1,h2,h3,he,hA,hT,hE⟩:=h
  exact ⟨kd,va,ot,x0,x1,x2,e,vA,ags,vT,ts,vE,es,hcs,hd,h1,h2,h3,RX.mono hw K K _ e (Nat.le_refl _) he,
   hA.mono hw (fun cs d _ hh=>RX.mono hw K K cs d (Nat.le_refl _) hh),hT.mono hw (fun cs d _ hh=>ih m' cs d (by omega) hh),hE.mono hw (fun cs d _ hh=>ih m' cs d (by omega) hh)⟩
def Bc (w:World) (K k:Nat) (v:Value) (l:List D):Prop:=XS 9 (RS w K k) w v l
theorem Bc.over {w w':World} {K k:Nat} {v:Value} {l:List D} (h:Bc w K k v l) (hb:Ov w w'):Bc w' K k v l:=
 XS.mono h (Ab hb) (fun cs d _ hh=>RS.mono (Ab hb) k k cs d (Nat.le_refl _) hh)
structure FnD where
 ps:List Int
 body:List D
 res:D
def EB (fs:List FnD) (c:Int):FnD:=fs.getD c.toNat ⟨[],[],.agg []⟩
def MT (v:Value) (ps:List Int):Prop:=ps.length<=maxLen/\∃ pa pc,v=O pa ps.length pc/\ps.length<=pc/\pc<=maxLen
def BA (w:World) (K k:Nat) (v:Value) (fs:List FnD):Prop:=
 fs.length<=maxLen/\∃ ao cap,v=O ao fs.length cap/\(fs≠[]->∃ b off,ao=some ⟨b,off,none⟩/\∀ i (h:i < fs.length),∃ (vP vB x0 x1 x2:Value),
  w.cell? ⟨b,off+i*5,none⟩=some vP/\w.cell? ⟨b,off+i*5+1,none⟩=some vB/\w.cell? ⟨b,off+i*5+2,none⟩=some x0/\w.cell? ⟨b,off+i*5+3,none⟩=some x1/\w.cell? ⟨b,off+i*5+4,none⟩=some x2 /\
  AL w vP fs[i].ps/\MT vP fs[i].ps/\Bc w K k vB fs[i].body/\RX w K [x0,x1,x2] fs[i].res)
theorem BA.over {w w':World} {K k:Nat} {v:Value} {l:List FnD} (h:BA w K k v l) (hb:Ov w w'):BA w' K k v l:=by
 obtain ⟨hm,ao,cap,hv,hc⟩:=h
 refine ⟨hm,ao,cap,hv,fun hne=>?_⟩
 obtain ⟨b,off,hao,hel⟩:=hc hne
 refine ⟨b,off,hao,fun i hi=>?_⟩
 obtain ⟨vP,vB,x0,x1,x2,h0,h1,h2,h3,h4,hp,hpl,hs,hx⟩:=hel i hi
 exact ⟨vP,vB,x0,x1,x2,Ab hb _ _ h0,Ab hb _ _ h1,Ab hb _ _ h2,Ab hb _ _ h3,Ab hb _ _ h4,hp.over hb,hpl,hs.over hb,hx.over hb⟩
def A9 (w:World) (v:Value) (ls:List Lab):Prop:=
 ls.length<=maxLen/\∃ ao cap,v=O ao ls.length cap/\(ls≠[]->∃ b off,ao=some ⟨b,off,none⟩/\∀ i (h:i < ls.length),∃ (pr pw:Value),
  w.cell? ⟨b,off+i*2,none⟩=some pr/\w.cell? ⟨b,off+i*2+1,none⟩=some pw/\AI w pr ls[i].r/\AI w pw ls[i].w)
theorem A9.over {w w':World} {v:Value} {l:List Lab} (h:A9 w v l) (hb:Ov w w'):A9 w' v l:=by
 obtain ⟨hm,ao,cap,hv,hc⟩:=h
 refine ⟨hm,ao,cap,hv,fun hne=>?_⟩
 obtain ⟨b,off,hao,hel⟩:=hc hne
 refine ⟨b,off,hao,fun i hi=>?_⟩
 obtain ⟨pr,pw,h0,h1,hr,hw⟩:=hel i hi
 exact ⟨pr,pw,Ab hb _ _ h0,Ab hb _ _ h1,Ah hr hb,Ah hw hb⟩
def Bo (w:World) (v:Value) (ls:List (Bool × Lab)):Prop:=
 ls.length<=maxLen/\∃ ao cap,v=O ao ls.length cap/\(ls≠[]->∃ b off,ao=some ⟨b,off,none⟩/\∀ i (h:i < ls.length),∃ (pr pw:Value),
  w.cell? ⟨b,off+i*3,none⟩=some (zg ls[i].1)/\w.cell? ⟨b,off+i*3+1,none⟩=some pr/\w.cell? ⟨b,off+i*3+2,none⟩=some pw/\AI w pr ls[i].2.r/\AI w pw ls[i].2.w)
theorem Bo.over {w w':World} {v:Value} {l:List (Bool × Lab)} (h:Bo w v l) (hb:Ov w w'):Bo w' v l:=by
 obtain ⟨hm,ao,cap,hv,hc⟩:=h
 refine ⟨hm,ao,cap,hv,fun hne=>?_⟩
 obtain ⟨b,off,hao,hel⟩:=hc hne
 refine ⟨b,off,hao,fun i hi=>?_⟩
 obtain ⟨pr,pw,h0,h1,h2,hr,hw⟩:=hel i hi
 exact ⟨pr,pw,Ab hb _ _ h0,Ab hb _ _ h1,Ab hb _ _ h2,Ah hr hb,Ah hw hb⟩
def AA (why:Int):Ending:=.panicked [{ v:=.iface 230 (zh #[U zd 0,U zd why]),recovered:=false }]
theorem J7 (why:Int) (w:World):Calls Tryz.prog 215 #[U zd 0,zg false,U zd why] w fun e w'=>e=AA why/\w'=w:=by
 unfold AA
 go_enter Tryz.func215,Tryz.ntmps215
 go_wp2_with fail
 exact ⟨rfl,rfl,rfl⟩
theorem JA (why:Int) (w:World):Calls Tryz.prog 172 #[zg false,U zd why] w fun e w'=>e=AA why/\w'=w:=by
 have K:=Aa fun W=>J7 why W
 unfold AA at K ⊢
 go_enter Tryz.func172,Tryz.ntmps172
 go_wp2_with fail
 refine (K.o _).mono ?_
 rintro e w1 ⟨rfl,rfl⟩
 go_wp2_with fail
 exact ⟨rfl,rfl,rfl⟩
def O9 (ok:Bool) (why:Int) (w:World) (e:Ending) (w':World):Prop:=(ok=true/\e=zk (zm #[])\/ok=false/\e=AA why)/\w'=w
theorem BR (ok:Bool) (why:Int) (w:World):Calls Tryz.prog 172 #[zg ok,U zd why] w (O9 ok why w):=by
 cases ok with
 | true=>exact (BJ why w).mono fun e w' h=>⟨Or.inl ⟨rfl,h.1⟩,h.2⟩
 | false=>exact (JA why w).mono fun e w' h=>⟨Or.inr ⟨rfl,h.1⟩,h.2⟩
theorem Fy (why:Int) (w:World):Calls Tryz.prog 171 #[U zd why] w (O9 (why == 0) why w):=by
 by_cases h:why=0
 ·subst h
  exact (Mk w).mono fun e w' h=>⟨Or.inl ⟨rfl,h.1⟩,h.2⟩
 ·have hb:(why == 0)=false:=by simpa using h
  have K:=Aa fun W=>JA why W
  have H:Calls Tryz.prog 171 #[U zd why] w fun e w'=>e=AA why/\w'=w:=by
   unfold AA at K ⊢
   go_enter Tryz.func171,Tryz.ntmps171
   go_wp2_with fail
   refine (K.o _).mono ?_
   rintro e w1 ⟨rfl,rfl⟩
   go_wp2_with fail
   exact ⟨rfl,rfl,rfl⟩
  exact H.mono fun e w' h=>⟨Or.inr ⟨hb,h.1⟩,h.2⟩
@[simp] theorem Pc (kd va ot:Int) (e:D) (ags ts es:List D):Ak (sD kd va ot e ags ts es)=kd:=rfl
@[simp] theorem Pj (kd va ot:Int) (e:D) (ags ts es:List D):AJ (sD kd va ot e ags ts es)=va:=rfl
@[simp] theorem OL (kd va ot:Int) (e:D) (ags ts es:List D):Ag (sD kd va ot e ags ts es)=ot:=rfl
@[simp] theorem Pd (kd va ot:Int) (e:D) (ags ts es:List D):AR (sD kd va ot e ags ts es)=e:=rfl
@[simp] theorem Pf (kd va ot:Int) (e:D) (ags ts es:List D):An (sD kd va ot e ags ts es)=ags:=rfl
@[simp] theorem Pb (kd va ot:Int) (e:D) (ags ts es:List D):Ar (sD kd va ot e ags ts es)=ts:=rfl
@[simp] theorem Pe (kd va ot:Int) (e:D) (ags ts es:List D):Av (sD kd va ot e ags ts es)=es:=rfl
abbrev sC (kd va ot ek en:Int) (xa:Option Addr) (xl xc:Nat) (aa:Option Addr) (al ac:Nat) (ta:Option Addr) (tl tc:Nat) (ea:Option Addr) (el ec:Nat):List Value:=
 [U zd kd,U zd va,U zd ot,U zd ek,U zd en,O xa xl xc,O aa al ac,O ta tl tc,O ea el ec]
theorem RS.form {w:World} {K k:Nat} {cs:List Value} {d:D} (h:RS w K (k+1) cs d) :
  ∃ (ek en:Int) (xa:Option Addr) (xl xc:Nat) (aa:Option Addr) (ac:Nat) (ta:Option Addr) (tc:Nat) (ea:Option Addr) (ec:Nat),
   cs=sC (Ak d) (AJ d) (Ag d) ek en xa xl xc aa (An d).length ac ta (Ar d).length tc ea (Av d).length ec/\Ch (Ak d)/\Ch (AJ d)/\Ch (Ag d) /\
   RX w K [U zd ek,U zd en,O xa xl xc] (AR d)/\XS 3 (RX w K) w (O aa (An d).length ac) (An d)/\Bc w K k (O ta (Ar d).length tc) (Ar d)/\Bc w K k (O ea (Av d).length ec) (Av d) /\
   ek=AH (AR d)/\en=Ba (AR d)/\xl=(AF (AR d)).length:=by
 obtain ⟨kd,va,ot,x0,x1,x2,e,vA,ags,vT,ts,vE,es,rfl,rfl,h1,h2,h3,he,hA,hT,hE⟩:=h
 obtain ⟨xa,xc,hx⟩:=he.form
 simp only [List.cons.injEq,and_true] at hx
 obtain ⟨rfl,rfl,rfl⟩:=hx
 obtain ⟨aa,ac,rfl,-⟩:=hA.2
 obtain ⟨ta,tc,rfl,-⟩:=hT.2
 obtain ⟨ea,ec,rfl,-⟩:=hE.2
 exact ⟨_,_,xa,_,xc,aa,ac,ta,tc,ea,ec,rfl,h1,h2,h3,he,hA,hT,hE,rfl,rfl,rfl⟩
def CM:Nat->D->Nat
 | 0,_=>0
 | k+1,d=>1+((Ar d).map (CM k)).sum+((Av d).map (CM k)).sum
def A4 (k:Nat) (l:List D):Nat:=(l.map (CM k)).sum
theorem Gy {k:Nat} {l:List D} {j:Nat} (hj:j < l.length):A4 k (l.take (j+1))=A4 k (l.take j)+CM k l[j]:=by
 unfold A4
 rw [List.take_succ_eq_append_getElem hj,List.map_append,List.sum_append]
 simp
theorem Bc.zero {w:World} {K:Nat} {v:Value} {l:List D} (h:Bc w K 0 v l):l=[]:=by
 cases l with
 | nil=>rfl
 | cons d l=>
  obtain ⟨-,ao,cap,-,hc⟩:=h
  obtain ⟨b,off,-,hel⟩:=hc (by simp)
  obtain ⟨cs,-,-,hr⟩:=hel 0 d rfl
  exact hr.elim
def B5 (k:Nat) (fs:List FnD):Nat:=(fs.map fun f=>A4 k f.body).sum
theorem EZ {k:Nat} {l:List FnD} {j:Nat} (hj:j < l.length):B5 k (l.take (j+1))=B5 k (l.take j)+A4 k l[j].body:=by
 unfold B5
 rw [List.take_succ_eq_append_getElem hj,List.map_append,List.sum_append]
 simp
def C4 (ok:Prop) (w:World) (e:Ending) (w':World):Prop:=((ok/\e=zk (zm #[]))\/∃ why:Int,why≠0/\e=AA why)/\Ov w w'
theorem Lr (w:World):Calls Tryz.prog 243 #[U zd 1] w fun e w'=>e=zk (zm #[zh #[zg true,zg false,zg true,zg false,zg false,zg false],zg true])/\Ov w w':=by
 go_enter Tryz.func243,Tryz.ntmps243
 go_wp2_with fail
 exact bodyPost_ret (v:=zm #[zh #[zg true,zg false,zg true,zg false,zg false,zg false],zg true]) (by simp [results,Tryz.results243,go_sem]) rfl ⟨rfl,bA w _⟩
theorem Lq (w:World):Calls Tryz.prog 243 #[U zd 2] w fun e w'=>e=zk (zm #[zh #[zg true,zg true,zg false,zg true,zg false,zg false],zg true])/\Ov w w':=by
 go_enter Tryz.func243,Tryz.ntmps243
 go_wp2_with fail
 exact bodyPost_ret (v:=zm #[zh #[zg true,zg true,zg false,zg true,zg false,zg false],zg true]) (by simp [results,Tryz.results243,go_sem]) rfl ⟨rfl,bA w _⟩
theorem Lp (w:World):Calls Tryz.prog 243 #[U zd 3] w fun e w'=>e=zk (zm #[zh #[zg true,zg true,zg false,zg false,zg false,zg false],zg true])/\Ov w w':=by
 go_enter Tryz.func243,Tryz.ntmps243
 go_wp2_with fail
 exact bodyPost_ret (v:=zm #[zh #[zg true,zg true,zg false,zg false,zg false,zg false],zg true]) (by simp [results,Tryz.results243,go_sem]) rfl ⟨rfl,bA w _⟩
theorem Lo (w:World):Calls Tryz.prog 243 #[U zd 4] w fun e w'=>e=zk (zm #[zh #[zg false,zg true,zg true,zg false,zg false,zg false],zg true])/\Ov w w':=by
 go_enter Tryz.func243,Tryz.ntmps243
 go_wp2_with fail
 exact bodyPost_ret (v:=zm #[zh #[zg false,zg true,zg true,zg false,zg false,zg false],zg true]) (by simp [results,Tryz.results243,go_sem]) rfl ⟨rfl,bA w _⟩
theorem Ln (w:World):Calls Tryz.prog 243 #[U zd 5] w fun e w'=>e=zk (zm #[zh #[zg true,zg false,zg true,zg false,zg false,zg false],zg true])/\Ov w w':=by
 go_enter Tryz.func243,Tryz.ntmps243
 go_wp2_with fail
 exact bodyPost_ret (v:=zm #[zh #[zg true,zg false,zg true,zg false,zg false,zg false],zg true]) (by simp [results,Tryz.results243,go_sem]) rfl ⟨rfl,bA w _⟩
theorem Lm (w:World):Calls Tryz.prog 243 #[U zd 6] w fun e w'=>e=zk (zm #[zh #[zg true,zg false,zg true,zg false,zg false,zg false],zg true])/\Ov w w':=by
 go_enter Tryz.func243,Tryz.ntmps243
 go_wp2_with fail
 exact bodyPost_ret (v:=zm #[zh #[zg true,zg false,zg true,zg false,zg false,zg false],zg true]) (by simp [results,Tryz.results243,go_sem]) rfl ⟨rfl,bA w _⟩
theorem Ll (w:World):Calls Tryz.prog 243 #[U zd 7] w fun e w'=>e=zk (zm #[zh #[zg false,zg false,zg true,zg false,zg true,zg true],zg true])/\Ov w w':=by
 go_enter Tryz.func243,Tryz.ntmps243
 go_wp2_with fail
 exact bodyPost_ret (v:=zm #[zh #[zg false,zg false,zg true,zg false,zg true,zg true],zg true]) (by simp [results,Tryz.results243,go_sem]) rfl ⟨rfl,bA w _⟩
theorem Lk (w:World):Calls Tryz.prog 243 #[U zd 8] w fun e w'=>e=zk (zm #[zh #[zg false,zg false,zg true,zg false,zg true,zg false],zg true])/\Ov w w':=by
 go_enter Tryz.func243,Tryz.ntmps243
 go_wp2_with fail
 exact bodyPost_ret (v:=zm #[zh #[zg false,zg false,zg true,zg false,zg true,zg false],zg true]) (by simp [results,Tryz.results243,go_sem]) rfl ⟨rfl,bA w _⟩
theorem Hn (k:Int) (hk:¬ (1<=k/\k<=8)) (w:World):Calls Tryz.prog 243 #[U zd k] w fun e w'=>e=zk (zm #[zh #[zg false,zg false,zg false,zg false,zg false,zg false],zg false])/\Ov w w':=by
 have b1:(k == 1)=false:=by simp;omega
 have b2:(k == 2)=false:=by simp;omega
 have b3:(k == 3)=false:=by simp;omega
 have b4:(k == 4)=false:=by simp;omega
 have b5:(k == 5)=false:=by simp;omega
 have b6:(k == 6)=false:=by simp;omega
 have b7:(k == 7)=false:=by simp;omega
 have b8:(k == 8)=false:=by simp;omega
 clear hk
 go_enter Tryz.func243,Tryz.ntmps243
 go_wp2_with fail
 exact bodyPost_ret (v:=zm #[zh #[zg false,zg false,zg false,zg false,zg false,zg false],zg false]) (by simp [results,Tryz.results243,go_sem]) rfl ⟨rfl,bA w _⟩
theorem Ca (k:Int) (funcs:Int) (m:Int) (ga gn gc sa sn sc ya yn yc oa on oc va vn vc fa fn fc ba bn bc) (w:World):Calls Tryz.prog 244 #[zh #[U zd m,O ga gn gc,O sa sn sc,O ya yn yc,O oa on oc,O va vn vc,O fa fn fc,O ba bn bc],U zd k,U zd funcs] w fun e w'=>e=zk (U zd (if k=2 then funcs else if k=3 then yn else on))/\Ov w w':=by
 have hbel:Ov w (w.alloc (ze #[U zd m,O ga gn gc,O sa sn sc,O ya yn yc,O oa on oc,O va vn vc,O fa fn fc,O ba bn bc] 184)):=bA w _
 by_cases h2:k=2
 ·subst h2
  go_enter Tryz.func244,Tryz.ntmps244
  go_wp2_with fail
  go_ret
  exact ⟨rfl,hbel⟩
 ·by_cases h3:k=3
  ·subst h3
   go_enter Tryz.func244,Tryz.ntmps244
   go_wp2_with fail
   go_ret
   exact ⟨rfl,hbel⟩
  ·rw [if_neg h2,if_neg h3]
   go_enter Tryz.func244,Tryz.ntmps244
   go_wp2_with fail
   go_ret
   exact ⟨rfl,hbel⟩
def CA (K:Nat) (nv ni no:Nat) (funcs:Int) (fs:List FnD) (d:D):Prop:=
 (1<=Ak d/\Ak d<=8)/\((Ak d=1\/Ak d=2\/Ak d=3\/Ak d=5\/Ak d=6)->0<=AJ d/\AJ d < nv) /\
 (Ak d=2->(0<=Ag d/\Ag d < funcs)/\(∀ f,fs[(Ag d).toNat]? = some f->f.ps.length=(An d).length)/\∀ a∈An d,AZ nv K a=0) /\
 (Ak d=3->0<=Ag d/\Ag d < ni)/\((Ak d=1\/4<=Ak d)->AZ nv K (AR d)=0)/\((Ak d=2\/Ak d=3)->AH (AR d)=0/\AF (AR d)=[])/\(Ak d=4->0<=Ag d/\Ag d < no)
def okS (K:Nat) (nv ni no:Nat) (funcs:Int) (fs:List FnD):Nat->D->Prop
 | 0,_=>False
 | k+1,d=>CA K nv ni no funcs fs d/\(∀ s∈Ar d,okS K nv ni no funcs fs k s)/\∀ s∈Av d,okS K nv ni no funcs fs k s
theorem C4.imp {p q:Prop} {w:World} {e:Ending} {w':World} (h:C4 p w e w') (hpq:p->q):C4 q w e w':=by
 obtain ⟨h,hB⟩:=h
 refine ⟨?_,hB⟩
 rcases h with ⟨hp,he⟩ | h
 ·exact Or.inl ⟨hpq hp,he⟩
 ·exact Or.inr h
theorem BA.mono {w:World} {K k m:Nat} {v:Value} {l:List FnD} (h:BA w K k v l) (hkm:k<=m):BA w K m v l:=by
 obtain ⟨hm,ao,cap,hv,hc⟩:=h
 refine ⟨hm,ao,cap,hv,fun hne=>?_⟩
 obtain ⟨b,off,hao,hel⟩:=hc hne
 refine ⟨b,off,hao,fun i hi=>?_⟩
 obtain ⟨vP,vB,x0,x1,x2,h0,h1,h2,h3,h4,hp,hpl,hs,hx⟩:=hel i hi
 exact ⟨vP,vB,x0,x1,x2,h0,h1,h2,h3,h4,hp,hpl,XS.mono hs (fun _ _ hh=>hh) (fun cs d _ hh=>RS.mono (fun _ _ q=>q) k m cs d hkm hh),hx⟩
theorem AL.prefix {w:World} {ao:Option Addr} {cap:Nat} {vs:List Int} (h:AL w (O ao vs.length cap) vs) {i:Nat} (hi:i<=vs.length) (c:Nat):AL w (O ao i c) (vs.take i):=by
 obtain ⟨a2,c2,he,hc⟩:=h
 injection he with e1 e2 e3
 subst e1
 refine ⟨ao,c,by simp [Nat.min_eq_left hi],fun hne=>?_⟩
 obtain ⟨b,off,hao,hel⟩:=hc (by rintro rfl;simp at hne)
 refine ⟨b,off,hao,fun j hj=>?_⟩
 have hj2:j < vs.length:=by simp at hj;omega
 rw [List.getElem_take]
 exact hel j hj2
def okF (K:Nat) (nv ni no:Nat) (ahead:Int) (fs:List FnD) (k:Nat) (f:FnD):Prop:=
 f.ps.length<=4/\(∀ p∈f.ps,0<=p/\p < nv)/\(∀ s∈f.body,okS K nv ni no ahead fs k s)/\AZ nv K f.res=0
end Go.Proofs.YtfffpjkcfnekaaaGreat.Ex
namespace Go.Proofs.YtfffpjkcfnekaaaGreat
open Go.RowKit
open Go.Value renaming slice -> O, int -> U, bool -> zg, agg -> zh, pointer -> zj, tuple -> zm
open Go.IntKind renaming i64 -> zd
open Go.Obj renaming cells -> ze
open Go.Ending renaming returned -> zk
theorem F6 {α:Type} (l:List α) (k:Nat) (x:α) (h:k < l.length):(l.set k x).take (k+1)=l.take k++[x]:=by
 rw [List.take_succ_eq_append_getElem (by simpa using h)]
 simp only [List.take_set,List.getElem_set_self]
 rw [List.set_eq_of_length_le (by simp;omega)]
def DU (f:Nat->Bool) (g n k:Nat) (W:World):Prop:=∃ cur:List Value,cur.length=n/\cur.take k=Bf (B8 f k)/\W.heap[g]? = some (.cells cur.toArray 4 (0,0))
theorem Ij {f:Nat->Bool} {g n k:Nat} {W W':World} (h:DU f g n k W) (hb:Ov W W'):DU f g n k W':=by
 obtain ⟨cur,h1,h2,h3⟩:=h
 exact ⟨cur,h1,h2,by rw [hb.block g (Array.getElem?_eq_some_iff.1 h3).1];exact h3⟩
theorem I4 {f:Nat->Bool} {g n k:Nat} {W:World} (h:DU f g n k W) (hk:k < n):DU f g n (k+1) (W.setCell ⟨g,k,none⟩ (zg (f k))):=by
 obtain ⟨cur,h1,h2,h3⟩:=h
 refine ⟨cur.set k (zg (f k)),by simpa using h1,?_,?_⟩
 ·rw [F6 _ _ _ (by omega),h2,IA]
  simp [Bf]
 ·have:=heap_setCell_same W g k _ 4 (zg (f k)) h3
  simpa using this
theorem Ik {f:Nat->Bool} {g n k j:Nat} {W:World} (h:DU f g n k W) (hj:j < n):(∃ u,W.cell? ⟨g,j,none⟩=some u)/\W.frozen? ⟨g,j,none⟩=false:=by
 obtain ⟨cur,h1,h2,h3⟩:=h
 refine ⟨⟨cur[j]'(by omega),?_⟩,?_⟩
 ·simp [World.cell?,h3,h1,hj]
 ·simp [World.frozen?,h3]
theorem I5 {f:Nat->Bool} {g n B:Nat} {W:World} (h:DU f g n n W) (hn:n<=6) (hg:B<=g):W.ownsRow B 4 1 (O (some ⟨g,0,none⟩) n n) n (Bf (B8 f n)):=by
 obtain ⟨cur,h1,h2,h3⟩:=h
 refine ⟨by simp [Bf,A2],Or.inr ⟨g,n,cur.toArray,rfl,hg,h3,Nat.le_refl _,by unfold maxLen;omega,by simp [h1],?_⟩⟩
 rw [Nat.mul_one]
 exact h2
theorem DW (F:FuncId) (c1 c2:Value) (f:Nat->Bool) (n:Nat) (h1:1<=n) (hn:n<=6) (s:Value) (w:World)
  (hF:Hx (∀ (k:Nat),k < n->∀ W:World,Ov w W->Calls Tryz.prog F #[U zd k,c1,c2] W fun e w2=>e=zk (zg (f k))/\Ov W w2))
  (hC:∀ (args:Array Value) (w:World),(callFunc F args).run Tryz.prog w=.ok (.enter F args) w) :
  Calls Tryz.prog 70 #[zh #[U zd n,s],.func (.func F) #[] #[c1,c2]] w fun e w'=>∃ g,e=zk (O (some ⟨g,0,none⟩) n n)/\w.heap.size<=g/\g < w'.heap.size/\w'.ownsRow w.heap.size 4 1 (O (some ⟨g,0,none⟩) n n) n (Bf (B8 f n))/\Ov w w':=by
 have hmk:=fun w=>Dp n hn w
 have hst:DU f (w.heap.size+1) n 0 ((w.alloc (ze #[U zd n,s] 24)).alloc (.cells (List.replicate n (Value.bool false)).toArray 4)):=by
  refine ⟨List.replicate n (zg false),by simp,by simp [B8,Bf],?_⟩
  have:=heap_alloc_new (w.alloc (ze #[U zd n,s] 24)) (.cells (List.replicate n (Value.bool false)).toArray 4)
  simpa using this
 have hbel:Ov w ((w.alloc (ze #[U zd n,s] 24)).alloc (.cells (List.replicate n (Value.bool false)).toArray 4)):=(bA w _).alloc (by simp) _
 have HST:=Aa hst
 have HB:=Aa hbel
 clear hst hbel
 go_enter Tryz.func70,Tryz.ntmps70
 go_wp2_with fail
 go_loopw [12] (fun i wr=>∃ k:Nat,k<=n/\i=U zd k/\DU f (w.heap.size+1) n k wr/\Ov w wr) (fun i _=>n - (intOf i).toNat)
 case atStart=>exact ⟨0,Nat.zero_le _,rfl,by simpa using HST.o,by simpa using HB.o⟩
 case round=>
  clear HST HB hmk
  obtain ⟨k,hk,rfl,hfil,hbw⟩:=hrel
  by_cases hkn:k < n
  ·have HC:=Aa (hF.o k hkn _ hbw)
   go_wp2_with fail
   refine (HC.o).mono ?_
   rintro e w2 ⟨rfl,hb2⟩
   have hf2:=Ij hfil hb2
   have hb3:=hbw.trans (hb2.mono hbw.size)
   obtain ⟨⟨u,d1⟩,d2⟩:=Ik hf2 hkn
   have hf3:=I4 hf2 hkn
   have hb4:=hb3.setCell (p:=⟨w.heap.size+1,k,none⟩) (by simp) (zg (f k))
   have HF3:=Aa hf3
   have HB4:=Aa hb4
   clear hfil hf2 hb2 hb3 hf3 hb4 HC hbw
   go_wp2_with fail
   exact ⟨⟨k+1,by omega,by go_num,HF3.o,HB4.o⟩,by simp [intOf];omega⟩
  ·have hke:k=n:=by omega
   subst hke
   have hlt:w.heap.size+1 < wr.heap.size:=by obtain ⟨cur,_,_,h3⟩:=hfil;exact (Array.getElem?_eq_some_iff.1 h3).1
   have HO:=Aa (I5 hfil hn (B:=w.heap.size) (by omega))
   clear hfil hF
   go_wp2_with fail
   go_ret
   exact ⟨w.heap.size+1,rfl,by omega,hlt,HO.o,hbw⟩
def Bd (w:World) (v:Value) (ls:List Lev):Prop:=
 ∃ ao cap,v=O ao ls.length cap/\(ls≠[]->∃ b off,ao=some ⟨b,off,none⟩/\∀ i (h:i < ls.length),∃ rv wv,w.cell? ⟨b,off+i*2,none⟩=some rv/\w.cell? ⟨b,off+i*2+1,none⟩=some wv/\A7 w (zh #[rv,wv]) ls[i])
theorem Au {w w':World} {v:Value} {ls:List Lev} (h:Bd w v ls) (hb:Ov w w'):Bd w' v ls:=by
 obtain ⟨ao,cap,rfl,hc⟩:=h
 refine ⟨ao,cap,rfl,fun hne=>?_⟩
 obtain ⟨b,off,rfl,hcl⟩:=hc hne
 refine ⟨b,off,rfl,fun i hi=>?_⟩
 obtain ⟨rv,wv,h1,h2,h3⟩:=hcl i hi
 exact ⟨rv,wv,by rw [(Ap hb).1 _ _ (bL h1)];exact h1,by rw [(Ap hb).1 _ _ (bL h2)];exact h2,Aw h3 hb⟩
theorem Gu {w:World} {v:Value} {ls:List Lev} (h:Bd w v ls) {i:Nat} (hi:i < ls.length):∃ b off cap rv wv,v=O (some ⟨b,off,none⟩) ls.length cap/\w.cell? ⟨b,off+i*2,none⟩=some rv/\w.cell? ⟨b,off+i*2+1,none⟩=some wv/\A7 w (zh #[rv,wv]) ls[i]:=by
 obtain ⟨ao,cap,rfl,hc⟩:=h
 obtain ⟨b,off,rfl,hcl⟩:=hc (by rintro rfl;simp at hi)
 obtain ⟨rv,wv,h1,h2,h3⟩:=hcl i hi
 exact ⟨b,off,cap,rv,wv,rfl,h1,h2,h3⟩
def BS (m:Int):List Lev->Int
 | []=>0
 | l::ls=>if Cl m l=0 then BS m ls else Cl m l
theorem Gd {m:Int} {ls:List Lev} {k:Nat} (hk:k < ls.length):BS m (ls.drop k)=if Cl m ls[k]=0 then BS m (ls.drop (k+1)) else Cl m ls[k]:=by
 rw [List.drop_eq_getElem_cons hk]
 rfl
def E3 (m:Int) (gs:List (Int × Int)) (ls:List Lev):Int:=if AQ m gs=0 then BS m ls else AQ m gs
theorem Dq (m:Int) (l:Lev):(Cl m l=0/\((l.r.length:Int)=m/\(l.w.length:Int)=m))\/(Cl m l=1/\((l.r.length:Int)≠m\/((l.r.length:Int)=m/\(l.w.length:Int)≠m))):=by
 unfold Cl
 by_cases h:(l.r.length:Int)=m/\(l.w.length:Int)=m
 ·exact Or.inl ⟨if_pos h,h⟩
 ·refine Or.inr ⟨if_neg h,?_⟩
  by_cases h1:(l.r.length:Int)=m
  ·exact Or.inr ⟨h1,fun h2=>h ⟨h1,h2⟩⟩
  ·exact Or.inl h1
theorem EF (m:Int) (v vs:Value) (gs ls) (w:World) (hv:AG w v gs) (hl:Bd w vs ls) (hn:ls.length<=2) :
  Calls Tryz.prog 59 #[zh #[U zd m,v],vs] w fun e w'=>e=zk (U zd (E3 m gs ls))/\Ov w w':=by
 have hbel:Ov w (w.alloc (ze #[U zd m,v] 24)):=bA w _
 have hC:=check_any m v gs (w.alloc (ze #[U zd m,v] 24)) (Af hv hbel)
 have hE:E3 m gs ls=if AQ m gs=0 then BS m ls else AQ m gs:=rfl
 have HL:=Aa hl
 obtain ⟨ao,cap,rfl,-⟩:=hl
 obtain ⟨r,hr⟩:=nm (AQ m gs)
 rw [<-hr] at hC hE
 obtain ⟨va,vn,vc,rfl⟩:=Co hv
 have HC:=Aa hC
 have HE:=Aa hE
 clear hC hE hr hv
 go_enter Tryz.func59,Tryz.ntmps59
 go_wp2_with fail
 refine (HC.o).mono ?_
 rintro e w1 ⟨rfl,hb1⟩
 have c0:w1.cell? ⟨w.heap.size,0,none⟩=some (U zd m):=by rw [(Ap hb1).1 _ _ (by simp)];simp [go_sem]
 have hB1:Ov w w1:=hbel.trans (hb1.mono (by simp))
 clear HC hb1 hbel
 by_cases hr0:r=0
 ·subst hr0
  go_wp2_with fail
  go_loopw [15] (fun i wr=>∃ k:Nat,k<=ls.length/\i=U zd k/\BS m ls=BS m (ls.drop k)/\Ov w wr/\wr.cell? ⟨w.heap.size,0,none⟩=some (U zd m)) (fun i _=>ls.length - (intOf i).toNat)
  case atStart=>exact ⟨0,Nat.zero_le _,rfl,rfl,hB1,c0⟩
  case round=>
   clear hB1 c0
   obtain ⟨k,hk,rfl,hfe,hbw,c0⟩:=hrel
   by_cases hkl:k < ls.length
   ·obtain ⟨b,off,cap',rv,wv,hve,q0,q1,q2⟩:=Gu (Au HL.o hbw) hkl
    injection hve with e1 e2 e3
    subst e1 e3
    clear e2
    have hfd:=Gd (m:=m) hkl
    rw [<-hfe] at hfd
    have hlc:=Dq m ls[k]
    obtain ⟨x,y,hxy,⟨a1,k1,e1,-⟩,⟨a2,k2,e2,-⟩⟩:=q2
    obtain ⟨rfl,rfl⟩:rv=x/\wv=y:=by simpa using hxy
    subst e1 e2
    obtain ⟨n1,hn1⟩:=nm (ls[k].r.length)
    obtain ⟨n2,hn2⟩:=nm (ls[k].w.length)
    rw [<-hn1,<-hn2] at hlc
    rw [<-hn1] at q0
    rw [<-hn2] at q1
    have ltw:=bL c0
    have hal:Ov wr (wr.alloc (ze #[O a1 n1 k1,O a2 n2 k2] 50)):=bA wr _
    have hbw2:=hbw.trans (hal.mono hbw.size)
    have d0:(wr.alloc (ze #[O a1 n1 k1,O a2 n2 k2] 50)).cell? ⟨w.heap.size,0,none⟩=some (U zd m):=by rw [(Ap hal).1 _ _ ltw];exact c0
    have D0:=Aa d0
    clear hxy hn1 hn2 hfe d0 hal hbw
    rcases hlc with ⟨hz,h1,h2⟩ | ⟨hz,h1 | ⟨h1,h2⟩⟩
    ·rw [hz] at hfd
     have HF:=Aa hfd
     have b1:((n1:Int) != m)=false:=by simp [h1]
     have b2:((n2:Int) != m)=false:=by simp [h2]
     clear hz hfd h1 h2
     go_wp2_with fail
     exact ⟨⟨k+1,by omega,by go_num,by rw [HF.o];simp,hbw2,D0.o⟩,by simp [intOf];omega⟩
    ·rw [hz] at hfd
     have HF:=Aa hfd
     have b1:((n1:Int) != m)=true:=by simpa using h1
     clear hz hfd h1
     go_wp2_with fail
     go_ret
     exact ⟨by rw [HE.o,HF.o];simp,hbw2⟩
    ·rw [hz] at hfd
     have HF:=Aa hfd
     have b1:((n1:Int) != m)=false:=by simp [h1]
     have b2:((n2:Int) != m)=true:=by simpa using h2
     clear hz hfd h1 h2
     go_wp2_with fail
     go_ret
     exact ⟨by rw [HE.o,HF.o];simp,hbw2⟩
   ·have hke:k=ls.length:=by omega
    have hz:BS m ls=0:=by rw [hfe,hke,List.drop_length];rfl
    have HZ:=Aa hz
    clear hz hfe c0
    go_wp2_with fail
    go_ret
    exact ⟨by rw [HE.o,HZ.o];simp,hbw⟩
 ·have hne:(r != 0)=true:=by simpa using hr0
  go_wp2_with fail
  go_ret
  exact ⟨by rw [HE.o];simp [hr0],hB1⟩
def CD (a b:List Bool) (n:Nat):Bool:=(List.range n).all fun i=>!((a[i]?.getD false) && !(b[i]?.getD false))
theorem GG (l m:Lev) (n:Nat):(CD m.r l.r n && CD l.w m.w n)=Ay l m n:=by
 rw [Bool.eq_iff_iff,AK]
 simp only [CD,Bool.and_eq_true,List.all_eq_true,List.mem_range]
 constructor
 ·rintro ⟨h1,h2⟩ i hi
  have a:=h1 i hi
  have b:=h2 i hi
  revert a b
  cases m.r[i]?.getD false <;> cases l.r[i]?.getD false <;> cases l.w[i]?.getD false <;> cases m.w[i]?.getD false <;> simp
 ·intro h
  refine ⟨fun i hi=>?_,fun i hi=>?_⟩ <;> have a:=h i hi <;> revert a <;> cases m.r[i]?.getD false <;> cases l.r[i]?.getD false <;> cases l.w[i]?.getD false <;> cases m.w[i]?.getD false <;> simp
theorem Fp (va vb:Value) (a b:List Bool) (n:Nat) (w:World) (h0:1<=n) (hn:n<=6) (ha:AP w va a) (hb:AP w vb b) (hla:a.length=n) (hlb:b.length=n) :
  Calls Tryz.prog 60 #[va,vb] w fun e w'=>e=zk (zg (CD a b n))/\Ov w w':=by
 obtain ⟨b1,o1,c1,rfl,q1⟩:=Cn ha hla h0
 obtain ⟨b2,o2,c2,rfl,q2⟩:=Cn hb hlb h0
 have Q1:=Aa q1
 have Q2:=Aa q2
 clear q1 q2 ha hb hla hlb
 go_enter Tryz.func60,Tryz.ntmps60
 go_wp2_with fail
 go_loop [9] (fun i=>∃ k:Nat,k<=n/\i=U zd k/\(List.range k).all (fun i=>!((a[i]?.getD false) && !(b[i]?.getD false)))=true) (fun i=>n - (intOf i).toNat)
 case atStart=>exact ⟨0,Nat.zero_le _,rfl,rfl⟩
 case round=>
  obtain ⟨k,hk,rfl,hall⟩:=hrel
  by_cases hkn:k < n
  ·have q1:=Q1.o k hkn
   have q2:=Q2.o k hkn
   have hnext:(!((a[k]?.getD false) && !(b[k]?.getD false)))=true->(List.range (k+1)).all (fun i=>!((a[i]?.getD false) && !(b[i]?.getD false)))=true:=fun h=>by
    rw [List.range_succ,List.all_append,hall]
    simpa using h
   have hstop:(!((a[k]?.getD false) && !(b[k]?.getD false)))=false->CD a b n=false:=fun h=>by
    unfold CD
    rw [List.all_eq_false]
    exact ⟨k,List.mem_range.2 hkn,by simpa using h⟩
   generalize a[k]?.getD false=x at q1 hnext hstop
   generalize b[k]?.getD false=y at q2 hnext hstop
   have HN:=Aa hnext
   have HS:=Aa hstop
   clear hnext hstop hall
   cases x <;> cases y
   all_goals go_wp2_with fail
   all_goals first
    | exact ⟨⟨k+1,by omega,by go_num,HN.o (by first | rfl | trivial)⟩,by simp [intOf];omega⟩
    | (go_ret;exact ⟨by rw [HS.o (by first | rfl | trivial)];rfl,Below.refl _ w⟩)
  ·have hke:k=n:=by omega
   have hf:CD a b n=true:=by unfold CD;rw [<-hke];exact hall
   have HF:=Aa hf
   clear hf hall
   go_wp2_with fail
   go_ret
   exact ⟨by rw [HF.o];rfl,Below.refl _ w⟩
theorem IX {W:World} {b:Nat} {rv wv:Value} {l:Lev} (h0:W.cell? ⟨b,0,none⟩=some rv) (h1:W.cell? ⟨b,1,none⟩=some wv) (hl:A7 W (zh #[rv,wv]) l):Bd W (O (some ⟨b,0,none⟩) 1 1) [l]:=by
 refine ⟨_,1,rfl,fun _=>⟨b,0,rfl,fun i hi=>?_⟩⟩
 have:i=0:=by simp at hi;omega
 subst this
 exact ⟨rv,wv,by simpa using h0,by simpa using h1,hl⟩
theorem IW {W:World} {b:Nat} {rv wv ru wu:Value} {l k:Lev} (h0:W.cell? ⟨b,0,none⟩=some rv) (h1:W.cell? ⟨b,1,none⟩=some wv) (h2:W.cell? ⟨b,2,none⟩=some ru) (h3:W.cell? ⟨b,3,none⟩=some wu) (hl:A7 W (zh #[rv,wv]) l) (hk:A7 W (zh #[ru,wu]) k):Bd W (O (some ⟨b,0,none⟩) 2 2) [l,k]:=by
 refine ⟨_,2,rfl,fun _=>⟨b,0,rfl,fun i hi=>?_⟩⟩
 have:i=0\/i=1:=by simp at hi;omega
 rcases this with rfl | rfl
 ·exact ⟨rv,wv,by simpa using h0,by simpa using h1,hl⟩
 ·exact ⟨ru,wu,by simpa using h2,by simpa using h3,hk⟩
theorem Jp (m:Int) (gs) (l:Lev):E3 m gs [l]=Br m gs l:=by
 unfold E3 Br BS BS
 split
 ·split
  ·rename_i h;rw [h]
  ·rfl
 ·rfl
theorem Jo (m:Int) (gs) (l k:Lev):E3 m gs [l,k]=Ei m gs l k:=by
 unfold E3 Ei Br BS BS BS
 by_cases hc:AQ m gs=0
 ·simp only [if_pos hc]
  by_cases h1:Cl m l=0
  ·simp only [if_pos h1]
   by_cases h2:Cl m k=0
   ·simp [h2]
   ·simp [h2]
  ·simp [h1]
 ·simp [hc]
theorem CX {w:World} {v:Value} {l:Lev} (h:A7 w v l):∃ a1 c1 a2 c2,v=zh #[O a1 l.r.length c1,O a2 l.w.length c2]:=by
 obtain ⟨vr,vw,rfl,⟨a1,k1,rfl,-⟩,⟨a2,k2,rfl,-⟩⟩:=h
 exact ⟨_,_,_,_,rfl⟩
theorem Mg:MS:=by
 intro m v gs vl l w hv hl
 have HL:=Aa hl
 obtain ⟨a1,k1,a2,k2,rfl⟩:=CX hl
 have HV:=Aa hv
 obtain ⟨va,vn,vc,rfl⟩:=Co hv
 have hb3:Ov w (((w.alloc (ze #[U zd m,O va vn vc] 24)).alloc (ze #[O a1 l.r.length k1,O a2 l.w.length k2] 50)).alloc (ze #[O a1 l.r.length k1,O a2 l.w.length k2] 50)):=((bA w _).alloc (by simp) _).alloc (by simp;omega) _
 have hcall:=EF m (O va vn vc) (O (some ⟨w.heap.size+1+1,0,none⟩) 1 1) gs [l] _ (Af HV.o hb3) (IX (by simp [go_sem]) (by simp [go_sem]) (Aw HL.o hb3)) (by simp)
 rw [Jp] at hcall
 obtain ⟨r,hr⟩:=nm (Br m gs l)
 rw [<-hr] at hcall ⊢
 have HC:=Aa hcall
 clear hl hv hcall hr
 go_enter Tryz.func49,Tryz.ntmps49
 go_wp2_with fail
 refine (HC.o).mono ?_
 rintro e w1 ⟨rfl,hb1⟩
 have hB1:=hb3.trans (hb1.mono (by simp;omega))
 clear HC hb1 hb3
 go_wp2_with fail
 go_ret
 exact ⟨rfl,hB1⟩
theorem JB {m:Int} {gs:List (Int × Int)} {l k:Lev} (h:Ei m gs l k=0):∃ n:Nat,m=n/\1<=n/\n<=6/\l.len n/\k.len n/\AQ m gs=0:=by
 unfold Ei at h
 split at h
 ·rename_i h1
  have hc:AQ m gs=0:=by
   unfold Br at h
   split at h
   ·assumption
   ·exact h
  obtain ⟨n,hm,h3,h4,_⟩:=DQ hc
  unfold Br at h h1
  rw [if_pos hc] at h h1
  rcases Dq m l with ⟨_,g1,g2⟩ | ⟨g,_⟩
  ·rcases Dq m k with ⟨_,g3,g4⟩ | ⟨g,_⟩
   ·exact ⟨n,hm,h3,h4,⟨by omega,by omega⟩,⟨by omega,by omega⟩,hc⟩
   ·rw [g] at h;cases h
  ·rw [g] at h1;cases h1
 ·rename_i h1
  exact absurd h h1
theorem L6 (w:World) (m:Int) (gs) (v:Value) (x y z u:Value) (l k) (hv:AG w v gs) (hl:A7 w (zh #[x,y]) l) (hk:A7 w (zh #[z,u]) k) (W:World) (b:Nat) (hb:Ov w W)
  (h0:W.cell? ⟨b,0,none⟩=some x) (h1:W.cell? ⟨b,1,none⟩=some y) (h2:W.cell? ⟨b,2,none⟩=some z) (h3:W.cell? ⟨b,3,none⟩=some u) :
  Calls Tryz.prog 59 #[zh #[U zd m,v],O (some ⟨b,0,none⟩) 2 2] W fun e w'=>e=zk (U zd (Ei m gs l k))/\Ov W w':=by
 have hcall:=EF m v (O (some ⟨b,0,none⟩) 2 2) gs [l,k] W (Af hv hb) (IW h0 h1 h2 h3 (Aw hl hb) (Aw hk hb)) (by simp)
 rw [Jo] at hcall
 exact hcall
theorem JI:MX:=by
 intro m v gs vl vk l k w hv hl hk
 have HL:=Aa hl
 have HK:=Aa hk
 have HV:=Aa hv
 obtain ⟨a1,k1,a2,k2,rfl⟩:=CX hl
 obtain ⟨a3,k3,a4,k4,rfl⟩:=CX hk
 obtain ⟨va,vn,vc,rfl⟩:=Co hv
 have hb3:Ov w ((((w.alloc (ze #[U zd m,O va vn vc] 24)).alloc (ze #[O a1 l.r.length k1,O a2 l.w.length k2] 50)).alloc (ze #[O a3 k.r.length k3,O a4 k.w.length k4] 50)).alloc (ze #[O a1 l.r.length k1,O a2 l.w.length k2,O a3 k.r.length k3,O a4 k.w.length k4] 50)):=(((bA w _).alloc (by simp) _).alloc (by simp;omega) _).alloc (by simp;omega) _
 have hcall:=L6 w m gs (O va vn vc) _ _ _ _ l k HV.o HL.o HK.o _ (w.heap.size+1+1+1) hb3 (by simp [go_sem]) (by simp [go_sem]) (by simp [go_sem]) (by simp [go_sem])
 have hW:=fun (n:Nat) (h1:1<=n) (h6:n<=6) (hln:l.len n) (hkn:k.len n) (W:World) (hB:Ov w W)=>Fp (O a3 k.r.length k3) (O a1 l.r.length k1) k.r l.r n W h1 h6 (by obtain ⟨_,_,e,h,_⟩:=HK.o;obtain ⟨rfl,rfl⟩:=(by simpa using e:_/\_);exact Ax h hB) (by obtain ⟨_,_,e,h,_⟩:=HL.o;obtain ⟨rfl,rfl⟩:=(by simpa using e:_/\_);exact Ax h hB) hkn.1 hln.1
 have hX:=fun (n:Nat) (h1:1<=n) (h6:n<=6) (hln:l.len n) (hkn:k.len n) (W:World) (hB:Ov w W)=>Fp (O a2 l.w.length k2) (O a4 k.w.length k4) l.w k.w n W h1 h6 (by obtain ⟨_,_,e,_,h⟩:=HL.o;obtain ⟨rfl,rfl⟩:=(by simpa using e:_/\_);exact Ax h hB) (by obtain ⟨_,_,e,_,h⟩:=HK.o;obtain ⟨rfl,rfl⟩:=(by simpa using e:_/\_);exact Ax h hB) hln.2 hkn.2
 have hok:=fun h=>JB (m:=m) (gs:=gs) (l:=l) (k:=k) h
 obtain ⟨r,hr⟩:=nm (Ei m gs l k)
 rw [<-hr] at hcall hok ⊢
 have HC:=Aa hcall
 have KW:=Aa hW
 have KX:=Aa hX
 have HOK:=Aa hok
 clear hl hk hv hcall hW hX hok hr
 go_enter Tryz.func16,Tryz.ntmps16
 go_wp2_with fail
 refine (HC.o).mono ?_
 rintro e w1 ⟨rfl,hb1⟩
 have hB1:=hb3.trans (hb1.mono (by simp;omega))
 obtain ⟨hc,hf⟩:=Ap hb1
 have c0:w1.cell? ⟨w.heap.size+1,0,none⟩=some (O a1 l.r.length k1):=by rw [hc _ _ (by simp <;> omega)];simp [go_sem]
 have c1:w1.cell? ⟨w.heap.size+1,1,none⟩=some (O a2 l.w.length k2):=by rw [hc _ _ (by simp <;> omega)];simp [go_sem]
 have c2:w1.cell? ⟨w.heap.size+1+1,0,none⟩=some (O a3 k.r.length k3):=by rw [hc _ _ (by simp <;> omega)];simp [go_sem]
 have c3:w1.cell? ⟨w.heap.size+1+1,1,none⟩=some (O a4 k.w.length k4):=by rw [hc _ _ (by simp <;> omega)];simp [go_sem]
 clear hc hf hb1 hb3 HC
 by_cases hr0:r=0
 ·subst hr0
  obtain ⟨n,hm,h1,h6,hln,hkn,hch⟩:=HOK.o (by first | rfl | trivial)
  subst hm
  have hw1:=KW.o n h1 h6 hln hkn
  have hx1:=KX.o n h1 h6 hln hkn
  have hfl:=GG l k n
  obtain ⟨x,hx⟩:=nm (CD k.r l.r n)
  obtain ⟨y,hy⟩:=nm (CD l.w k.w n)
  rw [<-hx] at hw1 hfl
  rw [<-hy] at hx1 hfl
  have hfin:Ay l k n=(x && y):=hfl.symm
  have HFIN:=Aa hfin
  have HW1:=Aa hw1
  have HX1:=Aa hx1
  clear hw1 hx1 hfl hx hy hfin KW KX HOK hch
  cases x with
  | false=>
   go_wp2_with fail
   refine (HW1.o _ hB1).mono ?_
   rintro e w2 ⟨rfl,hb2⟩
   have hB2:=hB1.trans (hb2.mono hB1.size)
   clear hb2
   go_wp2_with fail
   go_ret2
   exact ⟨by rw [HFIN.o];simp,hB2⟩
  | true=>
   go_wp2_with fail
   refine (HW1.o _ hB1).mono ?_
   rintro e w2 ⟨rfl,hb2⟩
   have hB2:=hB1.trans (hb2.mono hB1.size)
   obtain ⟨hc,hf⟩:=Ap hb2
   have d1:w2.cell? ⟨w.heap.size+1,1,none⟩=some (O a2 l.w.length k2):=by rw [hc _ _ (bL c1)];exact c1
   have d3:w2.cell? ⟨w.heap.size+1+1,1,none⟩=some (O a4 k.w.length k4):=by rw [hc _ _ (bL c3)];exact c3
   clear hb2 hc hf c0 c1 c2 c3 hB1
   go_wp2_with fail
   refine (HX1.o _ hB2).mono ?_
   rintro e w3 ⟨rfl,hb3⟩
   have hB3:=hB2.trans (hb3.mono hB2.size)
   clear hb3 d1 d3
   go_wp2_with fail
   go_ret2
   exact ⟨by rw [HFIN.o];simp,hB3⟩
 ·have hne:(r != 0)=true:=by simpa using hr0
  go_wp2_with fail
  go_ret2
  exact ⟨by simp [hr0],hB1⟩
theorem Oh (args:Array Value) (w:World):(callFunc 105 args).run Tryz.prog w=.ok (.enter 105 args) w:=by simp [go_sem]
theorem Kf (bl bm n k b1 o1 c1 b2 o2 c2:Nat) (x y:Bool) (W:World) (hk:k < n) (hn:n<=6) (h1:W.cell? ⟨bl,0,none⟩=some (O (some ⟨b1,o1,none⟩) n c1)) (h2:W.cell? ⟨bm,0,none⟩=some (O (some ⟨b2,o2,none⟩) n c2))
  (q1:W.cell? ⟨b1,o1+k,none⟩=some (zg x)) (q2:W.cell? ⟨b2,o2+k,none⟩=some (zg y)) :
  Calls Tryz.prog 105 #[U zd k,zj (some ⟨bl,0,none⟩),zj (some ⟨bm,0,none⟩)] W fun e w'=>e=zk (zg (x && y))/\Ov W w':=by
 cases x
 all_goals
  go_enter Tryz.func105,Tryz.ntmps105
  go_wp2_with fail
  go_ret
  exact ⟨by simp,Below.refl _ W⟩
theorem Og (args:Array Value) (w:World):(callFunc 106 args).run Tryz.prog w=.ok (.enter 106 args) w:=by simp [go_sem]
theorem Ke (bl bm n k b1 o1 c1 b2 o2 c2:Nat) (x y:Bool) (W:World) (hk:k < n) (hn:n<=6) (h1:W.cell? ⟨bl,1,none⟩=some (O (some ⟨b1,o1,none⟩) n c1)) (h2:W.cell? ⟨bm,1,none⟩=some (O (some ⟨b2,o2,none⟩) n c2))
  (q1:W.cell? ⟨b1,o1+k,none⟩=some (zg x)) (q2:W.cell? ⟨b2,o2+k,none⟩=some (zg y)) :
  Calls Tryz.prog 106 #[U zd k,zj (some ⟨bl,0,none⟩),zj (some ⟨bm,0,none⟩)] W fun e w'=>e=zk (zg (x || y))/\Ov W w':=by
 cases x
 all_goals
  go_enter Tryz.func106,Tryz.ntmps106
  go_wp2_with fail
  go_ret
  exact ⟨by simp,Below.refl _ W⟩
attribute [local go_sem ↓] Go.wp_at_zero Go.wp_at_succ
theorem Ni {B:Nat} {wB W W':World} {b o0 o1:Nat} {v0 v1:Value} (h:W.cell? ⟨b,o0,none⟩=some v0/\W.cell? ⟨b,o1,none⟩=some v1/\Below B wB W) (hb:Ov W W') (hB:B<=wB.heap.size):W'.cell? ⟨b,o0,none⟩=some v0/\W'.cell? ⟨b,o1,none⟩=some v1/\Below B wB W':=by
 obtain ⟨h0,h1,h2⟩:=h
 obtain ⟨hc,hf⟩:=Ap hb
 exact ⟨by rw [hc _ _ (bL h0)];exact h0,by rw [hc _ _ (bL h1)];exact h1,h2.trans (hb.mono (Nat.le_trans hB h2.size))⟩
theorem OJ {B:Nat} {wB W:World} {b o0 o1:Nat} {v0 v1:Value} (h:W.cell? ⟨b,o0,none⟩=some v0/\W.cell? ⟨b,o1,none⟩=some v1/\Below B wB W) (hb:b < B) {p:Addr} (hp:B<=p.block) (u:Value):(W.setCell p u).cell? ⟨b,o0,none⟩=some v0/\(W.setCell p u).cell? ⟨b,o1,none⟩=some v1/\Below B wB (W.setCell p u):=by
 obtain ⟨h0,h1,h2⟩:=h
 have hne:∀ o,(W.setCell p u).cell? ⟨b,o,none⟩=W.cell? ⟨b,o,none⟩:=fun o=>World.cell?_setCell_other _ _ _ _ (by rintro rfl;simp at hp;omega)
 exact ⟨by rw [hne];exact h0,by rw [hne];exact h1,h2.setCell hp u⟩
theorem FP {w wa wp wq:World} {g1 g2 n q:Nat} {f1 f2:Nat->Bool} (hw:w.heap.size<=wa.heap.size) (hq:q < wa.heap.size)
  (h1:wp.ownsRow wa.heap.size 4 1 (O (some ⟨g1,0,none⟩) n n) n (Bf (B8 f1 n))) (hl1:g1 < wp.heap.size) (hz:wa.heap.size<=wp.heap.size)
  (h2:wq.ownsRow wp.heap.size 4 1 (O (some ⟨g2,0,none⟩) n n) n (Bf (B8 f2 n))) (hb:Ov wp wq) (hg2:wp.heap.size<=g2) (u0 u1:Value) :
  Bh w ((wq.setCell ⟨q,0,none⟩ u0).setCell ⟨q,1,none⟩ u1) (zh #[O (some ⟨g1,0,none⟩) n n,O (some ⟨g2,0,none⟩) n n]) ⟨B8 f1 n,B8 f2 n⟩:=by
 refine ⟨_,_,rfl,?_,?_,Or.inr ?_⟩
 ·rw [A2]
  exact Gn (Bl (Bl (CQ h1 hb) (by simpa using hq) _) (by simpa using hq) _) hw
 ·rw [A2]
  exact Gn (Bl (Bl h2 (by simp;omega) _) (by simp;omega) _) (Nat.le_trans hw hz)
 ·simp [Value.ownBlock]
  omega
theorem FQ (w W:World):Bh w W (zh #[O none 0 0,O none 0 0]) AE:=
 ⟨_,_,rfl,World.ownsRow_nil _ _ _ _,World.ownsRow_nil _ _ _ _,Or.inl rfl⟩
theorem H7 (w:World) (n:Nat) (h1:1<=n) (hn:n<=6) (x y z u v:Value) (l k) (hl:A7 w (zh #[x,y]) l) (hk:A7 w (zh #[z,u]) k) (hln:l.len n) (hkn:k.len n) (W:World) (hB:Ov w W) (hz:w.heap.size+3<=W.heap.size)
  (c0:W.cell? ⟨w.heap.size+1,0,none⟩=some x) (c1:W.cell? ⟨w.heap.size+1,1,none⟩=some y) (c2:W.cell? ⟨w.heap.size+1+1,0,none⟩=some z) (c3:W.cell? ⟨w.heap.size+1+1,1,none⟩=some u) :
  (Calls Tryz.prog 70 #[zh #[U zd n,v],.func (.func 105) #[] #[zj (some ⟨w.heap.size+1,0,none⟩),zj (some ⟨w.heap.size+1+1,0,none⟩)]] W fun e w'=>∃ g,e=zk (O (some ⟨g,0,none⟩) n n)/\W.heap.size<=g/\g < w'.heap.size/\w'.ownsRow W.heap.size 4 1 (O (some ⟨g,0,none⟩) n n) n (Bf (B8 (Ec l.r k.r) n))/\Ov W w') /\
  (Calls Tryz.prog 70 #[zh #[U zd n,v],.func (.func 106) #[] #[zj (some ⟨w.heap.size+1,0,none⟩),zj (some ⟨w.heap.size+1+1,0,none⟩)]] W fun e w'=>∃ g,e=zk (O (some ⟨g,0,none⟩) n n)/\W.heap.size<=g/\g < w'.heap.size/\w'.ownsRow W.heap.size 4 1 (O (some ⟨g,0,none⟩) n n) n (Bf (B8 (F9 l.w k.w) n))/\Ov W w'):=by
 obtain ⟨x',y',e,hr1,hw1⟩:=hl
 obtain ⟨rfl,rfl⟩:x=x'/\y=y':=by simpa using e
 obtain ⟨z',u',e',hr2,hw2⟩:=hk
 obtain ⟨rfl,rfl⟩:z=z'/\u=u':=by simpa using e'
 obtain ⟨b1,o1,k1,rfl,q1⟩:=Cn (Ax hr1 hB) hln.1 h1
 obtain ⟨b2,o2,k2,rfl,q2⟩:=Cn (Ax hr2 hB) hkn.1 h1
 obtain ⟨b3,o3,k3,rfl,q3⟩:=Cn (Ax hw1 hB) hln.2 h1
 obtain ⟨b4,o4,k4,rfl,q4⟩:=Cn (Ax hw2 hB) hkn.2 h1
 have up:∀ (W':World),Ov W W'->∀ b o v,W.cell? ⟨b,o,none⟩=some v->W'.cell? ⟨b,o,none⟩=some v:=fun W' hb b o v h=>by rw [(Ap hb).1 _ _ (bL h)];exact h
 refine ⟨DW 105 _ _ (Ec l.r k.r) n h1 hn v W (Aa fun i hi W' hb=>?_) Oh,DW 106 _ _ (F9 l.w k.w) n h1 hn v W (Aa fun i hi W' hb=>?_) Og⟩
 ·exact Kf _ _ n i b1 o1 k1 b2 o2 k2 _ _ W' hi hn (up W' hb _ _ _ c0) (up W' hb _ _ _ c2) (up W' hb _ _ _ (q1 i hi)) (up W' hb _ _ _ (q2 i hi))
 ·exact Ke _ _ n i b3 o3 k3 b4 o4 k4 _ _ W' hi hn (up W' hb _ _ _ c1) (up W' hb _ _ _ c3) (up W' hb _ _ _ (q3 i hi)) (up W' hb _ _ _ (q4 i hi))
theorem NZ:OA:=by
 intro m v gs vl vk l k w hv hl hk
 have HL:=Aa hl
 have HK:=Aa hk
 have HV:=Aa hv
 obtain ⟨a1,k1,a2,k2,rfl⟩:=CX hl
 obtain ⟨a3,k3,a4,k4,rfl⟩:=CX hk
 obtain ⟨va,vn,vc,rfl⟩:=Co hv
 have hb3:Ov w (((((w.alloc (ze #[U zd m,O va vn vc] 24)).alloc (ze #[O a1 l.r.length k1,O a2 l.w.length k2] 50)).alloc (ze #[O a3 k.r.length k3,O a4 k.w.length k4] 50)).alloc (ze #[O none 0 0,O none 0 0] 50)).alloc (ze #[O a1 l.r.length k1,O a2 l.w.length k2,O a3 k.r.length k3,O a4 k.w.length k4] 50)):=((((bA w _).alloc (by simp) _).alloc (by simp;omega) _).alloc (by simp;omega) _).alloc (by simp;omega) _
 have hcall:=L6 w m gs (O va vn vc) _ _ _ _ l k HV.o HL.o HK.o _ (w.heap.size+1+1+1+1) hb3 (by simp [go_sem]) (by simp [go_sem]) (by simp [go_sem]) (by simp [go_sem])
 have hok:=fun h=>JB (m:=m) (gs:=gs) (l:=l) (k:=k) h
 obtain ⟨r,hr⟩:=nm (Ei m gs l k)
 rw [<-hr] at hcall hok ⊢
 have HC:=Aa hcall
 have HOK:=Aa hok
 clear hl hk hv hcall hok hr
 go_enter Tryz.func46,Tryz.ntmps46
 go_wp2_with fail
 refine (HC.o).mono ?_
 rintro e w1 ⟨rfl,hb1⟩
 have hB1:=hb3.trans (hb1.mono (by simp <;> omega))
 have hz1:=hb1.size
 simp at hz1
 obtain ⟨hc,hf⟩:=Ap hb1
 have a0:w1.cell? ⟨w.heap.size,0,none⟩=some (U zd m):=by rw [hc _ _ (by simp <;> omega)];simp [go_sem]
 have a1':w1.cell? ⟨w.heap.size,1,none⟩=some (O va vn vc):=by rw [hc _ _ (by simp <;> omega)];simp [go_sem]
 have c0:w1.cell? ⟨w.heap.size+1,0,none⟩=some (O a1 l.r.length k1):=by rw [hc _ _ (by simp <;> omega)];simp [go_sem]
 have c1:w1.cell? ⟨w.heap.size+1,1,none⟩=some (O a2 l.w.length k2):=by rw [hc _ _ (by simp <;> omega)];simp [go_sem]
 have c2:w1.cell? ⟨w.heap.size+1+1,0,none⟩=some (O a3 k.r.length k3):=by rw [hc _ _ (by simp <;> omega)];simp [go_sem]
 have c3:w1.cell? ⟨w.heap.size+1+1,1,none⟩=some (O a4 k.w.length k4):=by rw [hc _ _ (by simp <;> omega)];simp [go_sem]
 have e0:w1.cell? ⟨w.heap.size+1+1+1,0,none⟩=some (O none 0 0):=by rw [hc _ _ (by simp <;> omega)];simp [go_sem]
 have e1:w1.cell? ⟨w.heap.size+1+1+1,1,none⟩=some (O none 0 0):=by rw [hc _ _ (by simp <;> omega)];simp [go_sem]
 have f0:w1.frozen? ⟨w.heap.size+1+1+1,0,none⟩=false:=by rw [hf _ _ (by simp <;> omega)];simp [go_sem]
 have f1:w1.frozen? ⟨w.heap.size+1+1+1,1,none⟩=false:=by rw [hf _ _ (by simp <;> omega)];simp [go_sem]
 clear hc hf hb1 hb3 HC
 by_cases hr0:r=0
 ·subst hr0
  obtain ⟨n,hm,h1,h6,hln,hkn,hch⟩:=HOK.o (by first | rfl | trivial)
  subst hm
  have KT:=Aa fun (W:World) (hB:Below (w.heap.size+1+1+1) w1 W)=>H7 w n h1 h6 _ _ _ _ (O va vn vc) l k HL.o HK.o hln hkn W (hB1.trans (hB.mono (by omega))) (Nat.le_trans (by omega) hB.size) (by rw [hB.cell (p:=⟨w.heap.size+1,0,none⟩) (by simp <;> omega)];exact c0) (by rw [hB.cell (p:=⟨w.heap.size+1,1,none⟩) (by simp <;> omega)];exact c1) (by rw [hB.cell (p:=⟨w.heap.size+1+1,0,none⟩) (by simp <;> omega)];exact c2) (by rw [hB.cell (p:=⟨w.heap.size+1+1,1,none⟩) (by simp <;> omega)];exact c3)
  have E0:=Aa e0
  have E1:=Aa e1
  have F0:=Aa f0
  have F1:=Aa f1
  clear c0 c1 c2 c3 e0 e1 f0 f1 hln hkn hch HOK HL HK HV
  have hz3:w.heap.size+1+1+1<=w1.heap.size:=by omega
  have hz4:w.heap.size+1+1+1 < w1.heap.size:=by omega
  have hltN:w.heap.size < w.heap.size+1+1+1:=by omega
  have HZ4:=Aa hz4
  have HLN:=Aa hltN
  have HZ3:=Aa hz3
  clear hz3 hz4 hltN
  go_wp2_with fail
  first | go_region_held3 (fun W=>W.cell? ⟨w.heap.size,0,none⟩=some (U zd n)/\W.cell? ⟨w.heap.size,1,none⟩=some (O va vn vc)/\Below (w.heap.size+1+1+1) w1 W) (first | assumption | exact ⟨a0,a1',below_drewN (Below.refl _ _) 1⟩ | exact Ni (by assumption) hbq HZ3.o | exact Ni (by assumption) hbp HZ3.o | exact OJ (OJ (by assumption) HLN.o (Nat.le_refl _) _) HLN.o (Nat.le_refl _) _ | fail) (first | (go_at_call 70;have hsec:=ep0;refine (KT.o _ (by assumption:_/\_/\_).2.2).2.mono ?_;rintro e wq ⟨g2,rfl,hg2,hg2',ho2,hbq⟩;have eq0:wq.cell? ⟨w.heap.size+1+1+1,0,none⟩=some (O none 0 0):=(by rw [(Ap hbq).1 _ _ (bL ep0)];exact ep0);have eq1:wq.cell? ⟨w.heap.size+1+1+1,1,none⟩=some (O none 0 0):=(by rw [(Ap hbq).1 _ _ (bL ep0)];exact ep1);have fq0:wq.frozen? ⟨w.heap.size+1+1+1,0,none⟩=false:=(by rw [(Ap hbq).2 _ _ (bL ep0)];exact fp0);have fq1:wq.frozen? ⟨w.heap.size+1+1+1,1,none⟩=false:=(by rw [(Ap hbq).2 _ _ (bL ep0)];exact fp1)) | (go_at_call 70;refine (KT.o _ (by assumption:_/\_/\_).2.2).1.mono ?_;rintro e wp ⟨g1,rfl,hg1,hg1',ho1,hbp⟩;have ep0:wp.cell? ⟨w.heap.size+1+1+1,0,none⟩=some (O none 0 0):=(by rw [(Ap hbp).1 _ _ HZ4.o];exact E0.o);have ep1:wp.cell? ⟨w.heap.size+1+1+1,1,none⟩=some (O none 0 0):=(by rw [(Ap hbp).1 _ _ HZ4.o];exact E1.o);have fp0:wp.frozen? ⟨w.heap.size+1+1+1,0,none⟩=false:=(by rw [(Ap hbp).2 _ _ HZ4.o];exact F0.o);have fp1:wp.frozen? ⟨w.heap.size+1+1+1,1,none⟩=false:=(by rw [(Ap hbp).2 _ _ HZ4.o];exact F1.o))) | fail
  all_goals go_wp2_with fail
  all_goals
   refine bodyPost_ret (v:=zm #[zh #[O (some ⟨g1,0,none⟩) n n,O (some ⟨g2,0,none⟩) n n],U zd 0]) (by simp [results,Tryz.results46,go_sem,eq0,eq1]) rfl ⟨_,rfl,FP (w:=w) (wa:=w1.drew) (q:=w.heap.size+1+1+1) (f1:=Ec l.r k.r) (f2:=F9 l.w k.w) hB1.size HZ4.o ho1 hg1' hbp.size ho2 hbq hg2 _ _,?_⟩
   have hd1:Ov w w1.drew:=below_drewN hB1 1
   have hd2:=hd1.trans (hbp.mono hd1.size)
   have hd3:=hd2.trans (hbq.mono hd2.size)
   exact (hd3.setCell (by simp;omega) _).setCell (by simp;omega) _
 ·have hne:(r != 0)=true:=by simpa using hr0
  go_wp2_with fail
  refine bodyPost_ret (v:=zm #[zh #[O none 0 0,O none 0 0],U zd r]) (by simp [results,Tryz.results46,go_sem,e0,e1]) rfl ⟨_,rfl,FQ _ _,(hB1.setCell (by simp;omega) _).setCell (by simp;omega) _⟩
attribute [local go_sem ↓] Go.wp_at_zero Go.wp_at_succ
theorem Hz (gn:List (Nat × Nat)) (n who:Nat) (ps:List Pol):ps.all (GL (acts gn n who))=ES gn n who ps:=rfl
theorem Nh {wB W W':World} {b0 o0 b1 o1 b2 o2:Nat} {v0 v1 v2:Value} (h:W.cell? ⟨b0,o0,none⟩=some v0/\W.cell? ⟨b1,o1,none⟩=some v1/\W.cell? ⟨b2,o2,none⟩=some v2/\Ov wB W) (hb:Ov W W'):W'.cell? ⟨b0,o0,none⟩=some v0/\W'.cell? ⟨b1,o1,none⟩=some v1/\W'.cell? ⟨b2,o2,none⟩=some v2/\Ov wB W':=N0 h hb
theorem Oi (args:Array Value) (w:World):(callFunc 71 args).run Tryz.prog w=.ok (.enter 71 args) w:=by simp [go_sem]
theorem IT (ab lb ob n who:Nat) (hn:n<=6) (hw:who < n) (gn:List (Nat × Nat)) (pv:Value) (ps:List Pol) (w:World) (h0:w.cell? ⟨ab,0,none⟩=some (O (some ⟨ob,0,none⟩) n n)) (h1:w.cell? ⟨lb,0,none⟩=some pv) (hr:CC w ob n gn n) (hp:AI w pv ps) (hps:ps.length<=4/\∀ p∈ps,Er n p) :
  Calls Tryz.prog 71 #[U zd who,zj (some ⟨ab,0,none⟩),zj (some ⟨lb,0,none⟩)] w fun e w'=>e=zk (zg (ES gn n who ps))/\Ov w w':=by
 obtain ⟨kb,hne,hc,hk⟩:=hr who hw
 have hrow:Ae w kb n (acts gn n who):=⟨BM _ _ _,fun i hi=>(hk i hi).1⟩
 have hM:=fun (W:World) (hB:Ov w W)=>Et kb n (acts gn n who) pv ps W hn (Ee hrow hB) (Ah hp hB) hps
 simp only [Hz] at hM
 obtain ⟨pa,pn,pc,rfl⟩:=AM hp
 obtain ⟨r,hr⟩:=nm (ES gn n who ps)
 rw [<-hr] at hM ⊢
 have KM:=Aa hM
 have i0:(0:Int)<=(who:Int):=by omega
 have i1:(who:Int) < (n:Int):=by omega
 clear hM hr hp hrow hk hne
 go_enter Tryz.func71,Tryz.ntmps71
 go_wp2_with fail
 first | go_region_held3 (fun W=>W.cell? ⟨ab,0,none⟩=some (O (some ⟨ob,0,none⟩) n n)/\W.cell? ⟨ob,who,none⟩=some (O (some ⟨kb,0,none⟩) n n)/\W.cell? ⟨lb,0,none⟩=some (O pa pn pc)/\Ov w W) (first | assumption | exact ⟨h0,hc,h1,below_drewN (Below.refl _ _) 1⟩ | exact Nh (by assumption) hbp | fail) (first | (go_at_call 72;refine (KM.o _ (by assumption:_/\_/\_/\_).2.2.2).mono ?_;rintro e wp ⟨rfl,hbp⟩)) | fail
 all_goals obtain ⟨-,-,-,hB⟩:=(by assumption:wp.cell? _=_/\_/\_/\_)
 all_goals go_wp2_with fail
 all_goals go_ret
 all_goals exact ⟨rfl,hB⟩
theorem LU (args:Array Value) (w:World):(callFunc 73 args).run Tryz.prog w=.ok (.enter 73 args) w:=by simp [go_sem]
theorem IR (ab lb ob n who:Nat) (hn:n<=6) (hw:who < n) (gn:List (Nat × Nat)) (pv:Value) (ps:List Pol) (w:World) (h0:w.cell? ⟨ab,0,none⟩=some (O (some ⟨ob,0,none⟩) n n)) (h1:w.cell? ⟨lb,1,none⟩=some pv) (hr:CC w ob n gn n) (hp:AI w pv ps) (hps:ps.length<=4/\∀ p∈ps,Er n p) :
  Calls Tryz.prog 73 #[U zd who,zj (some ⟨ab,0,none⟩),zj (some ⟨lb,0,none⟩)] w fun e w'=>e=zk (zg (ES gn n who ps))/\Ov w w':=by
 obtain ⟨kb,hne,hc,hk⟩:=hr who hw
 have hrow:Ae w kb n (acts gn n who):=⟨BM _ _ _,fun i hi=>(hk i hi).1⟩
 have hM:=fun (W:World) (hB:Ov w W)=>Et kb n (acts gn n who) pv ps W hn (Ee hrow hB) (Ah hp hB) hps
 simp only [Hz] at hM
 obtain ⟨pa,pn,pc,rfl⟩:=AM hp
 obtain ⟨r,hr⟩:=nm (ES gn n who ps)
 rw [<-hr] at hM ⊢
 have KM:=Aa hM
 have i0:(0:Int)<=(who:Int):=by omega
 have i1:(who:Int) < (n:Int):=by omega
 clear hM hr hp hrow hk hne
 go_enter Tryz.func73,Tryz.ntmps73
 go_wp2_with fail
 first | go_region_held3 (fun W=>W.cell? ⟨ab,0,none⟩=some (O (some ⟨ob,0,none⟩) n n)/\W.cell? ⟨ob,who,none⟩=some (O (some ⟨kb,0,none⟩) n n)/\W.cell? ⟨lb,1,none⟩=some (O pa pn pc)/\Ov w W) (first | assumption | exact ⟨h0,hc,h1,below_drewN (Below.refl _ _) 1⟩ | exact Nh (by assumption) hbp | fail) (first | (go_at_call 72;refine (KM.o _ (by assumption:_/\_/\_/\_).2.2.2).mono ?_;rintro e wp ⟨rfl,hbp⟩)) | fail
 all_goals obtain ⟨-,-,-,hB⟩:=(by assumption:wp.cell? _=_/\_/\_/\_)
 all_goals go_wp2_with fail
 all_goals go_ret
 all_goals exact ⟨rfl,hB⟩
theorem GS (n:Nat) (h1:1<=n) (hn:n<=6) (ab lb ob:Nat) (gn:List (Nat × Nat)) (v pr pw:Value) (bl:Lab) (w3:World) (h0:w3.cell? ⟨ab,0,none⟩=some (O (some ⟨ob,0,none⟩) n n)) (l0:w3.cell? ⟨lb,0,none⟩=some pr) (l1:w3.cell? ⟨lb,1,none⟩=some pw) (hr:CC w3 ob n gn n) (hp:AI w3 pr bl.r) (hq:AI w3 pw bl.w) (hin:LF n bl) (W:World) (hB:Ov w3 W) :
  (Calls Tryz.prog 70 #[zh #[U zd n,v],.func (.func 71) #[] #[zj (some ⟨ab,0,none⟩),zj (some ⟨lb,0,none⟩)]] W fun e w'=>∃ g,e=zk (O (some ⟨g,0,none⟩) n n)/\W.heap.size<=g/\g < w'.heap.size/\w'.ownsRow W.heap.size 4 1 (O (some ⟨g,0,none⟩) n n) n (Bf (B8 (fun i=>ES gn n i bl.r) n))/\Ov W w') /\
  (Calls Tryz.prog 70 #[zh #[U zd n,v],.func (.func 73) #[] #[zj (some ⟨ab,0,none⟩),zj (some ⟨lb,0,none⟩)]] W fun e w'=>∃ g,e=zk (O (some ⟨g,0,none⟩) n n)/\W.heap.size<=g/\g < w'.heap.size/\w'.ownsRow W.heap.size 4 1 (O (some ⟨g,0,none⟩) n n) n (Bf (B8 (fun i=>ES gn n i bl.w) n))/\Ov W w'):=by
 have up:∀ (W':World),Ov W W'->∀ b o v,w3.cell? ⟨b,o,none⟩=some v->W'.cell? ⟨b,o,none⟩=some v:=fun W' hb b o v h=>by rw [(Ap hb).1 _ _ (Nat.lt_of_lt_of_le (bL h) hB.size),(Ap hB).1 _ _ (bL h)];exact h
 refine ⟨DW 71 _ _ (fun i=>ES gn n i bl.r) n h1 hn v W (Aa fun i hi W' hb=>?_) Oi,DW 73 _ _ (fun i=>ES gn n i bl.w) n h1 hn v W (Aa fun i hi W' hb=>?_) LU⟩
 ·have hB':Ov w3 W':=hB.trans (hb.mono hB.size)
  exact IT ab lb ob n i hn hi gn pr bl.r W' (up W' hb _ _ _ h0) (up W' hb _ _ _ l0) (DZ hr hB') (Ah hp hB') hin.1
 ·have hB':Ov w3 W':=hB.trans (hb.mono hB.size)
  exact IR ab lb ob n i hn hi gn pw bl.w W' (up W' hb _ _ _ h0) (up W' hb _ _ _ l1) (DZ hr hB') (Ah hq hB') hin.2
theorem OH {wB W:World} {b o0 o1 q:Nat} {v0 v1 u:Value} (h:W.cell? ⟨b,o0,none⟩=some v0/\W.cell? ⟨b,o1,none⟩=some v1/\(W.cell? ⟨q,0,none⟩=some u->Ov wB W)) (hq:W.cell? ⟨q,0,none⟩=some u):Ov wB W:=h.2.2 hq
theorem Ng {wB W W':World} {b o0 o1 q:Nat} {v0 v1 u:Value} (h:W.cell? ⟨b,o0,none⟩=some v0/\W.cell? ⟨b,o1,none⟩=some v1/\(W.cell? ⟨q,0,none⟩=some u->Ov wB W)) (hq:W.cell? ⟨q,0,none⟩=some u) (hb:Ov W W'):W'.cell? ⟨b,o0,none⟩=some v0/\W'.cell? ⟨b,o1,none⟩=some v1/\(W'.cell? ⟨q,0,none⟩=some u->Ov wB W'):=by
 obtain ⟨h0,h1,h2⟩:=h
 have hB:=h2 hq
 obtain ⟨hc,hf⟩:=Ap hb
 exact ⟨by rw [hc _ _ (bL h0)];exact h0,by rw [hc _ _ (bL h1)];exact h1,fun _=>hB.trans (hb.mono hB.size)⟩
theorem Pi {wB W:World} {b o0 o1 q g n:Nat} {v0 v1 u y:Value} (h:W.cell? ⟨b,o0,none⟩=some v0/\W.cell? ⟨b,o1,none⟩=some v1/\(W.cell? ⟨q,0,none⟩=some (O none 0 0)->Ov wB W)) (hb:b≠q) (hq:W.cell? ⟨q,0,none⟩=some u) :
  ((W.setCell ⟨q,0,none⟩ (O (some ⟨g,0,none⟩) n n)).setCell ⟨q,1,none⟩ y).cell? ⟨b,o0,none⟩=some v0/\((W.setCell ⟨q,0,none⟩ (O (some ⟨g,0,none⟩) n n)).setCell ⟨q,1,none⟩ y).cell? ⟨b,o1,none⟩=some v1/\(((W.setCell ⟨q,0,none⟩ (O (some ⟨g,0,none⟩) n n)).setCell ⟨q,1,none⟩ y).cell? ⟨q,0,none⟩=some (O none 0 0)->Ov wB ((W.setCell ⟨q,0,none⟩ (O (some ⟨g,0,none⟩) n n)).setCell ⟨q,1,none⟩ y)):=by
 obtain ⟨h0,h1,h2⟩:=h
 have hne:∀ o,((W.setCell ⟨q,0,none⟩ (O (some ⟨g,0,none⟩) n n)).setCell ⟨q,1,none⟩ y).cell? ⟨b,o,none⟩=W.cell? ⟨b,o,none⟩:=fun o=>by
  rw [World.cell?_setCell_other _ _ _ _ (by intro e;injection e with e;exact hb e.symm),World.cell?_setCell_other _ _ _ _ (by intro e;injection e with e;exact hb e.symm)]
 refine ⟨by rw [hne];exact h0,by rw [hne];exact h1,fun e=>?_⟩
 rw [World.cell?_setCell_other _ _ _ _ (by simp),World.cell?_setCell_same _ _ _ hq] at e
 cases e
theorem JC {m:Int} {gs:List (Int × Int)} {bl:Lab} (h:Bq m gs bl=0):∃ n:Nat,m=n/\1<=n/\n<=6/\(AB gs).map toI=gs/\(AB gs).length<=20/\(∀ g∈AB gs,g.1 < n/\g.2 < n)/\LF n bl/\AQ m gs=0:=by
 unfold Bq at h
 split at h
 ·rename_i hc
  obtain ⟨n,hm,h1,h2,h3,h4,h5⟩:=DQ hc
  subst hm
  exact ⟨n,rfl,h1,h2,h3,h4,h5,Gq h,hc⟩
 ·rename_i hc
  exact absurd h hc
theorem Mo:MV:=by
 intro m v gs pr pw bl w hv hp hq
 have HV:=Aa hv
 have HP:=Aa hp
 have HQ:=Aa hq
 obtain ⟨va,vn,vc,rfl⟩:=Co hv
 obtain ⟨pa,pn,pc,rfl⟩:=AM hp
 obtain ⟨qa,qn,qc,rfl⟩:=AM hq
 have hb3:Ov w (((w.alloc (ze #[U zd m,O va vn vc] 24)).alloc (ze #[O pa pn pc,O qa qn qc] 39)).alloc (ze #[O none 0 0,O none 0 0] 50)):=((bA w _).alloc (by simp) _).alloc (by simp;omega) _
 have hcall:=JK m (O va vn vc) gs (O pa pn pc) (O qa qn qc) bl _ (Af HV.o hb3) (Ah HP.o hb3) (Ah HQ.o hb3)
 have hok:=fun h=>JC (m:=m) (gs:=gs) (bl:=bl) h
 obtain ⟨r,hr⟩:=nm (Bq m gs bl)
 rw [<-hr] at hcall hok ⊢
 have HC:=Aa hcall
 have HOK:=Aa hok
 clear hv hp hq hcall hok hr
 go_enter Tryz.func23,Tryz.ntmps23
 go_wp2_with fail
 refine (HC.o).mono ?_
 rintro e w1 ⟨rfl,hb1⟩
 have hB1:=hb3.trans (hb1.mono (by simp <;> omega))
 have hz1:=hb1.size
 simp at hz1
 obtain ⟨hc,hf⟩:=Ap hb1
 have a0:w1.cell? ⟨w.heap.size,0,none⟩=some (U zd m):=by rw [hc _ _ (by simp <;> omega)];simp [go_sem]
 have a1:w1.cell? ⟨w.heap.size,1,none⟩=some (O va vn vc):=by rw [hc _ _ (by simp <;> omega)];simp [go_sem]
 have c0:w1.cell? ⟨w.heap.size+1,0,none⟩=some (O pa pn pc):=by rw [hc _ _ (by simp <;> omega)];simp [go_sem]
 have c1:w1.cell? ⟨w.heap.size+1,1,none⟩=some (O qa qn qc):=by rw [hc _ _ (by simp <;> omega)];simp [go_sem]
 have e0:w1.cell? ⟨w.heap.size+1+1,0,none⟩=some (O none 0 0):=by rw [hc _ _ (by simp <;> omega)];simp [go_sem]
 have e1:w1.cell? ⟨w.heap.size+1+1,1,none⟩=some (O none 0 0):=by rw [hc _ _ (by simp <;> omega)];simp [go_sem]
 have f0:w1.frozen? ⟨w.heap.size+1+1,0,none⟩=false:=by rw [hf _ _ (by simp <;> omega)];simp [go_sem]
 have f1:w1.frozen? ⟨w.heap.size+1+1,1,none⟩=false:=by rw [hf _ _ (by simp <;> omega)];simp [go_sem]
 clear hc hf hb1 hb3 HC
 by_cases hr0:r=0
 ·subst hr0
  obtain ⟨n,hm,h1,h6,hgs,hlen,hgb,hin,hch⟩:=HOK.o (by first | rfl | trivial)
  subst hm
  have hfor:=LN n h1 h6 (O va vn vc) (AB gs) w1 (by rw [hgs];exact Af HV.o hB1) hlen hgb (by rw [hgs];exact hch)
  have HFOR:=Aa hfor
  have HIN:=Aa hin
  clear hfor hin hgs hlen hgb hch HOK HV
  go_wp2_with fail
  refine (HFOR.o).mono ?_
  rintro e w2 ⟨ob,rfl,hrows,hb2⟩
  obtain ⟨w3,hw3⟩:=nm (w2.alloc (ze #[O (some ⟨ob,0,none⟩) n n] 137))
  have hb23:Ov w2 w3:=by rw [hw3];exact bA w2 _
  have hb13:Ov w1 w3:=hb2.trans (hb23.mono hb2.size)
  have hB3:=hB1.trans (hb13.mono hB1.size)
  have hz3:=hb13.size
  have up:∀ b o v,w1.cell? ⟨b,o,none⟩=some v->w3.cell? ⟨b,o,none⟩=some v:=fun b o v h=>by rw [(Ap hb13).1 _ _ (bL h)];exact h
  have hab:w3.cell? ⟨w2.heap.size,0,none⟩=some (O (some ⟨ob,0,none⟩) n n):=by rw [hw3];simp [go_sem]
  have KT:=Aa fun (W:World) (hB:Ov w3 W)=>GS n h1 h6 w2.heap.size (w.heap.size+1) ob (AB gs) (O va vn vc) _ _ bl w3 hab (up _ _ _ c0) (up _ _ _ c1) (DZ hrows hb23) (Ah HP.o hB3) (Ah HQ.o hB3) HIN.o W hB
  have b0:=up _ _ _ a0
  have b1:=up _ _ _ a1
  have E0:=Aa (up _ _ _ e0)
  have E1:=Aa (up _ _ _ e1)
  have F0:Hx (w3.frozen? ⟨w.heap.size+1+1,0,none⟩=false):=by rw [(Ap hb13).2 _ _ (bL e0)];exact f0
  have F1:Hx (w3.frozen? ⟨w.heap.size+1+1,1,none⟩=false):=by rw [(Ap hb13).2 _ _ (bL e0)];exact f1
  have HZ4:Hx (w.heap.size+1+1 < w3.heap.size):=by show _ < _;omega
  have HNE:Hx (w.heap.size≠w.heap.size+1+1):=by show _≠_;omega
  have HW3:=Aa hw3
  have ED:Hx (w3.drew.cell? ⟨w.heap.size+1+1,0,none⟩=some (O none 0 0)):=E0.o
  clear a0 a1 c0 c1 e0 e1 f0 f1 hab up hrows hb2 hb23 hb13 hw3 HP HQ HIN HFOR hB1
  go_wp2_with fail
  rw [<-HW3.o]
  clear HW3
  first | go_region_held3 (fun W=>W.cell? ⟨w.heap.size,0,none⟩=some (U zd n)/\W.cell? ⟨w.heap.size,1,none⟩=some (O va vn vc)/\(W.cell? ⟨w.heap.size+1+1,0,none⟩=some (O none 0 0)->Ov w3 W)) (first | assumption | exact ⟨b0,b1,fun _=>below_drewN (Below.refl _ _) 1⟩ | exact Ng (by assumption) ep0 hbq | exact Ng (by assumption) ED.o hbp | exact Pi (by assumption) HNE.o eq0 | fail) (first | (go_at_call 70;have hsec:=ep0;refine (KT.o _ (OH (by assumption) ep0)).2.mono ?_;rintro e wq ⟨g2,rfl,hg2,hg2',ho2,hbq⟩;have eq0:wq.cell? ⟨w.heap.size+1+1,0,none⟩=some (O none 0 0):=(by rw [(Ap hbq).1 _ _ (bL ep0)];exact ep0);have eq1:wq.cell? ⟨w.heap.size+1+1,1,none⟩=some (O none 0 0):=(by rw [(Ap hbq).1 _ _ (bL ep0)];exact ep1);have fq0:wq.frozen? ⟨w.heap.size+1+1,0,none⟩=false:=(by rw [(Ap hbq).2 _ _ (bL ep0)];exact fp0);have fq1:wq.frozen? ⟨w.heap.size+1+1,1,none⟩=false:=(by rw [(Ap hbq).2 _ _ (bL ep0)];exact fp1)) | (go_at_call 70;refine (KT.o _ (OH (by assumption) ED.o)).1.mono ?_;rintro e wp ⟨g1,rfl,hg1,hg1',ho1,hbp⟩;have ep0:wp.cell? ⟨w.heap.size+1+1,0,none⟩=some (O none 0 0):=(by rw [(Ap hbp).1 _ _ HZ4.o];exact E0.o);have ep1:wp.cell? ⟨w.heap.size+1+1,1,none⟩=some (O none 0 0):=(by rw [(Ap hbp).1 _ _ HZ4.o];exact E1.o);have fp0:wp.frozen? ⟨w.heap.size+1+1,0,none⟩=false:=(by rw [(Ap hbp).2 _ _ HZ4.o];exact F0.o);have fp1:wp.frozen? ⟨w.heap.size+1+1,1,none⟩=false:=(by rw [(Ap hbp).2 _ _ HZ4.o];exact F1.o))) | fail
  all_goals go_wp2_with fail
  all_goals
   refine bodyPost_ret (v:=zm #[zh #[O (some ⟨g1,0,none⟩) n n,O (some ⟨g2,0,none⟩) n n],U zd 0]) (by simp [results,Tryz.results23,go_sem,eq0,eq1]) rfl ⟨_,rfl,FP (w:=w) (wa:=w3.drew) (q:=w.heap.size+1+1) (f1:=fun i=>ES (AB gs) n i bl.r) (f2:=fun i=>ES (AB gs) n i bl.w) hB3.size HZ4.o ho1 hg1' hbp.size ho2 hbq hg2 _ _,?_⟩
   have hd1:Ov w w3.drew:=below_drewN hB3 1
   have hd2:=hd1.trans (hbp.mono hd1.size)
   have hd3:=hd2.trans (hbq.mono hd2.size)
   exact (hd3.setCell (by simp;omega) _).setCell (by simp;omega) _
 ·have hne:(r != 0)=true:=by simpa using hr0
  go_wp2_with fail
  exact bodyPost_ret (v:=zm #[zh #[O none 0 0,O none 0 0],U zd r]) (by simp [results,Tryz.results23,go_sem,e0,e1]) rfl ⟨_,rfl,FQ _ _,(hB1.setCell (by simp;omega) _).setCell (by simp;omega) _⟩
end Go.Proofs.YtfffpjkcfnekaaaGreat
namespace Go.Proofs.YtfffpjkcfnekaaaGreat.Ex
open Go.RowKit
open Go.Value renaming slice -> O, int -> U, bool -> zg, agg -> zh, pointer -> zj, tuple -> zm
open Go.IntKind renaming i64 -> zd
open Go.Obj renaming cells -> ze
open Go.Ending renaming returned -> zk
theorem B4 {w:World} {B B' e s:Nat} {v:Value} {n:Nat} {xs:List Value} (h:w.ownsRow B e s v n xs) (hb:B'<=B):w.ownsRow B' e s v n xs:=by
 obtain ⟨h1,h | ⟨g,cap,cur,h2,h3,h4⟩⟩:=h
 ·exact ⟨h1,Or.inl h⟩
 ·exact ⟨h1,Or.inr ⟨g,cap,cur,h2,Nat.le_trans hb h3,h4⟩⟩
theorem Aj {w:World} {B e s:Nat} {v:Value} {n:Nat} {xs:List Value} (h:w.ownsRow B e s v n xs):∃ a n c,v=O a n c:=by
 obtain ⟨h1,⟨h,_⟩ | ⟨g,cap,cur,h2,h3,h4⟩⟩:=h
 ·exact ⟨_,_,_,h⟩
 ·exact ⟨_,_,_,h2⟩
theorem I3 (m:Int) (ga gn gc) (sa sn sc ya yn yc oa on oc va vn vc fa fn fc ba bn bc la ln lc ka kn kc gs) (lr lw kr kw:Value) (l k) (w:World) (hg:AG w (O ga gn gc) gs) (hl:A7 w (zh #[lr,lw]) l) (hk:A7 w (zh #[kr,kw]) k) (h2:Ei m gs l k=0) :
  Calls Tryz.prog 57 #[zh #[U zd m,O ga gn gc,O sa sn sc,O ya yn yc,O oa on oc,O va vn vc,O fa fn fc,O ba bn bc,O la ln lc,O ka kn kc],zh #[lr,lw],zh #[kr,kw]] w fun e w'=>e=zk (zg (Ay l k m.toNat))/\Ov w w':=by
 have hbel:Ov w (((w.alloc (ze #[U zd m,O ga gn gc,O sa sn sc,O ya yn yc,O oa on oc,O va vn vc,O fa fn fc,O ba bn bc,O la ln lc,O ka kn kc] 108)).alloc (ze #[lr,lw] 50)).alloc (ze #[kr,kw] 50)):=((bA w _).alloc (by simp) _).alloc (by simp;omega) _
 have K:=Aa (JI m (O ga gn gc) gs (zh #[lr,lw]) (zh #[kr,kw]) l k _ (Af hg hbel) (Aw hl hbel) (Aw hk hbel))
 rw [h2] at K
 obtain ⟨a1,n1,c1',rfl⟩:∃ a n c,lr=O a n c:=by obtain ⟨x,y,e,⟨a,c,e2,-⟩,-⟩:=hl;simp at e;obtain ⟨rfl,rfl⟩:=e;exact ⟨_,_,_,e2⟩
 obtain ⟨a2,n2,c2',rfl⟩:∃ a n c,lw=O a n c:=by obtain ⟨x,y,e,-,⟨a,c,e2,-⟩⟩:=hl;simp at e;obtain ⟨rfl,rfl⟩:=e;exact ⟨_,_,_,e2⟩
 obtain ⟨a3,n3,c3',rfl⟩:∃ a n c,kr=O a n c:=by obtain ⟨x,y,e,⟨a,c,e2,-⟩,-⟩:=hk;simp at e;obtain ⟨rfl,rfl⟩:=e;exact ⟨_,_,_,e2⟩
 obtain ⟨a4,n4,c4',rfl⟩:∃ a n c,kw=O a n c:=by obtain ⟨x,y,e,-,⟨a,c,e2,-⟩⟩:=hk;simp at e;obtain ⟨rfl,rfl⟩:=e;exact ⟨_,_,_,e2⟩
 obtain ⟨c0,c1⟩:=rc2 (MR w [U zd m,O ga gn gc,O sa sn sc,O ya yn yc,O oa on oc,O va vn vc,O fa fn fc,O ba bn bc,O la ln lc,O ka kn kc] 108 (ze #[O a1 n1 c1',O a2 n2 c2'] 50) (ze #[O a3 n3 c3',O a4 n4 c4'] 50))
 obtain ⟨d0,d1⟩:=rc2 (MQ w (ze #[U zd m,O ga gn gc,O sa sn sc,O ya yn yc,O oa on oc,O va vn vc,O fa fn fc,O ba bn bc,O la ln lc,O ka kn kc] 108) [O a1 n1 c1',O a2 n2 c2'] 50 (ze #[O a3 n3 c3',O a4 n4 c4'] 50))
 obtain ⟨e0,e1⟩:=rc2 (Ox w (ze #[U zd m,O ga gn gc,O sa sn sc,O ya yn yc,O oa on oc,O va vn vc,O fa fn fc,O ba bn bc,O la ln lc,O ka kn kc] 108) (ze #[O a1 n1 c1',O a2 n2 c2'] 50) [O a3 n3 c3',O a4 n4 c4'] 50)
 clear hg hl hk h2
 go_enter Tryz.func57,Tryz.ntmps57
 go_wp2_with fail
 refine (K.o).mono ?_
 rintro e w1 ⟨rfl,hb1⟩
 have hB1:=hbel.trans (hb1.mono (by simp <;> omega))
 clear K c0 c1 d0 d1 e0 e1
 go_wp2_with fail
 exact bodyPost_ret (v:=zg (Ay l k m.toNat)) (by simp [results,Tryz.results57,go_sem]) rfl ⟨rfl,hB1⟩
theorem JD (m:Int) (ga gn gc) (sa sn sc ya yn yc oa on oc va vn vc fa fn fc ba bn bc la ln lc ka kn kc gs) (lr lw kr kw:Value) (l k) (w:World) (hg:AG w (O ga gn gc) gs) (hl:A7 w (zh #[lr,lw]) l) (hk:A7 w (zh #[kr,kw]) k) (h2:Ei m gs l k=0) :
  Calls Tryz.prog 58 #[zh #[U zd m,O ga gn gc,O sa sn sc,O ya yn yc,O oa on oc,O va vn vc,O fa fn fc,O ba bn bc,O la ln lc,O ka kn kc],zh #[lr,lw],zh #[kr,kw]] w fun e w'=>∃ vj,e=zk vj/\Bh w w' vj (Bp l k m.toNat)/\Ov w w':=by
 have hbel:Ov w ((((w.alloc (ze #[U zd m,O ga gn gc,O sa sn sc,O ya yn yc,O oa on oc,O va vn vc,O fa fn fc,O ba bn bc,O la ln lc,O ka kn kc] 108)).alloc (ze #[lr,lw] 50)).alloc (ze #[kr,kw] 50)).alloc (ze #[O none 0 0,O none 0 0] 50)):=(((bA w _).alloc (by simp) _).alloc (by simp;omega) _).alloc (by simp;omega) _
 have K:=Aa (NZ m (O ga gn gc) gs (zh #[lr,lw]) (zh #[kr,kw]) l k _ (Af hg hbel) (Aw hl hbel) (Aw hk hbel))
 rw [h2] at K
 obtain ⟨a1,n1,c1',rfl⟩:∃ a n c,lr=O a n c:=by obtain ⟨x,y,e,⟨a,c,e2,-⟩,-⟩:=hl;simp at e;obtain ⟨rfl,rfl⟩:=e;exact ⟨_,_,_,e2⟩
 obtain ⟨a2,n2,c2',rfl⟩:∃ a n c,lw=O a n c:=by obtain ⟨x,y,e,-,⟨a,c,e2,-⟩⟩:=hl;simp at e;obtain ⟨rfl,rfl⟩:=e;exact ⟨_,_,_,e2⟩
 obtain ⟨a3,n3,c3',rfl⟩:∃ a n c,kr=O a n c:=by obtain ⟨x,y,e,⟨a,c,e2,-⟩,-⟩:=hk;simp at e;obtain ⟨rfl,rfl⟩:=e;exact ⟨_,_,_,e2⟩
 obtain ⟨a4,n4,c4',rfl⟩:∃ a n c,kw=O a n c:=by obtain ⟨x,y,e,-,⟨a,c,e2,-⟩⟩:=hk;simp at e;obtain ⟨rfl,rfl⟩:=e;exact ⟨_,_,_,e2⟩
 obtain ⟨c0,c1⟩:=rc2 (MR w [U zd m,O ga gn gc,O sa sn sc,O ya yn yc,O oa on oc,O va vn vc,O fa fn fc,O ba bn bc,O la ln lc,O ka kn kc] 108 (ze #[O a1 n1 c1',O a2 n2 c2'] 50) (ze #[O a3 n3 c3',O a4 n4 c4'] 50))
 obtain ⟨d0,d1⟩:=rc2 (MQ w (ze #[U zd m,O ga gn gc,O sa sn sc,O ya yn yc,O oa on oc,O va vn vc,O fa fn fc,O ba bn bc,O la ln lc,O ka kn kc] 108) [O a1 n1 c1',O a2 n2 c2'] 50 (ze #[O a3 n3 c3',O a4 n4 c4'] 50))
 obtain ⟨e0,e1⟩:=rc2 (Ox w (ze #[U zd m,O ga gn gc,O sa sn sc,O ya yn yc,O oa on oc,O va vn vc,O fa fn fc,O ba bn bc,O la ln lc,O ka kn kc] 108) (ze #[O a1 n1 c1',O a2 n2 c2'] 50) [O a3 n3 c3',O a4 n4 c4'] 50)
 clear hg hl hk h2
 go_enter Tryz.func58,Tryz.ntmps58
 go_wp2_with fail
 refine (K.o).mono ?_
 rintro e w1 ⟨vj,rfl,hf,hb1⟩
 rw [if_pos trivial] at hf
 have hB1:=hbel.trans (hb1.mono (by simp <;> omega))
 obtain ⟨vr,vw,rfl,hr,hw,hap⟩:=hf
 have hr1:=B4 (B':=w.heap.size+1+1+1+1) hr (by simp)
 have hw1:=B4 (B':=w.heap.size+1+1+1+1) hw (by simp)
 obtain ⟨p1,q1,r1,rfl⟩:=Aj hr1
 obtain ⟨p2,q2,r2,rfl⟩:=Aj hw1
 have hbz:Ov w1 (w1.alloc (ze #[O p1 q1 r1,O p2 q2 r2] 50)):=bA w1 _
 have hlt:w.heap.size+1+1+1 < w1.heap.size:=by have:=hb1.size;simp at this;omega
 obtain ⟨hc,hfr⟩:=Ap hb1
 obtain ⟨hc2,hfr2⟩:=Ap hbz
 have x0:(w1.alloc (ze #[O p1 q1 r1,O p2 q2 r2] 50)).cell? ⟨w.heap.size+1+1+1,0,none⟩=some (O none 0 0):=by rw [hc2 _ _ (by first | omega | (simp <;> omega)),hc _ _ (by first | omega | (simp <;> omega))];simp [go_sem]
 have x1:(w1.alloc (ze #[O p1 q1 r1,O p2 q2 r2] 50)).cell? ⟨w.heap.size+1+1+1,1,none⟩=some (O none 0 0):=by rw [hc2 _ _ (by first | omega | (simp <;> omega)),hc _ _ (by first | omega | (simp <;> omega))];simp [go_sem]
 have f0:(w1.alloc (ze #[O p1 q1 r1,O p2 q2 r2] 50)).frozen? ⟨w.heap.size+1+1+1,0,none⟩=false:=by rw [hfr2 _ _ (by first | omega | (simp <;> omega)),hfr _ _ (by first | omega | (simp <;> omega))];simp [go_sem]
 have f1:(w1.alloc (ze #[O p1 q1 r1,O p2 q2 r2] 50)).frozen? ⟨w.heap.size+1+1+1,1,none⟩=false:=by rw [hfr2 _ _ (by first | omega | (simp <;> omega)),hfr _ _ (by first | omega | (simp <;> omega))];simp [go_sem]
 have HR:=Aa (CQ hr1 hbz)
 have HW:=Aa (CQ hw1 hbz)
 have HB:=Aa (hB1.trans (hbz.mono hB1.size))
 have HAP:=Aa hap
 have HLT:=Aa hlt
 clear K c0 c1 d0 d1 e0 e1 hr hw hr1 hw1 hap hc hfr hc2 hfr2 hb1 hB1 hbel hlt hbz
 go_wp2_with fail
 exact bodyPost_ret (v:=zh #[O p1 q1 r1,O p2 q2 r2]) (by simp [results,Tryz.results58,go_sem,x0,x1]) rfl ⟨_,rfl,⟨_,_,rfl,B4 (Bl (Bl HR.o (by simp) _) (by simp) _) (by omega),B4 (Bl (Bl HW.o (by simp) _) (by simp) _) (by omega),HAP.o⟩,(HB.o.setCell (by simp;omega) _).setCell (by simp;omega) _⟩
theorem GR (m:Int) (ga gn gc) (sa sn sc ya yn yc oa on oc va vn vc fa fn fc ba bn bc la ln lc ka kn kc gs) (pr pw:Value) (bl:Lab) (w:World) (hg:AG w (O ga gn gc) gs) (hl:AI w pr bl.r) (hk:AI w pw bl.w) (h2:Bq m gs bl=0) :
  Calls Tryz.prog 114 #[zh #[U zd m,O ga gn gc,O sa sn sc,O ya yn yc,O oa on oc,O va vn vc,O fa fn fc,O ba bn bc,O la ln lc,O ka kn kc],zh #[pr,pw]] w fun e w'=>∃ vj,e=zk vj/\Bh w w' vj (Az (AB gs) m.toNat bl)/\Ov w w':=by
 obtain ⟨a1,n1,z1,rfl⟩:=AM hl
 obtain ⟨a2,n2,z2,rfl⟩:=AM hk
 have hbel:Ov w (((w.alloc (ze #[U zd m,O ga gn gc,O sa sn sc,O ya yn yc,O oa on oc,O va vn vc,O fa fn fc,O ba bn bc,O la ln lc,O ka kn kc] 108)).alloc (ze #[O a1 n1 z1,O a2 n2 z2] 39)).alloc (ze #[O none 0 0,O none 0 0] 50)):=((bA w _).alloc (by simp) _).alloc (by simp;omega) _
 have K:=Aa (Mo m (O ga gn gc) gs (O a1 n1 z1) (O a2 n2 z2) bl _ (Af hg hbel) (Ah hl hbel) (Ah hk hbel))
 rw [h2] at K
 obtain ⟨c0,c1⟩:=rc2 (MR w [U zd m,O ga gn gc,O sa sn sc,O ya yn yc,O oa on oc,O va vn vc,O fa fn fc,O ba bn bc,O la ln lc,O ka kn kc] 108 (ze #[O a1 n1 z1,O a2 n2 z2] 39) (ze #[O none 0 0,O none 0 0] 50))
 obtain ⟨d0,d1⟩:=rc2 (MQ w (ze #[U zd m,O ga gn gc,O sa sn sc,O ya yn yc,O oa on oc,O va vn vc,O fa fn fc,O ba bn bc,O la ln lc,O ka kn kc] 108) [O a1 n1 z1,O a2 n2 z2] 39 (ze #[O none 0 0,O none 0 0] 50))
 clear hg hl hk h2
 go_enter Tryz.func114,Tryz.ntmps114
 go_wp2_with fail
 refine (K.o).mono ?_
 rintro e w1 ⟨vj,rfl,hf,hb1⟩
 rw [if_pos trivial] at hf
 have hB1:=hbel.trans (hb1.mono (by simp <;> omega))
 obtain ⟨vr,vw,rfl,hr,hw,hap⟩:=hf
 have hr1:=B4 (B':=w.heap.size+1+1+1) hr (by simp)
 have hw1:=B4 (B':=w.heap.size+1+1+1) hw (by simp)
 obtain ⟨p1,q1,r1,rfl⟩:=Aj hr1
 obtain ⟨p2,q2,r2,rfl⟩:=Aj hw1
 have hbz:Ov w1 (w1.alloc (ze #[O p1 q1 r1,O p2 q2 r2] 50)):=bA w1 _
 have hlt:w.heap.size+1+1 < w1.heap.size:=by have:=hb1.size;simp at this;omega
 obtain ⟨hc,hfr⟩:=Ap hb1
 obtain ⟨hc2,hfr2⟩:=Ap hbz
 have x0:(w1.alloc (ze #[O p1 q1 r1,O p2 q2 r2] 50)).cell? ⟨w.heap.size+1+1,0,none⟩=some (O none 0 0):=by rw [hc2 _ _ (by first | omega | (simp <;> omega)),hc _ _ (by first | omega | (simp <;> omega))];simp [go_sem]
 have x1:(w1.alloc (ze #[O p1 q1 r1,O p2 q2 r2] 50)).cell? ⟨w.heap.size+1+1,1,none⟩=some (O none 0 0):=by rw [hc2 _ _ (by first | omega | (simp <;> omega)),hc _ _ (by first | omega | (simp <;> omega))];simp [go_sem]
 have f0:(w1.alloc (ze #[O p1 q1 r1,O p2 q2 r2] 50)).frozen? ⟨w.heap.size+1+1,0,none⟩=false:=by rw [hfr2 _ _ (by first | omega | (simp <;> omega)),hfr _ _ (by first | omega | (simp <;> omega))];simp [go_sem]
 have f1:(w1.alloc (ze #[O p1 q1 r1,O p2 q2 r2] 50)).frozen? ⟨w.heap.size+1+1,1,none⟩=false:=by rw [hfr2 _ _ (by first | omega | (simp <;> omega)),hfr _ _ (by first | omega | (simp <;> omega))];simp [go_sem]
 have HR:=Aa (CQ hr1 hbz)
 have HW:=Aa (CQ hw1 hbz)
 have HB:=Aa (hB1.trans (hbz.mono hB1.size))
 have HAP:=Aa hap
 have HLT:=Aa hlt
 clear K c0 c1 d0 d1 hr hw hr1 hw1 hap hc hfr hc2 hfr2 hb1 hB1 hbel hlt hbz
 go_wp2_with fail
 exact bodyPost_ret (v:=zh #[O p1 q1 r1,O p2 q2 r2]) (by simp [results,Tryz.results114,go_sem,x0,x1]) rfl ⟨_,rfl,⟨_,_,rfl,B4 (Bl (Bl HR.o (by simp) _) (by simp) _) (by omega),B4 (Bl (Bl HW.o (by simp) _) (by simp) _) (by omega),HAP.o⟩,(HB.o.setCell (by simp;omega) _).setCell (by simp;omega) _⟩
end Go.Proofs.YtfffpjkcfnekaaaGreat.Ex
namespace Go.Proofs.YtfffpjkcfnekaaaGreat.Ex
def Bu (n:Nat):Lev:=⟨List.replicate n true,List.replicate n false⟩
def AC:Nat->D->List Int
 | 0,_=>[]
 | k+1,d=>if AH d=2 then [Ba d] else (AF d).flatMap (AC k)
def AX (n:Nat) (L:List Lev) (l:Lev) (vs:List Int):Lev:=vs.foldl (fun l v=>Bp l (L.getD v.toNat AE) n) l
section walk
variable {σ:Type} (n K:Nat) (lev:σ->List Lev) (step:Int->D->Lev->σ->σ)
def Ea (cnt:D->Nat) (cnt1:List D->Nat) (rec:List D->Int->Lev->σ->σ) (p:Lev) (q:Int × σ) (d:D):Int × σ:=
 (q.1+(cnt d:Int),rec (Av d) (q.1+1+(cnt1 (Ar d):Int)) (AX n (lev (step q.1 d p q.2)) p (AC K (AR d)))
  (rec (Ar d) (q.1+1) (AX n (lev (step q.1 d p q.2)) p (AC K (AR d))) (step q.1 d p q.2)))
def goS:Nat->List D->Int->Lev->σ->σ
 | 0,_,_,_,st=>st
 | k+1,l,a,p,st=>(l.foldl (Ea n K lev step (CM (k+1)) (A4 k) (goS k) p) (a,st)).2
def goF (flev:σ->List Lev) (kf:Nat) (q:Int × σ) (x:Nat × FnD):Int × σ:=
 (q.1+(A4 kf x.2.body:Int),goS n K lev step kf x.2.body q.1 ((flev q.2).getD x.1 AE) q.2)
def Ct (flev:σ->List Lev) (kf:Nat) (fs:List FnD) (main:List D) (st:σ):σ:=
 let q:=((List.range fs.length).zip fs).foldl (goF n K lev step flev kf) (0,st)
 goS n K lev step kf main q.1 (Bu n) q.2
theorem Df {R:σ->σ->Prop} (hr:∀ st,R st st) (ht:∀ {a b c},R a b->R b c->R a c) (hs:∀ a d p st,R st (step a d p st)) :
  ∀ (k:Nat) (l:List D) (a:Int) (p:Lev) (st:σ),R st (goS n K lev step k l a p st):=by
 intro k
 induction k with
 | zero=>intro l a p st;exact hr st
 | succ k ih=>
  intro l
  unfold goS
  induction l with
  | nil=>intro a p st;exact hr st
  | cons d l ihl=>
   intro a p st
   rw [List.foldl_cons]
   refine ht ?_ (ihl _ p _)
   exact ht (hs _ _ _ _) (ht (ih _ _ _ _) (ih _ _ _ _))
theorem FO {R:σ->σ->Prop} (hr:∀ st,R st st) (ht:∀ {a b c},R a b->R b c->R a c) (hs:∀ a d p st,R st (step a d p st)) (flev:σ->List Lev) (kf:Nat) (fs main) (st:σ) :
  R st (Ct n K lev step flev kf fs main st):=by
 unfold Ct
 have h:∀ (xs:List (Nat × FnD)) (q:Int × σ),R q.2 (xs.foldl (goF n K lev step flev kf) q).2:=by
  intro xs
  induction xs with
  | nil=>intro q;exact hr _
  | cons x xs ih=>
   intro q
   rw [List.foldl_cons]
   exact ht (Df n K lev step hr ht hs _ _ _ _ _) (ih (goF n K lev step flev kf q x))
 exact ht (h _ (0,st)) (Df n K lev step hr ht hs _ _ _ _ _)
theorem Gw {P:Nat->D->Prop} {P1:D->Prop} (hP:∀ k d,P (k+1) d->P1 d/\(∀ s∈Ar d,P k s)/\∀ s∈Av d,P k s) {R:σ->σ->Prop} (hr:∀ st,R st st) (ht:∀ {a b c},R a b->R b c->R a c) (hs:∀ a d p st,P1 d->R st (step a d p st)) :
  ∀ (k:Nat) (l:List D) (a:Int) (p:Lev) (st:σ),(∀ s∈l,P k s)->R st (goS n K lev step k l a p st):=by
 intro k
 induction k with
 | zero=>intro l a p st _;exact hr st
 | succ k ih=>
  intro l
  unfold goS
  induction l with
  | nil=>intro a p st _;exact hr st
  | cons d l ihl=>
   intro a p st hl
   obtain ⟨h1,h2,h3⟩:=hP k d (hl d (by simp))
   rw [List.foldl_cons]
   refine ht ?_ (ihl _ p _ fun s hs=>hl s (by simp [hs]))
   exact ht (hs _ _ _ _ h1) (ht (ih _ _ _ _ h2) (ih _ _ _ _ h3))
theorem Fd {P Pm:Nat->D->Prop} {P1:D->Prop} (hPm:∀ k d,Pm (k+1) d->P1 d/\(∀ s∈Ar d,Pm k s)/\∀ s∈Av d,Pm k s) {Q:Nat->Nat->D->Prop} (hQ:∀ i k d,Q i (k+1) d->P1 d/\(∀ s∈Ar d,Q i k s)/\∀ s∈Av d,Q i k s)
  {R:σ->σ->Prop} (hr:∀ st,R st st) (ht:∀ {a b c},R a b->R b c->R a c) (hs:∀ a d p st,P1 d->R st (step a d p st)) (flev:σ->List Lev) (kf:Nat) (fs:List FnD) (main:List D) (st:σ) (hf:∀ i (h:i < fs.length),∀ s∈fs[i].body,Q i kf s) (hm:∀ s∈main,Pm kf s) :
  R st (Ct n K lev step flev kf fs main st):=by
 unfold Ct
 have h:∀ (xs:List (Nat × FnD)) (q:Int × σ),(∀ x∈xs,∀ s∈x.2.body,Q x.1 kf s)->R q.2 (xs.foldl (goF n K lev step flev kf) q).2:=by
  intro xs
  induction xs with
  | nil=>intro q _;exact hr _
  | cons x xs ih=>
   intro q hx
   rw [List.foldl_cons]
   exact ht (Gw n K lev step (hQ x.1) hr ht hs _ _ _ _ _ (hx x (by simp))) (ih (goF n K lev step flev kf q x) fun y hy=>hx y (by simp [hy]))
 refine ht (h _ (0,st) fun x hx=>?_) (Gw n K lev step hPm hr ht hs _ _ _ _ _ hm)
 obtain ⟨i,hi,rfl⟩:=List.getElem_of_mem hx
 simp at hi
 simp only [List.getElem_zip,List.getElem_range]
 exact hf i hi
end walk
theorem JG {σ τ:Type} (n K:Nat) (lev:σ->List Lev) (step:Int->D->Lev->σ->σ) (lev':τ->List Lev) (step':Int->D->Lev->τ->τ) (Q:Lev->Lev->Prop) (R:σ->τ->Prop) (G:τ->Prop) (E:σ->Prop)
  (hG:∀ a d p t,G (step' a d p t)->G t) (hE:∀ a d p t,E (step a d p t)->E t)
  (hs:∀ a d p p' s t,R s t->Q p p'->E (step a d p s)->G (step' a d p' t)->R (step a d p s) (step' a d p' t)/\Q (AX n (lev (step a d p s)) p (AC K (AR d))) (AX n (lev' (step' a d p' t)) p' (AC K (AR d)))) :
  ∀ (k:Nat) (l:List D) (a:Int) (p p':Lev) (s:σ) (t:τ),R s t->Q p p'->E (goS n K lev step k l a p s)->G (goS n K lev' step' k l a p' t)->R (goS n K lev step k l a p s) (goS n K lev' step' k l a p' t):=by
 have mG:∀ (k:Nat) (l:List D) (a:Int) (p:Lev) (t:τ),G (goS n K lev' step' k l a p t)->G t:=fun k l a p t=>Df n K lev' step' (R:=fun a b=>G b->G a) (fun _ h=>h) (fun h1 h2 h=>h1 (h2 h)) hG k l a p t
 have mE:∀ (k:Nat) (l:List D) (a:Int) (p:Lev) (t:σ),E (goS n K lev step k l a p t)->E t:=fun k l a p t=>Df n K lev step (R:=fun a b=>E b->E a) (fun _ h=>h) (fun h1 h2 h=>h1 (h2 h)) hE k l a p t
 intro k
 induction k with
 | zero=>intro l a p p' s t h _ _ _;exact h
 | succ k ih=>
  intro l
  unfold goS
  have mG':∀ (l:List D) (p:Lev) (q:Int × τ),G (l.foldl (Ea n K lev' step' (CM (k+1)) (A4 k) (goS n K lev' step' k) p) q).2->G q.2:=by
   intro l p q h
   have:=mG (k+1) l q.1 p q.2
   unfold goS at this
   exact this h
  have mE':∀ (l:List D) (p:Lev) (q:Int × σ),E (l.foldl (Ea n K lev step (CM (k+1)) (A4 k) (goS n K lev step k) p) q).2->E q.2:=by
   intro l p q h
   have:=mE (k+1) l q.1 p q.2
   unfold goS at this
   exact this h
  induction l with
  | nil=>intro a p p' s t h _ _ _;exact h
  | cons d l ihl=>
   intro a p p' s t h hp he hg
   rw [List.foldl_cons] at he hg ⊢
   rw [List.foldl_cons]
   have h1:=mG' _ _ _ hg
   have g1:=mE' _ _ _ he
   have h2:=mG _ _ _ _ _ h1
   have g2:=mE _ _ _ _ _ g1
   have h3:=mG _ _ _ _ _ h2
   have g3:=mE _ _ _ _ _ g2
   obtain ⟨r1,r2⟩:=hs a d p p' s t h hp g3 h3
   have r3:=ih (Ar d) (a+1) _ _ _ _ r1 r2 g2 h2
   have r4:=ih (Av d) (a+1+(A4 k (Ar d):Int)) _ _ _ _ r3 r2 g1 h1
   exact ihl _ p p' _ _ r4 hp he hg
theorem EW {σ τ:Type} (n K:Nat) (lev flev:σ->List Lev) (step:Int->D->Lev->σ->σ) (lev' flev':τ->List Lev) (step':Int->D->Lev->τ->τ) (Q:Lev->Lev->Prop) (R:σ->τ->Prop) (G:τ->Prop) (E:σ->Prop)
  (hG:∀ a d p t,G (step' a d p t)->G t) (hE:∀ a d p t,E (step a d p t)->E t)
  (hs:∀ a d p p' s t,R s t->Q p p'->E (step a d p s)->G (step' a d p' t)->R (step a d p s) (step' a d p' t)/\Q (AX n (lev (step a d p s)) p (AC K (AR d))) (AX n (lev' (step' a d p' t)) p' (AC K (AR d))))
  (hf:∀ s t,R s t->∀ i,Q ((flev s).getD i AE) ((flev' t).getD i AE)) (hb:Q (Bu n) (Bu n)) (kf:Nat) (fs:List FnD) (main:List D) (s:σ) (t:τ) (h:R s t) (he:E (Ct n K lev step flev kf fs main s)) (hg:G (Ct n K lev' step' flev' kf fs main t)) :
  R (Ct n K lev step flev kf fs main s) (Ct n K lev' step' flev' kf fs main t):=by
 have mG:∀ (k:Nat) (l:List D) (a:Int) (p:Lev) (t:τ),G (goS n K lev' step' k l a p t)->G t:=fun k l a p t=>Df n K lev' step' (R:=fun a b=>G b->G a) (fun _ h=>h) (fun h1 h2 h=>h1 (h2 h)) hG k l a p t
 have mE:∀ (k:Nat) (l:List D) (a:Int) (p:Lev) (t:σ),E (goS n K lev step k l a p t)->E t:=fun k l a p t=>Df n K lev step (R:=fun a b=>E b->E a) (fun _ h=>h) (fun h1 h2 h=>h1 (h2 h)) hE k l a p t
 have mGf:∀ (xs:List (Nat × FnD)) (q:Int × τ),G (xs.foldl (goF n K lev' step' flev' kf) q).2->G q.2:=by
  intro xs
  induction xs with
  | nil=>intro q h;exact h
  | cons x xs ih=>intro q h;rw [List.foldl_cons] at h;exact mG _ _ _ _ _ (ih _ h)
 have mEf:∀ (xs:List (Nat × FnD)) (q:Int × σ),E (xs.foldl (goF n K lev step flev kf) q).2->E q.2:=by
  intro xs
  induction xs with
  | nil=>intro q h;exact h
  | cons x xs ih=>intro q h;rw [List.foldl_cons] at h;exact mE _ _ _ _ _ (ih _ h)
 have hx:∀ (xs:List (Nat × FnD)) (a:Int) (s:σ) (t:τ),R s t->E (xs.foldl (goF n K lev step flev kf) (a,s)).2->G (xs.foldl (goF n K lev' step' flev' kf) (a,t)).2 ->
   R (xs.foldl (goF n K lev step flev kf) (a,s)).2 (xs.foldl (goF n K lev' step' flev' kf) (a,t)).2/\(xs.foldl (goF n K lev step flev kf) (a,s)).1=(xs.foldl (goF n K lev' step' flev' kf) (a,t)).1:=by
  intro xs
  induction xs with
  | nil=>intro a s t h _ _;exact ⟨h,rfl⟩
  | cons x xs ih=>
   intro a s t h he hg
   rw [List.foldl_cons] at he hg ⊢
   rw [List.foldl_cons]
   exact ih _ _ _ (JG n K lev step lev' step' Q R G E hG hE hs kf _ a _ _ s t h (hf s t h x.1) (mEf _ _ he) (mGf _ _ hg)) he hg
 unfold Ct at he hg ⊢
 obtain ⟨h1,h2⟩:=hx _ 0 s t h (mE _ _ _ _ _ he) (mG _ _ _ _ _ hg)
 dsimp only at he hg ⊢
 rw [h2] at he ⊢
 exact JG n K lev step lev' step' Q R G E hG hE hs kf _ _ _ _ _ _ h1 hb he hg
theorem Ck (f:Nat->Bool) {n i:Nat} (h:i < n):(B8 f n)[i]?.getD false=f i:=by simp [B8,h]
theorem Cd (l) (n:Nat):Ay l l n=true:=AK.2 fun _ _=>⟨id,id⟩
theorem CH {l k q:Lev} {n:Nat} (h:Ay l k n=true) (h2:Ay k q n=true):Ay l q n=true:=
 AK.2 fun i hi=>⟨fun h3=>(AK.1 h i hi).1 ((AK.1 h2 i hi).1 h3),fun h3=>(AK.1 h2 i hi).2 ((AK.1 h i hi).2 h3)⟩
theorem GZ {l k q:Lev} {n:Nat} (h:Ay l q n=true) (h2:Ay k q n=true):Ay (Bp l k n) q n=true:=AK.2 fun i hi=>by
 have a:=AK.1 h i hi
 have b:=AK.1 h2 i hi
 simp only [Bp,Ck _ hi,Ec,F9]
 revert a b
 cases l.r[i]?.getD false <;> cases k.r[i]?.getD false <;> cases l.w[i]?.getD false <;> cases k.w[i]?.getD false <;> cases q.r[i]?.getD false <;> cases q.w[i]?.getD false <;> simp
theorem FV (l k) (n:Nat):Ay l (Bp l k n) n=true:=AK.2 fun i hi=>by
 simp only [Bp,Ck _ hi,Ec,F9]
 cases l.r[i]?.getD false <;> cases k.r[i]?.getD false <;> cases l.w[i]?.getD false <;> cases k.w[i]?.getD false <;> simp
theorem GY (l k) (n:Nat):Ay k (Bp l k n) n=true:=AK.2 fun i hi=>by
 simp only [Bp,Ck _ hi,Ec,F9]
 cases l.r[i]?.getD false <;> cases k.r[i]?.getD false <;> cases l.w[i]?.getD false <;> cases k.w[i]?.getD false <;> simp
theorem Ih {l k l' k':Lev} {n:Nat} (h:Ay l l' n=true) (h2:Ay k k' n=true):Ay (Bp l k n) (Bp l' k' n) n=true:=
 GZ (CH h (FV _ _ _)) (CH h2 (GY _ _ _))
theorem Oa {l k l' k':Lev} {n:Nat} (h:Ay l l' n=true) (h2:Ay k k' n=true):Ay ⟨l.r,k.w⟩ ⟨l'.r,k'.w⟩ n=true:=
 AK.2 fun i hi=>⟨(AK.1 h i hi).1,(AK.1 h2 i hi).2⟩
theorem G5 (n:Nat) (q):Ay (Bu n) q n=true:=AK.2 fun i hi=>by simp [Bu,hi]
theorem Fo {n:Nat} {L L':List Lev} (hL:∀ i,Ay (L.getD i AE) (L'.getD i AE) n=true):∀ (vs:List Int) (l l':Lev),Ay l l' n=true->Ay (AX n L l vs) (AX n L' l' vs) n=true
 | [],_,_,h=>h
 | v::vs,l,l',h=>Fo hL vs _ _ (Ih h (hL _))
theorem Fq {n:Nat} {L:List Lev}:∀ (vs:List Int) (l:Lev),l.len n->(AX n L l vs).len n
 | [],_,h=>h
 | v::vs,l,_=>Fq vs _ ⟨A2 _ _,A2 _ _⟩
section ask
variable {σ:Type} (n K:Nat) (lev:σ->List Lev) (known:List Bool) (ins:List Lev) (fs:List FnD) (flow:Lev->Bool × Nat->σ->σ)
def toVar (l:Lev) (v:Int) (st:σ):σ:=if known.getD v.toNat false=true then st else flow l (true,v.toNat) st
def Cx (p:Lev) (st:σ) (q:Int × D):σ:=toVar known flow (AX n (lev st) p (AC K q.2)) q.1 st
def Dx (d:D) (p:Lev) (st:σ):σ:=
 let st1:=((EB fs (Ag d)).ps.zip (An d)).foldl (Cx n K lev known flow p) st
 flow p (false,(Ag d).toNat) (toVar known flow (AX n (lev st1) p (AC K (EB fs (Ag d)).res)) (AJ d) st1)
def BU (a:Int) (d:D) (p:Lev) (st:σ):σ:=
 if Ak d=1 then toVar known flow (AX n (lev st) p (AC K (AR d))) (AJ d) st
 else if Ak d=2 then Dx n K lev known fs flow d p st
 else if Ak d=3 then toVar known flow (Bp p (ins.getD (Ag d).toNat AE) n) (AJ d) st
 else if Ak d=5 then toVar known flow ⟨p.r,(AX n (lev st) p (AC K (AR d))).w⟩ (AJ d) st
 else if Ak d=6 then toVar known flow ⟨(AX n (lev st) p (AC K (AR d))).r,p.w⟩ (AJ d) st
 else st
theorem D2 {R:σ->σ->Prop} (hr:∀ st,R st st) (ht:∀ {a b c},R a b->R b c->R a c) (hv:∀ l i st,known.getD i false=false->R st (flow l (true,i) st)) (hw:∀ l i st,R st (flow l (false,i) st)) (a:Int) (d p) (st:σ):R st (BU n K lev known ins fs flow a d p st):=by
 have h1:∀ l v st,R st (toVar known flow l v st):=by
  intro l v st
  unfold toVar
  split
  ·exact hr st
  ·rename_i h;exact hv _ _ _ (by simpa using h)
 have h2:∀ (xs:List (Int × D)) st,R st (xs.foldl (Cx n K lev known flow p) st):=by
  intro xs
  induction xs with
  | nil=>intro st;exact hr st
  | cons x xs ih=>intro st;rw [List.foldl_cons];exact ht (h1 _ _ _) (ih _)
 unfold BU
 repeat' split
 all_goals first | exact h1 _ _ _ | exact hr _ | skip
 unfold Dx
 exact ht (h2 _ _) (ht (h1 _ _ _) (hw _ _ _))
end ask
theorem En {n:Nat} {Q:Lev->Lev->Prop} (hQj:∀ {a a' b b'},Q a a'->Q b b'->Q (Bp a b n) (Bp a' b' n)) {L L':List Lev} (hL:∀ i,Q (L.getD i AE) (L'.getD i AE)):∀ (vs:List Int) (l l':Lev),Q l l'->Q (AX n L l vs) (AX n L' l' vs)
 | [],_,_,h=>h
 | v::vs,l,l',h=>En hQj hL vs _ _ (hQj h (hL _))
theorem Iq {σ τ:Type} (n K:Nat) (known:List Bool) (ins fs) (lev:σ->List Lev) (flow:Lev->Bool × Nat->σ->σ) (lev':τ->List Lev) (flow':Lev->Bool × Nat->τ->τ) (Q:Lev->Lev->Prop) (hQr:∀ x,Q x x) (hQj:∀ {a a' b b'},Q a a'->Q b b'->Q (Bp a b n) (Bp a' b' n)) (hQm:∀ {a a' b b':Lev},Q a a'->Q b b'->Q ⟨a.r,b.w⟩ ⟨a'.r,b'.w⟩) (R:σ->τ->Prop) (G:τ->Prop) (E:σ->Prop)
  (hG:∀ l i t,G (flow' l i t)->G t) (hE:∀ l i t,E (flow l i t)->E t)
  (hl:∀ s t,R s t->∀ i,Q ((lev s).getD i AE) ((lev' t).getD i AE))
  (hs:∀ l l' i s t,R s t->Q l l'->E (flow l i s)->G (flow' l' i t)->(i.1=true->known.getD i.2 false=false)->R (flow l i s) (flow' l' i t)) (a:Int) (d:D) (p p':Lev) (s:σ) (t:τ) (h:R s t) (hp:Q p p')
  (he:E (BU n K lev known ins fs flow a d p s)) (hg:G (BU n K lev' known ins fs flow' a d p' t)):R (BU n K lev known ins fs flow a d p s) (BU n K lev' known ins fs flow' a d p' t):=by
 have mE:∀ l v s,E (toVar known flow l v s)->E s:=by
  intro l v s h
  unfold toVar at h
  split at h
  ·exact h
  ·exact hE _ _ _ h
 have mG:∀ l v s,G (toVar known flow' l v s)->G s:=by
  intro l v s h
  unfold toVar at h
  split at h
  ·exact h
  ·exact hG _ _ _ h
 have tv:∀ l l' v s t,R s t->Q l l'->E (toVar known flow l v s)->G (toVar known flow' l' v t)->R (toVar known flow l v s) (toVar known flow' l' v t):=by
  intro l l' v s t h hl he hg
  unfold toVar at he hg ⊢
  split
  ·exact h
  ·rename_i hk
   rw [if_neg hk] at he hg
   exact hs _ _ _ _ _ h hl he hg (fun _=>by simpa using hk)
 have mEs:∀ (xs:List (Int × D)) s,E (xs.foldl (Cx n K lev known flow p) s)->E s:=by
  intro xs
  induction xs with
  | nil=>intro s h;exact h
  | cons x xs ih=>intro s h;rw [List.foldl_cons] at h;exact mE _ _ _ (ih _ h)
 have mGs:∀ (xs:List (Int × D)) s,G (xs.foldl (Cx n K lev' known flow' p') s)->G s:=by
  intro xs
  induction xs with
  | nil=>intro s h;exact h
  | cons x xs ih=>intro s h;rw [List.foldl_cons] at h;exact mG _ _ _ (ih _ h)
 have ta:∀ (xs:List (Int × D)) s t,R s t->E (xs.foldl (Cx n K lev known flow p) s)->G (xs.foldl (Cx n K lev' known flow' p') t)->R (xs.foldl (Cx n K lev known flow p) s) (xs.foldl (Cx n K lev' known flow' p') t):=by
  intro xs
  induction xs with
  | nil=>intro s t h _ _;exact h
  | cons x xs ih=>
   intro s t h he hg
   rw [List.foldl_cons] at he hg ⊢
   rw [List.foldl_cons]
   exact ih _ _ (tv _ _ _ _ _ h (En hQj (hl s t h) _ _ _ hp) (mEs _ _ he) (mGs _ _ hg)) he hg
 unfold BU at he hg ⊢
 have hw:=En hQj (hl s t h) (AC K (AR d)) _ _ hp
 split
 ·rename_i hk;rw [if_pos hk] at he hg;exact tv _ _ _ _ _ h hw he hg
 rename_i hk1;rw [if_neg hk1] at he hg
 split
 ·rename_i hk;rw [if_pos hk] at he hg
  unfold Dx at he hg ⊢
  dsimp only at he hg ⊢
  have e1:=hE _ _ _ he
  have g1:=hG _ _ _ hg
  have r1:=ta _ s t h (mE _ _ _ e1) (mG _ _ _ g1)
  have r2:=tv _ _ _ _ _ r1 (En hQj (hl _ _ r1) (AC K (EB fs (Ag d)).res) _ _ hp) e1 g1
  exact hs _ _ _ _ _ r2 hp he hg (fun h=>by cases h)
 rename_i hk2;rw [if_neg hk2] at he hg
 split
 ·rename_i hk;rw [if_pos hk] at he hg;exact tv _ _ _ _ _ h (hQj hp (hQr _)) he hg
 rename_i hk3;rw [if_neg hk3] at he hg
 split
 ·rename_i hk;rw [if_pos hk] at he hg;exact tv _ _ _ _ _ h (hQm hp hw) he hg
 rename_i hk4;rw [if_neg hk4] at he hg
 split
 ·rename_i hk;rw [if_pos hk] at he hg;exact tv _ _ _ _ _ h (hQm hw hp) he hg
 rename_i hk5;rw [if_neg hk5] at he hg
 exact h
structure ISt where
 vs:List Lev
 fs:List Lev
 more:Bool
def ISt.at (st:ISt) (i:Bool × Nat):Lev:=if i.1=true then st.vs.getD i.2 AE else st.fs.getD i.2 AE
def ISt.up (st:ISt) (i:Bool × Nat) (l:Lev):ISt:=if i.1=true then ⟨st.vs.set i.2 l,st.fs,true⟩ else ⟨st.vs,st.fs.set i.2 l,true⟩
def BV (n:Nat) (l:Lev) (i:Bool × Nat) (st:ISt):ISt:=if Ay l (st.at i) n=true then st else st.up i (Bp (st.at i) l n)
def BK (n:Nat) (L:ISt) (l:Lev) (i:Bool × Nat) (b:Bool):Bool:=b && Ay l (L.at i) n
def DJ (n K kf:Nat) (known:List Bool) (ins:List Lev) (fs:List FnD) (main:List D) (st:ISt):ISt:=
 Ct n K ISt.vs (BU n K ISt.vs known ins fs (BV n)) ISt.fs kf fs main st
def C5 (n K kf:Nat) (known:List Bool) (ins:List Lev) (fs:List FnD) (main:List D) (L:ISt) (b:Bool):Bool:=
 Ct n K (fun _=>L.vs) (BU n K (fun _=>L.vs) known ins fs (BK n L)) (fun _=>L.fs) kf fs main b
theorem Cu {l:List Lev} {i j:Nat} {x:Lev}:(l.set i x).getD j AE=if i=j/\j < l.length then x else l.getD j AE:=by
 simp only [List.getD_eq_getElem?_getD,List.getElem?_set]
 by_cases h:i=j
 ·subst h
  by_cases h2:i < l.length
  ·simp [h2]
  ·simp [h2]
 ·simp [h]
def LeI (n:Nat) (a b:ISt):Prop:=(∀ i,Ay (a.vs.getD i AE) (b.vs.getD i AE) n=true)/\∀ i,Ay (a.fs.getD i AE) (b.fs.getD i AE) n=true
theorem LeI.at {n:Nat} {a b:ISt} (h:LeI n a b) (i:Bool × Nat):Ay (a.at i) (b.at i) n=true:=by
 unfold ISt.at
 split
 ·exact h.1 _
 ·exact h.2 _
theorem II (n K kf:Nat) (known:List Bool) (ins fs main) (L st:ISt) (h:LeI n st L) (hb:C5 n K kf known ins fs main L true=true):LeI n (DJ n K kf known ins fs main st) L:=by
 have key:=EW n K ISt.vs ISt.fs (BU n K ISt.vs known ins fs (BV n)) (fun _:Bool=>L.vs) (fun _=>L.fs) (BU n K (fun _=>L.vs) known ins fs (BK n L)) (fun a b=>Ay a b n=true) (fun s _=>LeI n s L) (fun b=>b=true) (fun _=>True)
  (fun a d p t=>D2 n K (fun _=>L.vs) known ins fs (BK n L) (R:=fun a b=>b=true->a=true) (fun _ h=>h) (fun h1 h2 h=>h1 (h2 h)) (fun l i st _ h=>by unfold BK at h;simp at h;exact h.1) (fun l i st h=>by unfold BK at h;simp at h;exact h.1) a d p t)
  (fun _ _ _ _ _=>trivial)
  (fun a d p p' s t h hp he hg=>by
   have r:=Iq n K known ins fs ISt.vs (BV n) (fun _:Bool=>L.vs) (BK n L) (fun a b=>Ay a b n=true) (fun x=>Cd x n) Ih Oa (fun s _=>LeI n s L) (fun b=>b=true) (fun _=>True)
    (fun l i t h=>by unfold BK at h;simp at h;exact h.1) (fun _ _ _ _=>trivial) (fun s _ h=>h.1)
    (fun l l' i s t h hl _ hg _=>by
     unfold BK at hg
     rw [Bool.and_eq_true] at hg
     unfold BV
     split
     ·exact h
     ·have hj:Ay (Bp (s.at i) l n) (L.at i) n=true:=GZ (h.at i) (CH hl hg.2)
      unfold ISt.up ISt.at at *
      split
      ·rename_i hi
       rw [if_pos hi] at hj
       refine ⟨fun j=>?_,h.2⟩
       rw [if_pos hi] at hj
       dsimp only
       rw [Cu]
       split
       ·rename_i hij;rw [<-hij.1];exact hj
       ·exact h.1 j
      ·rename_i hi
       rw [if_neg hi] at hj
       refine ⟨h.1,fun j=>?_⟩
       rw [if_neg hi] at hj
       dsimp only
       rw [Cu]
       split
       ·rename_i hij;rw [<-hij.1];exact hj
       ·exact h.2 j) a d p p' s t h hp he hg
   exact ⟨r,Fo r.1 _ _ _ hp⟩)
  (fun s _ h=>h.2) (Cd _ _) kf fs main st true h trivial hb
 exact key
theorem JZ (n K kf:Nat) (known:List Bool) (ins fs main) (st:ISt) (h:(DJ n K kf known ins fs main st).more=false) :
  DJ n K kf known ins fs main st=st/\C5 n K kf known ins fs main st true=true:=by
 have fE:∀ l i t,(BV n l i t).more=false->t.more=false:=by
  intro l i t h
  unfold BV at h
  split at h
  ·exact h
  ·unfold ISt.up at h;split at h <;> cases h
 have key:=EW n K ISt.vs ISt.fs (BU n K ISt.vs known ins fs (BV n)) (fun _:Bool=>st.vs) (fun _=>st.fs) (BU n K (fun _=>st.vs) known ins fs (BK n st)) (fun a b=>a=b) (fun s b=>s=st/\b=true) (fun _=>True) (fun s=>s.more=false)
  (fun _ _ _ _ _=>trivial)
  (fun a d p t=>D2 n K ISt.vs known ins fs (BV n) (R:=fun a b=>b.more=false->a.more=false) (fun _ h=>h) (fun h1 h2 h=>h1 (h2 h)) (fun l i t _=>fE l (true,i) t) (fun l i t=>fE l (false,i) t) a d p t)
  (fun a d p p' s t h hp he hg=>by
   have r:=Iq n K known ins fs ISt.vs (BV n) (fun _:Bool=>st.vs) (BK n st) (fun a b=>a=b) (fun _=>rfl) (fun h1 h2=>by rw [h1,h2]) (fun h1 h2=>by rw [h1,h2]) (fun s b=>s=st/\b=true) (fun _=>True) (fun s=>s.more=false)
    (fun _ _ _ _=>trivial) fE (fun s _ h=>by rw [h.1];exact fun i=>rfl)
    (fun l l' i s t h hl he _ _=>by
     obtain ⟨rfl,rfl⟩:=h
     unfold BV at he ⊢
     split
     ·rename_i hf
      refine ⟨rfl,?_⟩
      unfold BK
      rw [<-hl,hf]
      rfl
     ·rename_i hf
      rw [if_neg hf] at he
      unfold ISt.up at he
      split at he <;> cases he) a d p p' s t h hp he hg
   exact ⟨r,by rw [r.1,hp]⟩)
  (fun s _ h=>by rw [h.1];exact fun i=>rfl) rfl kf fs main st true ⟨rfl,rfl⟩ h trivial
 exact key
def FZ (n:Nat) (l:Lev):Nat:=((List.range n).map fun i=>(if l.r[i]?.getD false=true then 1 else 0)+(if l.w[i]?.getD false=true then 0 else 1)).sum
def Dh (n:Nat) (st:ISt):Nat:=(st.vs.map (FZ n)).sum+(st.fs.map (FZ n)).sum
theorem Lc {f g:Nat->Nat}:∀ {n:Nat},(∀ i,i < n->f i<=g i)->((List.range n).map f).sum<=((List.range n).map g).sum
 | 0,_=>by simp
 | n+1,h=>by
  rw [List.range_succ,List.map_append,List.map_append,List.sum_append,List.sum_append]
  have:=Lc (n:=n) fun i hi=>h i (by omega)
  have:=h n (by omega)
  simp
  omega
theorem Lb {f g:Nat->Nat}:∀ {n:Nat},(∀ i,i < n->f i<=g i)->(∃ i,i < n/\f i < g i)->((List.range n).map f).sum < ((List.range n).map g).sum
 | 0,_,⟨i,h,_⟩=>by omega
 | n+1,h,⟨i,hi,hlt⟩=>by
  rw [List.range_succ,List.map_append,List.map_append,List.sum_append,List.sum_append]
  by_cases hn:i=n
  ·subst hn
   have:=Lc (n:=i) fun j hj=>h j (by omega)
   simp
   omega
  ·have:=Lb (n:=n) (fun j hj=>h j (by omega)) ⟨i,by omega,hlt⟩
   have:=h n (by omega)
   simp
   omega
theorem GA {n:Nat} {x l:Lev} (h:¬ Ay l x n=true):FZ n (Bp x l n) < FZ n x:=by
 have hx:∃ i,i < n/\¬ ((x.r[i]?.getD false=true->l.r[i]?.getD false=true)/\(l.w[i]?.getD false=true->x.w[i]?.getD false=true)):=by
  refine Classical.byContradiction fun hne=>h (AK.2 fun i hi=>Classical.byContradiction fun hc=>hne ⟨i,hi,hc⟩)
 obtain ⟨i,hi,hc⟩:=hx
 unfold FZ
 refine Lb (fun j hj=>?_) ⟨i,hi,?_⟩
 ·simp only [Bp,Ck _ hj,Ec,F9]
  cases l.r[j]?.getD false <;> cases x.r[j]?.getD false <;> cases l.w[j]?.getD false <;> cases x.w[j]?.getD false <;> simp
 ·simp only [Bp,Ck _ hi,Ec,F9]
  revert hc
  cases l.r[i]?.getD false <;> cases x.r[i]?.getD false <;> cases l.w[i]?.getD false <;> cases x.w[i]?.getD false <;> simp
theorem GI {f:Lev->Nat} {y:Lev}:∀ {l:List Lev} {i:Nat},i < l.length->f y < f (l.getD i AE)->((l.set i y).map f).sum < (l.map f).sum
 | [],i,h,_=>by simp at h
 | x::l,0,_,h=>by simp at h ⊢;omega
 | x::l,i+1,hi,h=>by
  have:=GI (l:=l) (i:=i) (by simpa using hi) (by simpa using h)
  simp only [List.set_cons_succ,List.map_cons,List.sum_cons]
  omega
structure El (n nv nf:Nat) (known:List Bool) (L:List Lev) (st:ISt):Prop where
 lv:st.vs.length=nv
 lf:st.fs.length=nf
 rv:∀ l∈st.vs,l.len n
 rf:∀ l∈st.fs,l.len n
 kn:∀ i,known.getD i false=true->st.vs.getD i AE=L.getD i AE
theorem Ds (l k) (n:Nat):(Bp l k n).len n:=⟨A2 _ _,A2 _ _⟩
def C1 (n nv nf:Nat) (known:List Bool) (L:List Lev) (a b:ISt):Prop:=
 (El n nv nf known L a->El n nv nf known L b)/\LeI n a b
theorem C1.refl (n nv nf:Nat) (known:List Bool) (L) (a:ISt):C1 n nv nf known L a a:=⟨id,fun _=>Cd _ _,fun _=>Cd _ _⟩
theorem C1.trans {n nv nf:Nat} {known:List Bool} {L:List Lev} {a b c:ISt} (h:C1 n nv nf known L a b) (k:C1 n nv nf known L b c):C1 n nv nf known L a c:=
 ⟨fun x=>k.1 (h.1 x),fun i=>CH (h.2.1 i) (k.2.1 i),fun i=>CH (h.2.2 i) (k.2.2 i)⟩
theorem E9 {l:List Lev} {i:Nat} {x y:Lev} (h:y∈l.set i x):y=x\/y∈l:=by
 rcases List.mem_or_eq_of_mem_set h with h | h
 ·exact Or.inr h
 ·exact Or.inl h
theorem FT (n nv nf:Nat) (known:List Bool) (L l) (i:Bool × Nat) (st:ISt) (hk:i.1=true->known.getD i.2 false=false):C1 n nv nf known L st (BV n l i st):=by
 unfold BV
 split
 ·exact C1.refl ..
 ·obtain ⟨b,j⟩:=i
  cases b with
  | true=>
   have hk:=hk rfl
   simp only [ISt.up,ISt.at,if_true]
   refine ⟨fun h=>⟨by simpa using h.lv,h.lf,fun x hx=>?_,h.rf,fun m hm=>?_⟩,fun m=>?_,fun m=>Cd _ _⟩
   ·rcases E9 hx with rfl | hx
    ·exact Ds _ _ _
    ·exact h.rv x hx
   ·dsimp only
    rw [Cu,if_neg,h.kn m hm]
    rintro ⟨rfl,-⟩
    dsimp only at hk
    rw [hk] at hm
    cases hm
   ·dsimp only
    rw [Cu]
    split
    ·rename_i h;rw [<-h.1];exact FV _ _ _
    ·exact Cd _ _
  | false=>
   simp only [ISt.up,ISt.at,Bool.false_eq_true,if_false]
   refine ⟨fun h=>⟨h.lv,by simpa using h.lf,h.rv,fun x hx=>?_,h.kn⟩,fun m=>Cd _ _,fun m=>?_⟩
   ·rcases E9 hx with rfl | hx
    ·exact Ds _ _ _
    ·exact h.rf x hx
   ·dsimp only
    rw [Cu]
    split
    ·rename_i h;rw [<-h.1];exact FV _ _ _
    ·exact Cd _ _
theorem JY (n nv nf K kf:Nat) (known:List Bool) (L ins fs main) (st:ISt):C1 n nv nf known L st (DJ n K kf known ins fs main st):=
 FO n K ISt.vs _ (R:=C1 n nv nf known L) (C1.refl n nv nf known L) C1.trans (fun a d p st=>D2 n K ISt.vs known ins fs (BV n) (R:=C1 n nv nf known L) (C1.refl n nv nf known L) C1.trans (fun l i st hk=>FT n nv nf known L l (true,i) st fun _=>hk) (fun l i st=>FT n nv nf known L l (false,i) st fun h=>by cases h) a d p st) ISt.fs kf fs main st
theorem EA {l:List Lev} {i:Nat} (h:l.length<=i):l.getD i AE=AE:=by simp [List.getD_eq_getElem?_getD,List.getElem?_eq_none h]
theorem Ko (n:Nat) (l) (i:Bool × Nat) (st:ISt) (hi:i.1=true->i.2 < st.vs.length) (hi2:i.1=false->i.2 < st.fs.length):BV n l i st=st\/(Dh n (BV n l i st) < Dh n st/\(BV n l i st).vs.length=st.vs.length/\(BV n l i st).fs.length=st.fs.length):=by
 unfold BV
 split
 ·exact Or.inl rfl
 ·rename_i h
  obtain ⟨b,j⟩:=i
  cases b with
  | true=>
   simp only [ISt.up,ISt.at,if_true] at h ⊢
   refine Or.inr ⟨?_,by simp,by simp⟩
   have:=GI (f:=FZ n) (l:=st.vs) (i:=j) (hi rfl) (GA h)
   unfold Dh
   dsimp only
   omega
  | false=>
   simp only [ISt.up,ISt.at,Bool.false_eq_true,if_false] at h ⊢
   refine Or.inr ⟨?_,by simp,by simp⟩
   have:=GI (f:=FZ n) (l:=st.fs) (i:=j) (hi2 rfl) (GA h)
   unfold Dh
   dsimp only
   omega
def inR (nv nf:Nat) (fs:List FnD) (d:D):Prop:=
 ((Ak d=1\/Ak d=2\/Ak d=3\/Ak d=5\/Ak d=6)->(AJ d).toNat < nv)/\(Ak d=2->(Ag d).toNat < nf/\∀ v∈(EB fs (Ag d)).ps,v.toNat < nv)
def Cz (n nv nf:Nat) (a b:ISt):Prop:=(a.vs.length=nv/\a.fs.length=nf)->(b.vs.length=nv/\b.fs.length=nf)/\Dh n b<=Dh n a/\(b.more=true->a.more=true\/Dh n b < Dh n a)
theorem Cz.refl (n nv nf:Nat) (a:ISt):Cz n nv nf a a:=fun h=>⟨h,Nat.le_refl _,Or.inl⟩
theorem Cz.trans {n nv nf:Nat} {a b c:ISt} (h:Cz n nv nf a b) (k:Cz n nv nf b c):Cz n nv nf a c:=fun ha=>by
 obtain ⟨h1,h2,h3⟩:=h ha
 obtain ⟨k1,k2,k3⟩:=k h1
 refine ⟨k1,Nat.le_trans k2 h2,fun hc=>?_⟩
 rcases k3 hc with hb | hb
 ·rcases h3 hb with h | h
  ·exact Or.inl h
  ·exact Or.inr (by omega)
 ·exact Or.inr (by omega)
theorem FY (n nv nf:Nat) (l) (i:Bool × Nat) (st:ISt) (hi:i.1=true->i.2 < nv) (hi2:i.1=false->i.2 < nf):Cz n nv nf st (BV n l i st):=fun h=>by
 rcases Ko n l i st (by rw [h.1];exact hi) (by rw [h.2];exact hi2) with e | ⟨h1,h2,h3⟩
 ·rw [e];exact ⟨h,Nat.le_refl _,Or.inl⟩
 ·exact ⟨⟨h2.trans h.1,h3.trans h.2⟩,by omega,fun _=>Or.inr h1⟩
theorem LV (n nv nf K:Nat) (known:List Bool) (ins fs) (a:Int) (d p) (st:ISt) (hd:inR nv nf fs d):Cz n nv nf st (BU n K ISt.vs known ins fs (BV n) a d p st):=by
 have h1:∀ l (v:Int) st,v.toNat < nv->Cz n nv nf st (toVar known (BV n) l v st):=by
  intro l v st hv
  unfold toVar
  split
  ·exact Cz.refl n nv nf _
  ·exact FY n nv nf _ _ _ (fun _=>hv) (fun h=>by cases h)
 have h2:∀ (xs:List (Int × D)) st,(∀ x∈xs,x.1.toNat < nv)->Cz n nv nf st (xs.foldl (Cx n K ISt.vs known (BV n) p) st):=by
  intro xs
  induction xs with
  | nil=>intro st _;exact Cz.refl n nv nf _
  | cons x xs ih=>intro st hx;rw [List.foldl_cons];exact (h1 _ _ _ (hx x (by simp))).trans (ih _ fun y hy=>hx y (by simp [hy]))
 unfold BU
 split
 ·rename_i hk;exact h1 _ _ _ (hd.1 (by omega))
 split
 ·rename_i hk
  unfold Dx
  refine (h2 _ _ fun x hx=>?_).trans ((h1 _ _ _ (hd.1 (by omega))).trans (FY n nv nf _ _ _ (fun h=>by cases h) (fun _=>(hd.2 hk).1)))
  exact (hd.2 hk).2 _ (List.of_mem_zip (a:=x.1) (b:=x.2) hx).1
 split
 ·rename_i hk;exact h1 _ _ _ (hd.1 (by omega))
 split
 ·rename_i hk;exact h1 _ _ _ (hd.1 (by omega))
 split
 ·rename_i hk;exact h1 _ _ _ (hd.1 (by omega))
 ·exact Cz.refl n nv nf _
end Go.Proofs.YtfffpjkcfnekaaaGreat.Ex
namespace Go.Proofs.YtfffpjkcfnekaaaGreat.Ex
open Go.RowKit Go.Shelf
open Go.Value renaming slice -> O, int -> U, bool -> zg, agg -> zh, pointer -> zj, tuple -> zm
open Go.IntKind renaming i64 -> zd
open Go.Obj renaming cells -> ze
open Go.Ending renaming returned -> zk
attribute [local go_sem] Oper.semAt_some
theorem NP {F:Fence} (hd:F.depth=none) (k:Nat):F.room k:=fun d h=>by rw [hd] at h;cases h
theorem L5 {F:Fence} (hd:F.depth=none) {m m':Nat} {P:Program} {l:Nat} {f:FuncId} {tmps:Array Value} {assign body:Code} {w:World} {R:Ending->World->Prop}
  (h:RoundIn F m P l f tmps assign body w R):RoundIn F m' P l f tmps assign body w R:=⟨h.1,fun c cs _=>h.2 c cs (NP hd _)⟩
theorem LZ {F:Fence} (hd:F.depth=none) {m:Nat} (m':Nat) {P:Program} {l:Nat} {args:Array Value} {W:World} {R:Ending->World->Prop} (h:YieldAt F m P l args W R):YieldAt F m' P l args W R:=by
 obtain ⟨fn,tmps,assign,body,hy,hR⟩:=h
 exact ⟨fn,tmps,assign,body,hy,L5 hd hR⟩
abbrev D4 (nv:Nat):={ x:Int // 0<=x/\x < nv }
theorem Ft {k:Nat} {ds:List D} {j:Nat} (h:j < ds.length):(ds.take (j+1)).flatMap (AC k)=(ds.take j).flatMap (AC k)++AC k ds[j]:=by
 rw [List.take_succ_eq_append_getElem h,List.flatMap_append]
 simp
theorem K9 (nv:Nat):∀ (l:List Int),(∀ v∈l,0<=v/\v < (nv:Int))->∃ ys:List (D4 nv),ys.map Subtype.val=l
 | [],_=>⟨[],rfl⟩
 | v::l,h=>by
  obtain ⟨ys,hy⟩:=K9 nv l fun x hx=>h x (by simp [hx])
  exact ⟨⟨v,h v (by simp)⟩::ys,by simp [hy]⟩
theorem Ja (F:Fence) (hd:F.depth=none) (hf:F.fn 211) (hro:F.round=none) (l nv N:Nat) (w0:World) (J Jx:List (D4 nv)->World->Prop)
  (hJ:∀ s A B,J s A->Ov A B->J s B)
  (hY:∀ m pre x W,J pre W->pre.length < N->YieldAt F m Tryz.prog l #[U zd x.1] W fun e W'=>
   (e=zk (zg true)/\J (pre++[x]) W'/\Below w0.heap.size W W')\/(e=zk (zg false)/\Jx (pre++[x]) W')) :
  ∀ (k n:Nat) (cs:List Value) (d:D) (pre ys:List (D4 nv)) (W:World),RX w0 k cs d->Ov w0 W->J pre W->ys.map Subtype.val=AC k d->pre.length+ys.length<=N ->
   CallsIn F n Tryz.prog 211 #[.agg cs.toArray,.func (.yield l) #[] #[]] W fun e W'=>
    (e=zk (zg true)/\J (pre++ys) W'/\Below w0.heap.size W W')\/(e=zk (zg false)/\∃ q,q <+: ys/\Jx (pre++q) W'):=by
 intro k
 induction k with
 | zero=>intro n cs d pre ys W h;exact h.elim
 | succ k ih=>
  intro n cs d pre ys W h hW hj hys hN
  obtain ⟨kd,nn,v,ds,rfl,rfl,i1,i2,hm,ao,cap,rfl,hds⟩:=h
  have hdd:∀ k:Nat,(F.depth.isSome=true->1<=k):=fun k h=>by rw [hd] at h;cases h
  have hm2:ds.length<=9223372036854775807:=hm
  by_cases hk:kd=2
  ·subst hk
   have hys2:ys.map Subtype.val=[nn]:=by rw [hys];simp [AC,AH,Ba,xD]
   obtain ⟨y,rfl⟩:∃ y,ys=[y]:=by
    match ys,hys2 with
    | [y],_=>exact ⟨y,rfl⟩
   have hyv:y.1=nn:=by simpa using hys2
   subst hyv
   have hba:=bA W (ze #[U zd 2,U zd y.1,O ao ds.length cap] 94)
   obtain ⟨fn,tmps,assign,body,hy,hR⟩:=hY (n - 1) pre y _ (hJ _ _ _ hj hba) (by simp at hN;omega)
   have hB:Below w0.heap.size W (W.alloc (ze #[U zd 2,U zd y.1,O ao ds.length cap] 94)):=hba.mono hW.size
   have HB:=Aa hB
   clear hB hba hj hys hys2 hds
   refine callsIn_of_wp Tryz.func211 rfl hf ?_ hro
   simp only [Tryz.ntmps211,List.size_toArray,List.length_cons,List.length_nil,Nat.reduceAdd,Nat.reduceSub,Array.replicate_succ,Array.replicate_zero,List.push_toArray,List.append_toArray,List.nil_append,List.cons_append]
   gi_wp2_with ((try refine ⟨hdd _,?_⟩);refine hR.mono ?_;clear hR;rintro e W2 (⟨rfl,hJ2,hb2⟩ | ⟨rfl,hx2⟩))
   ·go_ret
    exact .inl ⟨rfl,hJ2,HB.o.trans hb2⟩
   ·go_ret
    exact .inr ⟨rfl,[y],List.prefix_refl _,hx2⟩
  ·have hv:AC (k+1) (xD kd nn ds)=ds.flatMap (AC k):=by simp [AC,AH,AF,xD,hk]
   rw [hv] at hys
   have hkb:(kd == 2)=false:=by simpa using hk
   have hba:=bA W (ze #[U zd kd,U zd nn,O ao ds.length cap] 94)
   have HB:Hx (Below w0.heap.size W (W.alloc (ze #[U zd kd,U zd nn,O ao ds.length cap] 94))):=hba.mono hW.size
   have HJ0:=Aa (hJ _ _ _ hj hba)
   have HDS:=Aa hds
   have HYS:=Aa hys
   have HW:=Aa hW
   have HN:=Aa hN
   clear hds hys hv hba hj hW hN hY
   refine callsIn_of_wp Tryz.func211 rfl hf ?_ hro
   simp only [Tryz.ntmps211,List.size_toArray,List.length_cons,List.length_nil,Nat.reduceAdd,Nat.reduceSub,Array.replicate_succ,Array.replicate_zero,List.push_toArray,List.append_toArray,List.nil_append,List.cons_append]
   gi_wp2
   gi_loopw [17] (fun i wr=>∃ (j:Nat) (q1 q2:List (D4 nv)),j<=ds.length/\i=U zd j/\ys=q1++q2/\q1.map Subtype.val=(ds.take j).flatMap (AC k)/\J (pre++q1) wr/\Below w0.heap.size W wr) (fun i _=>ds.length - (intOf i).toNat)
   case atStart=>exact ⟨0,[],ys,Nat.zero_le _,rfl,rfl,by simp,by simpa using HJ0.o,HB.o⟩
   case round=>
    obtain ⟨j,q1,q2,hj1,rfl,hq,hq1,hJ1,hB1⟩:=hrel
    have HQ:=Aa hq
    have HQ1:=Aa hq1
    have HJ1:=Aa hJ1
    clear hq hq1 hJ1
    by_cases hlt:j < ds.length
    ·obtain ⟨b,off,rfl,hcl⟩:=HDS.o (by rintro rfl;simp at hlt)
     obtain ⟨cs2,hl3,hcs,hr⟩:=hcl j ds[j] (List.getElem?_eq_getElem hlt)
     obtain ⟨xa,xc,rfl⟩:=hr.form
     have hBw:=HW.o.trans hB1
     have g0:wr.cell? ⟨b,off+j*3,none⟩=_:=Ab hBw _ _ (hcs 0 _ rfl)
     have g1:=Ab hBw _ _ (hcs 1 _ rfl)
     have g2:=Ab hBw _ _ (hcs 2 _ rfl)
     have hsp:∃ z q3,q2=z++q3/\z.map Subtype.val=AC k ds[j]:=by
      have h1:=HYS.o
      rw [HQ.o,List.map_append,HQ1.o] at h1
      have h2:ds.flatMap (AC k)=(ds.take j).flatMap (AC k)++(AC k ds[j]++(ds.drop (j+1)).flatMap (AC k)):=by
       rw [<-List.append_assoc,<-Ft hlt,<-List.flatMap_append,List.take_append_drop]
      rw [h2] at h1
      have h3:=List.append_cancel_left h1
      obtain ⟨z,q3,e1,e2,-⟩:=List.map_eq_append_iff.1 h3
      exact ⟨z,q3,e1,e2⟩
     obtain ⟨z,q3,hq2,hz⟩:=hsp
     have hlen:(pre++q1).length+z.length<=N:=by
      have:=HN.o
      rw [HQ.o,hq2] at this
      simp at this ⊢
      omega
     obtain ⟨ek,hek⟩:=nm (AH ds[j])
     obtain ⟨en,hen⟩:=nm (Ba ds[j])
     obtain ⟨xl,hxl⟩:=nm ((AF ds[j]).length)
     have hba:=bA wr (ze #[U zd ek,U zd en,O xa xl xc] 94)
     rw [<-hek,<-hen,<-hxl] at hr
     rw [<-hek] at g0
     rw [<-hen] at g1
     rw [<-hxl] at g2
     have KI:=Aa (ih (n - 1) _ ds[j] (pre++q1) z _ hr (hBw.trans (hba.mono hBw.size)) (hJ _ _ _ HJ1.o hba) hz hlen)
     have HB2:=Aa (hB1.trans (hba.mono hBw.size))
     have HX:Hx (ys=(q1++z)++q3/\(q1++z).map Subtype.val=(ds.take (j+1)).flatMap (AC k)):=by
      refine ⟨by rw [HQ.o,hq2,List.append_assoc],?_⟩
      rw [List.map_append,HQ1.o,hz,Ft hlt]
     clear hcl hcs hr hl3 hek hen hxl hq2 hz hlen hba hBw HJ1 HQ HQ1
     gi_wp2_with ((try refine ⟨hdd _,?_⟩);gi_at_call 211;refine (KI.o).mono ?_;clear KI;rintro e W2 (⟨rfl,hJ2,hb2⟩ | ⟨rfl,q,hq,hx2⟩))
     ·have HJ2:=Aa hJ2
      have HB3:=Aa (HB2.o.trans hb2)
      clear hJ2 hb2
      gi_wp2
      go_roundw
      case rel=>exact ⟨j+1,q1++z,q3,by omega,by go_num,HX.o.1,HX.o.2,by rw [<-List.append_assoc];exact HJ2.o,HB3.o⟩
      case measure=>simp [intOf];omega
     ·gi_wp2
      go_ret
      refine .inr ⟨rfl,q1++q,?_,by rw [<-List.append_assoc];exact hx2⟩
      rw [HX.o.1,List.append_assoc]
      exact (List.prefix_append_right_inj _).2 (hq.trans (List.prefix_append _ _))
    ·gi_wp2
     go_ret
     refine .inl ⟨rfl,?_,hB1⟩
     have h1:=HYS.o
     have h2:=HQ1.o
     rw [List.take_of_length_le (by omega),<-h1,HQ.o] at h2
     have h3:q2=[]:=by
      have:=congrArg List.length h2
      simp at this
      exact this
     rw [HQ.o,h3,List.append_nil]
     exact HJ1.o
end Go.Proofs.YtfffpjkcfnekaaaGreat.Ex
namespace Go.Proofs.YtfffpjkcfnekaaaGreat.Ex
open Go.RowKit
open Go.Value renaming slice -> O, int -> U, bool -> zg, agg -> zh, pointer -> zj, tuple -> zm
open Go.IntKind renaming i64 -> zd
open Go.Obj renaming cells -> ze
open Go.Ending renaming returned -> zk
def CB:List Value:=[U zd 3,U zd 0,U zd 0,U zd 0,U zd 0,O none 0 0,O none 0 0,O none 0 0,O none 0 0,U zd 4,U zd 0,U zd 0,U zd 2,U zd 0,O none 0 0,O none 0 0,O none 0 0,O none 0 0]
def Ae (cs:List Value) (w:World) (b:Nat):Prop:=∀ j u,cs[j]? = some u->w.cell? ⟨b,j,none⟩=some u
theorem Ae.over {cs:List Value} {w w':World} {b:Nat} (h:Ae cs w b) (hB:Ov w w'):Ae cs w' b:=fun j u hu=>Ab hB _ _ (h j u hu)
abbrev DH (bi bo bv bm:Nat):Value:=zh #[U zd 1,O none 0 0,O none 0 0,O (some ⟨bi,0,none⟩) 1 1,O (some ⟨bo,0,none⟩) 1 1,O (some ⟨bv,0,none⟩) 1 1,O none 0 0,O (some ⟨bm,0,none⟩) 2 2]
theorem Tryz.infoL:(Tryz.prog.info? 39).map (fun i=>(i.zero,i.size,i.bytes))=some (some (zh #[O none 0 0,O none 0 0]),2,48):=by kernel_rfl
theorem Ae.new (cs:List Value) (t:Nat) (w:World):Ae cs (w.alloc (.cells cs.toArray t)) w.heap.size:=fun j u hu=>by
 rw [Lib.cell_of_heap (heap_alloc_new w _)]
 simpa using hu
end Go.Proofs.YtfffpjkcfnekaaaGreat.Ex
