/- The document's own least level above two, and greatest below: JoinLevels and MeetLevels. -/
import Derived.Test.YtfffpjkcfnekaaaGreatF06
import Derived.Maps.AppendAt
import Derived.Deep.CutRange
import Derived.Test.YtfffpjkcfnekaaaGreatF03
import Derived.Deep.QuietTactic
import Derived.BigQuiet
import Derived.Deep.RegionHeld2
set_option linter.unusedVariables false
set_option maxHeartbeats 8000000
set_option maxRecDepth 100000
namespace Go.Proofs.YtfffpjkcfnekaaaGreat
open Go.RowKit
open Go.Value renaming slice -> O, int -> U, bool -> zg, agg -> zh, pointer -> zj, tuple -> zm
open Go.IntKind renaming i64 -> zd
open Go.Obj renaming cells -> ze
open Go.Ending renaming returned -> zk
def A1 (l:List Bool):List Value:=l.map Value.bool
theorem AJ (W:World) (o:Obj):(W.alloc o).heap[W.heap.size]? = some o:=heap_alloc_new W o
theorem C2 {W W':World} {B:Nat} {v:Value} {k:Nat} {xs:List Value} (h:W.ownsRow B 4 1 v k xs) (hb:Ov W W'):W'.ownsRow B 4 1 v k xs:=by
 obtain ⟨h1,h2⟩:=h
 refine ⟨h1,?_⟩
 rcases h2 with h2 | ⟨g,cap,cur,hv,hg,hh,r⟩
 ·exact Or.inl h2
 ·refine Or.inr ⟨g,cap,cur,hv,hg,?_,r⟩
  rw [hb.block g (Array.getElem?_eq_some_iff.1 hh).1]
  exact hh
theorem Jb {W:World} {B:Nat} {v:Value} {k:Nat} {xs:List Value} (h:W.ownsRow B 4 1 v k xs) (o:Obj):(W.alloc o).ownsRow B 4 1 v k xs:=
 C2 h (bA W o)
theorem Bm {W:World} {B:Nat} {v:Value} {k:Nat} {xs:List Value} (h:W.ownsRow B 4 1 v k xs) {p:Addr} (hp:p.block < B) (u:Value):(W.setCell p u).ownsRow B 4 1 v k xs:=
 ownsRow_setCell_below h hp u
theorem MS {W:World} {B:Nat} {v:Value} {k:Nat} {xs:List Value} (h:W.ownsRow B 4 1 v k xs) {g:Nat} (hg:v.ownBlock=some g):B<=g/\g < W.heap.size:=by
 rcases h.2 with ⟨rfl,_⟩ | ⟨g',cap,cur,rfl,hg',hh,_⟩
 ·cases hg
 ·simp [Value.ownBlock] at hg
  subst hg
  exact ⟨hg',(Array.getElem?_eq_some_iff.1 hh).1⟩
def NR (u v:Value):Prop:=u.ownBlock=none\/u.ownBlock≠v.ownBlock
theorem Cg {W:World} {B:Nat} {v:Value} {l:List Bool} (h:W.ownsRow B 4 1 v l.length (A1 l)):AN W v l:=by
 have hc:=fun g=>h.cells (g:=g)
 rcases h.2 with ⟨rfl,h0⟩ | ⟨g,cap,cur,rfl,_⟩
 ·exact ⟨none,0,by rw [h0],fun hne=>absurd (List.eq_nil_of_length_eq_zero h0) hne⟩
 ·refine ⟨_,cap,rfl,fun _=>⟨g,0,rfl,fun i hi=>?_⟩⟩
  have k0:(A1 l)[i]? = some (zg l[i]):=by simp [A1,hi]
  have h1:=hc g rfl _ _ k0
  have hadd:(⟨g,0,none⟩:Addr).add i=⟨g,i,none⟩:=by unfold Addr.add;split <;> simp_all
  rw [hadd] at h1
  simpa using h1
theorem CN {W:World} {b T:Nat} {x y:Value} (h:W.heap[b]? = some (ze #[x,y] T (0,0))):W.cell? ⟨b,0,none⟩=some x/\W.cell? ⟨b,1,none⟩=some y/\W.frozen? ⟨b,0,none⟩=false/\W.frozen? ⟨b,1,none⟩=false:=by
 refine ⟨?_,?_,?_,?_⟩ <;> simp [World.cell?,World.frozen?,h]
theorem GD {W:World} {B B':Nat} {v:Value} {k:Nat} {xs:List Value} (h:W.ownsRow B 4 1 v k xs) (hb:B'<=B):W.ownsRow B' 4 1 v k xs:=by
 obtain ⟨h1,h2⟩:=h
 refine ⟨h1,?_⟩
 rcases h2 with h2 | ⟨g,cap,cur,hv,hg,hh,r⟩
 ·exact Or.inl h2
 ·exact Or.inr ⟨g,cap,cur,hv,Nat.le_trans hb hg,hh,r⟩
def Dk (a b:List Bool) (i:Nat):Bool:=a[i]?.getD false && b[i]?.getD false
def EH (a b:List Bool) (i:Nat):Bool:=a[i]?.getD false || b[i]?.getD false
def BR (f:Nat->Bool) (n:Nat):List Bool:=(List.range n).map f
theorem I2 (f:Nat->Bool) (n:Nat):BR f (n+1)=BR f n++[f n]:=by simp [BR,List.range_succ]
theorem A5 (f:Nat->Bool) (n:Nat):(BR f n).length=n:=by simp [BR]
def Bs (l m:Lev) (n:Nat):Lev:=⟨BR (Dk l.r m.r) n,BR (EH l.w m.w) n⟩
def Ps (l m:Lev) (n:Nat):Lev:=⟨BR (EH l.r m.r) n,BR (Dk l.w m.w) n⟩
structure Lab where
 r:List Pol
 w:List Pol
def Me (n:Nat) (b:Lab):Prop:=(b.r.length<=4/\∀ p∈b.r,EG n p)/\(b.w.length<=4/\∀ p∈b.w,EG n p)
def AA (gn:List (Nat × Nat)) (n:Nat) (b:Lab):Lev:=⟨BR (fun i=>E7 gn n i b.r) n,BR (fun i=>E7 gn n i b.w) n⟩
def Jg (m:Int) (b:Lab):Int:=if Cq m b.r=0 then Cq m b.w else Cq m b.r
theorem IJ {m:Int} {ps:List Pol} (h:Co m ps=0):∀ p∈ps,C7 m p=0:=by
 induction ps with
 | nil=>simp
 | cons p ps ih=>
  rw [Co] at h
  split at h
  ·rename_i h0
   intro q hq
   rcases List.mem_cons.1 hq with rfl | hq
   ·exact h0
   ·exact ih h q hq
  ·rename_i h0
   exact absurd h h0
theorem Kp {n:Nat} {p:Pol} (h:C7 n p=0):EG n p:=by
 unfold C7 at h
 split at h
 ·split at h
  ·split at h
   ·rename_i h1 h2 h3
    simp [BJ] at h1
    refine ⟨h1,h2,fun x hx=>?_⟩
    have:=List.all_eq_true.1 h3 x hx
    simp [BJ] at this
    exact this
   ·cases h
  ·cases h
 ·cases h
theorem FO {n:Nat} {ps:List Pol} (h:Cq n ps=0):ps.length<=4/\∀ p∈ps,EG n p:=by
 unfold Cq at h
 split at h
 ·rename_i h1
  exact ⟨h1,fun p hp=>Kp (IJ h p hp)⟩
 ·cases h
theorem GF {n:Nat} {b:Lab} (h:Jg n b=0):Me n b:=by
 unfold Jg at h
 split at h
 ·rename_i h1
  exact ⟨FO h1,FO h⟩
 ·rename_i h1
  exact absurd h h1
def AE:Lev:=⟨[],[]⟩
def Be (w w':World) (v:Value) (L:Lev):Prop:=∃ vr vw,v=zh #[vr,vw]/\w'.ownsRow w.heap.size 4 1 vr L.r.length (A1 L.r)/\w'.ownsRow w.heap.size 4 1 vw L.w.length (A1 L.w)/\NR vr vw
theorem Cv {w w':World} {v:Value} {L:Lev} (h:Be w w' v L):AQ w' v L:=by
 obtain ⟨vr,vw,rfl,h1,h2,_⟩:=h
 exact ⟨vr,vw,rfl,Cg h1,Cg h2⟩
def Bo (m:Int) (gs:List (Int × Int)) (b:Lab):Int:=if AU m gs=0 then Jg m b else AU m gs
def Bq (m:Int) (gs:List (Int × Int)) (l:Lev):Int:=if AU m gs=0 then Ct m l else AU m gs
def Dp (m:Int) (gs:List (Int × Int)) (l k:Lev):Int:=if Bq m gs l=0 then Bq m gs k else Bq m gs l
def Ke:Prop:=∀ (m:Int) (v:Value) (gs:List (Int × Int)) (pr pw:Value) (bl:Lab) (w:World),Az w v gs->AC w pr bl.r->AC w pw bl.w ->
 Calls Tryz.prog 48 #[zh #[U zd m,v],zh #[pr,pw]] w fun e w'=>e=zk (U zd (Bo m gs bl))/\Ov w w'
def Kc:Prop:=∀ (m:Int) (v:Value) (gs:List (Int × Int)) (pr pw:Value) (bl:Lab) (w:World),Az w v gs->AC w pr bl.r->AC w pw bl.w ->
 Calls Tryz.prog 23 #[zh #[U zd m,v],zh #[pr,pw]] w fun e w'=>∃ vl,e=zk (zm #[vl,U zd (Bo m gs bl)])/\Be w w' vl (if Bo m gs bl=0 then AA (AD gs) m.toNat bl else AE)/\Ov w w'
def Kb:Prop:=∀ (m:Int) (v:Value) (gs:List (Int × Int)) (vl:Value) (l:Lev) (w:World),Az w v gs->AQ w vl l ->
 Calls Tryz.prog 49 #[zh #[U zd m,v],vl] w fun e w'=>e=zk (U zd (Bq m gs l))/\Ov w w'
def Kd:Prop:=∀ (m:Int) (v:Value) (gs:List (Int × Int)) (vl vk:Value) (l k:Lev) (w:World),Az w v gs->AQ w vl l->AQ w vk k ->
 Calls Tryz.prog 16 #[zh #[U zd m,v],vl,vk] w fun e w'=>e=zk (zm #[zg (decide (Dp m gs l k=0) && Ay l k m.toNat),U zd (Dp m gs l k)])/\Ov w w'
def MD:Prop:=∀ (m:Int) (v:Value) (gs:List (Int × Int)) (vl vk:Value) (l k:Lev) (w:World),Az w v gs->AQ w vl l->AQ w vk k ->
 Calls Tryz.prog 46 #[zh #[U zd m,v],vl,vk] w fun e w'=>∃ vj,e=zk (zm #[vj,U zd (Dp m gs l k)])/\Be w w' vj (if Dp m gs l k=0 then Bs l k m.toNat else AE)/\Ov w w'
def MC:Prop:=∀ (m:Int) (v:Value) (gs:List (Int × Int)) (vl vk:Value) (l k:Lev) (w:World),Az w v gs->AQ w vl l->AQ w vk k ->
 Calls Tryz.prog 47 #[zh #[U zd m,v],vl,vk] w fun e w'=>∃ vj,e=zk (zm #[vj,U zd (Dp m gs l k)])/\Be w w' vj (if Dp m gs l k=0 then Ps l k m.toNat else AE)/\Ov w w'
def CI:List (Int × Int):=[(1,0)]
theorem Dw (w:World):Calls Tryz.prog 44 #[] w fun e w'=>∃ v,e=zk (zh #[U zd 2,v])/\Az w' v CI/\Ov w w':=by
 go_enter Tryz.func44,Tryz.ntmps44
 go_wp2_with fail
 refine bodyPost_ret (v:=zh #[U zd 2,O (some ⟨w.heap.size+1,0,none⟩) 1 1]) (by simp [results,Tryz.results44,go_sem]) rfl ⟨_,rfl,⟨_,_,rfl,fun _=>⟨_,0,rfl,fun i hi=>?_⟩⟩,?_⟩
 ·have:i=0:=by simp [CI] at hi;omega
  subst this
  simp [go_sem,CI]
 ·first
  | exact (((bA w _).alloc (by simp) _).setCell (by simp) _).setCell (by simp) _
  | exact ((bA w _).alloc (by simp) _)
def Cy:Lab:=⟨[⟨1,[]⟩],[]⟩
theorem FM (w:World):Calls Tryz.prog 45 #[] w fun e w'=>∃ pr pw,e=zk (zh #[pr,pw])/\AC w' pr Cy.r/\AC w' pw Cy.w/\Ov w w':=by
 go_enter Tryz.func45,Tryz.ntmps45
 go_wp2_with fail
 refine bodyPost_ret (v:=zh #[O (some ⟨w.heap.size+1,0,none⟩) 1 1,O none 0 0]) (by simp [results,Tryz.results45,go_sem]) rfl ⟨_,_,rfl,⟨_,_,rfl,fun _=>⟨_,0,rfl,fun i hi=>?_⟩⟩,⟨none,0,rfl,fun h=>absurd rfl h⟩,?_⟩
 ·have:i=0:=by simp [Cy] at hi;omega
  subst this
  refine ⟨by simp [go_sem,Cy],O none 0 0,by simp [go_sem],⟨none,0,rfl,fun h=>absurd rfl h⟩⟩
 ·first
  | exact (((bA w _).alloc (by simp) _).setCell (by simp) _).setCell (by simp) _
  | exact ((bA w _).alloc (by simp) _)
theorem AO {w:World} {v:Value} {ps:List Pol} (h:AC w v ps):∃ a n c,v=O a n c:=by
 obtain ⟨a,c,e,_⟩:=h
 exact ⟨a,_,c,e⟩
theorem Ci {w:World} {v:Value} {gs:List (Int × Int)} (h:Az w v gs):∃ a n c,v=O a n c:=by
 obtain ⟨a,c,e,_⟩:=h
 exact ⟨a,_,c,e⟩
theorem Ht:Ke:=by
 intro m v gs pr pw bl w hv hp hq
 have hbel:Ov w ((w.alloc (ze #[U zd m,v] 24)).alloc (ze #[pr,pw] 39)):=(bA w _).alloc (by simp) _
 have hC:=fun (W:World) (hB:Ov w W)=>check_any m v gs W (Af hv hB)
 have hP:=fun (W:World) (hB:Ov w W)=>DR m v pr bl.r W (Ai hp hB)
 have hQ:=fun (W:World) (hB:Ov w W)=>DR m v pw bl.w W (Ai hq hB)
 have hE:Bo m gs bl=if AU m gs=0 then (if Cq m bl.r=0 then Cq m bl.w else Cq m bl.r) else AU m gs:=rfl
 obtain ⟨r,hr⟩:=nm (AU m gs)
 obtain ⟨p1,hp1⟩:=nm (Cq m bl.r)
 obtain ⟨p2,hp2⟩:=nm (Cq m bl.w)
 rw [<-hr,<-hp1,<-hp2] at hE
 rw [<-hr] at hC
 rw [<-hp1] at hP
 rw [<-hp2] at hQ
 obtain ⟨va,vn,vc,rfl⟩:=Ci hv
 obtain ⟨pa,pn,pc,rfl⟩:=AO hp
 obtain ⟨qa,qn,qc,rfl⟩:=AO hq
 have KC:=Aa hC
 have KP:=Aa hP
 have KQ:=Aa hQ
 have HE:=Aa hE
 clear hC hP hQ hE hr hp1 hp2 hv hp hq
 go_enter Tryz.func48,Tryz.ntmps48
 go_wp2_with fail
 refine (KC.o _ hbel).mono ?_
 rintro e w1 ⟨rfl,hb1⟩
 obtain ⟨hc,hf⟩:=Al hb1
 have c0:w1.cell? ⟨w.heap.size,0,none⟩=some (U zd m):=by rw [hc _ _ (by simp;omega)];simp [go_sem]
 have c1:w1.cell? ⟨w.heap.size,1,none⟩=some (O va vn vc):=by rw [hc _ _ (by simp;omega)];simp [go_sem]
 have c2:w1.cell? ⟨w.heap.size+1,0,none⟩=some (O pa pn pc):=by rw [hc _ _ (by simp)];simp [go_sem]
 have c3:w1.cell? ⟨w.heap.size+1,1,none⟩=some (O qa qn qc):=by rw [hc _ _ (by simp)];simp [go_sem]
 have hB1:Ov w w1:=hbel.trans (hb1.mono (by simp;omega))
 clear hc hf hb1 hbel KC
 by_cases hr0:r=0
 ·subst hr0
  go_wp2_with fail
  refine (KP.o _ hB1).mono ?_
  rintro e w2 ⟨rfl,hb2⟩
  have ltw:=bL c0
  have ltp:=bL c2
  obtain ⟨hc,hf⟩:=Al hb2
  have d0:w2.cell? ⟨w.heap.size,0,none⟩=some (U zd m):=by rw [hc _ _ ltw];exact c0
  have d1:w2.cell? ⟨w.heap.size,1,none⟩=some (O va vn vc):=by rw [hc _ _ ltw];exact c1
  have d3:w2.cell? ⟨w.heap.size+1,1,none⟩=some (O qa qn qc):=by rw [hc _ _ ltp];exact c3
  have hB2:Ov w w2:=hB1.trans (hb2.mono hB1.size)
  clear hc hf hb2 hB1 c0 c1 c2 c3 KP
  by_cases hp0:p1=0
  ·subst hp0
   go_wp2_with fail
   refine (KQ.o _ hB2).mono ?_
   rintro e w3 ⟨rfl,hb3⟩
   have hB3:Ov w w3:=hB2.trans (hb3.mono hB2.size)
   clear d0 d1 d3 hb3 KQ
   go_wp2_with fail
   go_ret
   exact ⟨by rw [HE.o];simp,hB3⟩
  ·have hne:(p1 != 0)=true:=by simpa using hp0
   go_wp2_with fail
   go_ret
   exact ⟨by rw [HE.o];simp [hp0],hB2⟩
 ·have hne:(r != 0)=true:=by simpa using hr0
  go_wp2_with fail
  go_ret
  exact ⟨by rw [HE.o];simp [hr0],hB1⟩
def Ae (W:World) (b n:Nat) (l:List Bool):Prop:=l.length=n/\∀ i (h:i < l.length),W.cell? ⟨b,i,none⟩=some (zg l[i])
theorem Er {W W':World} {b n:Nat} {l:List Bool} (h:Ae W b n l) (hb:Ov W W'):Ae W' b n l:=
 ⟨h.1,fun i hi=>by rw [(Al hb).1 _ _ (bL (h.2 i hi))];exact h.2 i hi⟩
theorem Hy (b kb n:Nat) (l:List Bool) (x:Int) (W:World) (hn:n<=6) (hx:0<=x/\x < n) (h0:W.cell? ⟨b,0,none⟩=some (O (some ⟨kb,0,none⟩) n n)) (hr:Ae W kb n l) :
  Calls Tryz.prog 128 #[U zd x,zj (some ⟨b,0,none⟩)] W fun e w'=>e=zk (zg (l[x.toNat]?.getD false))/\Ov W w':=by
 obtain ⟨k,rfl⟩:∃ k:Nat,x=k:=⟨x.toNat,by omega⟩
 have hk:k < l.length:=by rw [hr.1];omega
 have q:=hr.2 k hk
 have hx2:l[(k:Int).toNat]?.getD false=l[k]:=by simp [hk]
 rw [hx2]
 obtain ⟨y,hy⟩:=nm (l[k])
 rw [<-hy] at q ⊢
 clear hy hx2 hr
 go_enter Tryz.func128,Tryz.ntmps128
 go_wp2_with fail
 go_ret
 exact ⟨by simp,Below.refl _ W⟩
def G8 (l:List Bool) (p:Pol):Bool:=(l[p.owner.toNat]?.getD false) || p.names.any (fun x=>l[x.toNat]?.getD false)
theorem EJ (kb n:Nat) (l:List Bool) (vp:Value) (ps:List Pol) (w:World) (hn:n<=6) (hr:Ae w kb n l) (hp:AC w vp ps) (hps:ps.length<=4/\∀ p∈ps,EG n p) :
  Calls Tryz.prog 72 #[O (some ⟨kb,0,none⟩) n n,vp] w fun e w'=>e=zk (zg (ps.all (G8 l)))/\Ov w w':=by
 have HP:=Aa hp
 obtain ⟨ao,cap,rfl,-⟩:=hp
 have hbel:Ov w (w.alloc (ze #[O (some ⟨kb,0,none⟩) n n] 48)):=bA w _
 have KA:=Aa fun (x:Int) (W:World) (hx:0<=x/\x < n) (hB:Ov w W) (h0:W.cell? ⟨w.heap.size,0,none⟩=some (O (some ⟨kb,0,none⟩) n n))=>Hy w.heap.size kb n l x W hn hx h0 (Er hr hB)
 have hl4:=hps.1
 have HPS:=Aa hps.2
 clear hps hr
 go_enter Tryz.func72,Tryz.ntmps72
 go_wp2_with fail
 go_loopw [11] (fun i wr=>∃ k:Nat,k<=ps.length/\i=U zd k/\(ps.take k).all (G8 l)=true/\Ov w wr/\wr.cell? ⟨w.heap.size,0,none⟩=some (O (some ⟨kb,0,none⟩) n n)) (fun i _=>ps.length - (intOf i).toNat)
 case atStart=>exact ⟨0,Nat.zero_le _,rfl,rfl,hbel,by simp [go_sem]⟩
 case round=>
  obtain ⟨k,hk,rfl,hall,hbw,c0⟩:=hrel
  by_cases hkl:k < ps.length
  ·obtain ⟨b,off,cap',nv,hve,q0,q1,q2⟩:=GH (Ai HP.o hbw) hkl
   injection hve with e1 e2 e3
   subst e1 e3
   clear e2
   obtain ⟨hown,hnm6,hnms⟩:=HPS.o ps[k] (List.getElem_mem hkl)
   have hpr:G8 l ps[k]=((l[ps[k].owner.toNat]?.getD false) || ps[k].names.any (fun x=>l[x.toNat]?.getD false)):=rfl
   have hnext:G8 l ps[k]=true->(ps.take (k+1)).all (G8 l)=true:=fun h=>by
    rw [List.take_succ_eq_append_getElem hkl,List.all_append,hall]
    simp [h]
   have hstop:G8 l ps[k]=false->ps.all (G8 l)=false:=fun h=>by
    rw [List.all_eq_false]
    exact ⟨ps[k],List.getElem_mem hkl,by simp [h]⟩
   have hal:Ov wr (wr.alloc (ze #[U zd ps[k].owner,nv] 87)):=bA wr _
   have hO:=fun (W:World) (hB:Ov w W) (h0:W.cell? ⟨w.heap.size,0,none⟩=some (O (some ⟨kb,0,none⟩) n n))=>KA.o ps[k].owner W hown hB h0
   have hN:=fun (W:World) (hB:Ov w W) (hB2:Ov wr W) (h0:W.cell? ⟨w.heap.size,0,none⟩=some (O (some ⟨kb,0,none⟩) n n))=>DS 128 (zj (some ⟨w.heap.size,0,none⟩)) (fun x=>l[x.toNat]?.getD false) nv ps[k].names W (BH q2 hB2) hnm6 (Aa fun i hi w1 hb=>KA.o ps[k].names[i] w1 (hnms _ (List.getElem_mem hi)) (hB.trans (hb.mono hB.size)) (by rw [(Al hb).1 _ _ (bL h0)];exact h0)) OO
   obtain ⟨x1,hx1⟩:=nm (l[ps[k].owner.toNat]?.getD false)
   obtain ⟨x2,hx2⟩:=nm (ps[k].names.any (fun x=>l[x.toNat]?.getD false))
   obtain ⟨ow,how⟩:=nm (ps[k].owner)
   rw [<-hx1,<-hx2] at hpr
   rw [hpr] at hnext hstop
   rw [<-hx1] at hO
   rw [<-hx2] at hN
   rw [<-how] at q0 hal hO
   obtain ⟨na,nn,nc,hnv⟩:∃ a n c,nv=O a n c:=by obtain ⟨a,c,e,_⟩:=q2;exact ⟨a,_,c,e⟩
   subst hnv
   have HN:=Aa hnext
   have HS:=Aa hstop
   have KO:=Aa hO
   have KN:=Aa hN
   have hbw2:=hbw.trans (hal.mono hbw.size)
   have ltw:=bL c0
   have ltb:=bL q0
   have c0':(wr.alloc (ze #[U zd ow,O na nn nc] 87)).cell? ⟨w.heap.size,0,none⟩=some (O (some ⟨kb,0,none⟩) n n):=by rw [(Al hal).1 _ _ ltw];exact c0
   have HC0:=Aa c0'
   clear hx1 hx2 how hpr hnext hstop hO hN hall q2 c0' hown hnm6 hnms
   cases x1 with
   | true=>
    go_wp2_with fail
    refine (KO.o _ hbw2 HC0.o).mono ?_
    rintro e w2 ⟨rfl,hb2⟩
    have hb3:=hbw2.trans (hb2.mono hbw2.size)
    have d0:w2.cell? ⟨w.heap.size,0,none⟩=some (O (some ⟨kb,0,none⟩) n n):=by rw [(Al hb2).1 _ _ (bL HC0.o)];exact HC0.o
    clear hb2 hbw2 c0 q0 q1 HC0
    go_wp2_with fail
    exact ⟨⟨k+1,by omega,by go_num,HN.o (by simp),hb3,d0⟩,by simp [intOf];omega⟩
   | false=>
    go_wp2_with fail
    refine (KO.o _ hbw2 HC0.o).mono ?_
    rintro e w2 ⟨rfl,hb2⟩
    have hb3:=hbw2.trans (hb2.mono hbw2.size)
    have d0:w2.cell? ⟨w.heap.size,0,none⟩=some (O (some ⟨kb,0,none⟩) n n):=by rw [(Al hb2).1 _ _ (bL HC0.o)];exact HC0.o
    have d1:w2.cell? ⟨wr.heap.size,1,none⟩=some (O na nn nc):=by rw [(Al hb2).1 _ _ (by simp)];simp [go_sem]
    have hb4:Ov wr w2:=hal.trans (hb2.mono (by simp))
    clear hb2 hbw2 c0 q0 q1 HC0
    go_wp2_with fail
    refine (KN.o _ hb3 hb4 d0).mono ?_
    rintro e w3 ⟨rfl,hb5⟩
    have hb6:=hb3.trans (hb5.mono hb3.size)
    have f0:w3.cell? ⟨w.heap.size,0,none⟩=some (O (some ⟨kb,0,none⟩) n n):=by rw [(Al hb5).1 _ _ (bL d0)];exact d0
    clear hb5 hb3 d0 d1 hb4 KN KO
    cases x2 with
    | true=>
     go_wp2_with fail
     exact ⟨⟨k+1,by omega,by go_num,HN.o (by simp),hb6,f0⟩,by simp [intOf];omega⟩
    | false=>
     go_wp2_with fail
     go_ret
     exact ⟨by rw [HS.o (by simp)];rfl,hb6⟩
  ·have hke:k=ps.length:=by omega
   have hz:ps.all (G8 l)=true:=by rw [hke,List.take_length] at hall;exact hall
   have HZ:=Aa hz
   clear hz hall c0
   go_wp2_with fail
   go_ret
   exact ⟨by rw [HZ.o];rfl,hbw⟩
end Go.Proofs.YtfffpjkcfnekaaaGreat
namespace Go.Proofs.YtfffpjkcfnekaaaGreat.Ex
open Go.RowKit
open Go.Value renaming slice -> O, int -> U, bool -> zg, agg -> zh, pointer -> zj, tuple -> zm
open Go.IntKind renaming i64 -> zd
open Go.Obj renaming cells -> ze
open Go.Ending renaming returned -> zk
def sD (kd va ot:Int) (e:D) (ags ts es:List D):D:=.agg [.lit (.int zd kd),.lit (.int zd va),.lit (.int zd ot),e,.slice ags [],.slice ts [],.slice es []]
def Am:D->Int
 | .agg (.lit (.int _ n)::_)=>n
 | _=>0
def AK:D->Int
 | .agg (_::.lit (.int _ n)::_)=>n
 | _=>0
def Ah:D->Int
 | .agg (_::_::.lit (.int _ n)::_)=>n
 | _=>0
def AV:D->D
 | .agg (_::_::_::e::_)=>e
 | d=>d
def Ap:D->List D
 | .agg (_::_::_::_::.slice l _::_)=>l
 | _=>[]
def Av:D->List D
 | .agg (_::_::_::_::_::.slice l _::_)=>l
 | _=>[]
def Ax:D->List D
 | .agg (_::_::_::_::_::_::.slice l _::_)=>l
 | _=>[]
def RS (w:World) (K:Nat):Nat->List Value->D->Prop
 | 0,_,_=>False
 | k+1,cs,d=>∃ (kd va ot:Int) (x0 x1 x2:Value) (e:D) (vA:Value) (ags:List D) (vT:Value) (ts:List D) (vE:Value) (es:List D),
   cs=[U zd kd,U zd va,U zd ot,x0,x1,x2,vA,vT,vE]/\d=sD kd va ot e ags ts es/\Cp kd/\Cp va/\Cp ot/\RX w K [x0,x1,x2] e/\XS 3 (RX w K) w vA ags/\XS 9 (RS w K k) w vT ts/\XS 9 (RS w K k) w vE es
theorem RS.mono {w w':World} {K:Nat} (hw:∀ a u,w.cell? a=some u->w'.cell? a=some u) :
  ∀ (k m:Nat) (cs:List Value) (d:D),k<=m->RS w K k cs d->RS w' K m cs d:=by
 intro k
 induction k with
 | zero=>intro m cs d _ h;exact h.elim
 | succ k ih=>
  intro m cs d hkm h
  obtain ⟨m',rfl⟩:∃ m',m=m' + 1:=⟨m - 1,by omega⟩
  obtain ⟨kd,va,ot,x0,x1,x2,e,vA,ags,vT,ts,vE,es,hcs,hd,h1,h2,h3,he,hA,hT,hE⟩:=h
  exact ⟨kd,va,ot,x0,x1,x2,e,vA,ags,vT,ts,vE,es,hcs,hd,h1,h2,h3,RX.mono hw K K _ e (Nat.le_refl _) he,
   hA.mono hw (fun cs d _ hh=>RX.mono hw K K cs d (Nat.le_refl _) hh),hT.mono hw (fun cs d _ hh=>ih m' cs d (by omega) hh),hE.mono hw (fun cs d _ hh=>ih m' cs d (by omega) hh)⟩
def Bf (w:World) (K k:Nat) (v:Value) (l:List D):Prop:=XS 9 (RS w K k) w v l
theorem Bf.over {w w':World} {K k:Nat} {v:Value} {l:List D} (h:Bf w K k v l) (hb:Ov w w'):Bf w' K k v l:=
 XS.mono h (Ab hb) (fun cs d _ hh=>RS.mono (Ab hb) k k cs d (Nat.le_refl _) hh)
structure FnD where
 ps:List Int
 body:List D
 res:D
def EP (fs:List FnD) (c:Int):FnD:=fs.getD c.toNat ⟨[],[],.agg []⟩
def Nr (v:Value) (ps:List Int):Prop:=ps.length<=maxLen/\∃ pa pc,v=O pa ps.length pc/\ps.length<=pc/\pc<=maxLen
def BC (w:World) (K k:Nat) (v:Value) (fs:List FnD):Prop:=
 fs.length<=maxLen/\∃ ao cap,v=O ao fs.length cap/\(fs≠[]->∃ b off,ao=some ⟨b,off,none⟩/\∀ i (h:i < fs.length),∃ (vP vB x0 x1 x2:Value),
  w.cell? ⟨b,off+i*5,none⟩=some vP/\w.cell? ⟨b,off+i*5+1,none⟩=some vB/\w.cell? ⟨b,off+i*5+2,none⟩=some x0/\w.cell? ⟨b,off+i*5+3,none⟩=some x1/\w.cell? ⟨b,off+i*5+4,none⟩=some x2 /\
  AM w vP fs[i].ps/\Nr vP fs[i].ps/\Bf w K k vB fs[i].body/\RX w K [x0,x1,x2] fs[i].res)
theorem BC.over {w w':World} {K k:Nat} {v:Value} {l:List FnD} (h:BC w K k v l) (hb:Ov w w'):BC w' K k v l:=by
 obtain ⟨hm,ao,cap,hv,hc⟩:=h
 refine ⟨hm,ao,cap,hv,fun hne=>?_⟩
 obtain ⟨b,off,hao,hel⟩:=hc hne
 refine ⟨b,off,hao,fun i hi=>?_⟩
 obtain ⟨vP,vB,x0,x1,x2,h0,h1,h2,h3,h4,hp,hpl,hs,hx⟩:=hel i hi
 exact ⟨vP,vB,x0,x1,x2,Ab hb _ _ h0,Ab hb _ _ h1,Ab hb _ _ h2,Ab hb _ _ h3,Ab hb _ _ h4,hp.over hb,hpl,hs.over hb,hx.over hb⟩
def Bb (w:World) (v:Value) (ls:List Lab):Prop:=
 ls.length<=maxLen/\∃ ao cap,v=O ao ls.length cap/\(ls≠[]->∃ b off,ao=some ⟨b,off,none⟩/\∀ i (h:i < ls.length),∃ (pr pw:Value),
  w.cell? ⟨b,off+i*2,none⟩=some pr/\w.cell? ⟨b,off+i*2+1,none⟩=some pw/\AC w pr ls[i].r/\AC w pw ls[i].w)
theorem Bb.over {w w':World} {v:Value} {l:List Lab} (h:Bb w v l) (hb:Ov w w'):Bb w' v l:=by
 obtain ⟨hm,ao,cap,hv,hc⟩:=h
 refine ⟨hm,ao,cap,hv,fun hne=>?_⟩
 obtain ⟨b,off,hao,hel⟩:=hc hne
 refine ⟨b,off,hao,fun i hi=>?_⟩
 obtain ⟨pr,pw,h0,h1,hr,hw⟩:=hel i hi
 exact ⟨pr,pw,Ab hb _ _ h0,Ab hb _ _ h1,Ai hr hb,Ai hw hb⟩
def Br (w:World) (v:Value) (ls:List (Bool × Lab)):Prop:=
 ls.length<=maxLen/\∃ ao cap,v=O ao ls.length cap/\(ls≠[]->∃ b off,ao=some ⟨b,off,none⟩/\∀ i (h:i < ls.length),∃ (pr pw:Value),
  w.cell? ⟨b,off+i*3,none⟩=some (zg ls[i].1)/\w.cell? ⟨b,off+i*3+1,none⟩=some pr/\w.cell? ⟨b,off+i*3+2,none⟩=some pw/\AC w pr ls[i].2.r/\AC w pw ls[i].2.w)
theorem Br.over {w w':World} {v:Value} {l:List (Bool × Lab)} (h:Br w v l) (hb:Ov w w'):Br w' v l:=by
 obtain ⟨hm,ao,cap,hv,hc⟩:=h
 refine ⟨hm,ao,cap,hv,fun hne=>?_⟩
 obtain ⟨b,off,hao,hel⟩:=hc hne
 refine ⟨b,off,hao,fun i hi=>?_⟩
 obtain ⟨pr,pw,h0,h1,h2,hr,hw⟩:=hel i hi
 exact ⟨pr,pw,Ab hb _ _ h0,Ab hb _ _ h1,Ab hb _ _ h2,Ai hr hb,Ai hw hb⟩
def AB (why:Int):Ending:=.panicked [{ v:=.iface 230 (zh #[U zd 0,U zd why]),recovered:=false }]
theorem Kz (why:Int) (w:World):Calls Tryz.prog 215 #[U zd 0,zg false,U zd why] w fun e w'=>e=AB why/\w'=w:=by
 unfold AB
 go_enter Tryz.func215,Tryz.ntmps215
 go_wp2_with fail
 exact ⟨rfl,rfl,rfl⟩
theorem JZ (why:Int) (w:World):Calls Tryz.prog 172 #[zg false,U zd why] w fun e w'=>e=AB why/\w'=w:=by
 have K:=Aa fun W=>Kz why W
 unfold AB at K ⊢
 go_enter Tryz.func172,Tryz.ntmps172
 go_wp2_with fail
 refine (K.o _).mono ?_
 rintro e w1 ⟨rfl,rfl⟩
 go_wp2_with fail
 exact ⟨rfl,rfl,rfl⟩
def PF (ok:Bool) (why:Int) (w:World) (e:Ending) (w':World):Prop:=(ok=true/\e=zk (zm #[])\/ok=false/\e=AB why)/\w'=w
theorem BU (ok:Bool) (why:Int) (w:World):Calls Tryz.prog 172 #[zg ok,U zd why] w (PF ok why w):=by
 cases ok with
 | true=>exact (BL why w).mono fun e w' h=>⟨Or.inl ⟨rfl,h.1⟩,h.2⟩
 | false=>exact (JZ why w).mono fun e w' h=>⟨Or.inr ⟨rfl,h.1⟩,h.2⟩
theorem FP (why:Int) (w:World):Calls Tryz.prog 171 #[U zd why] w (PF (why == 0) why w):=by
 by_cases h:why=0
 ·subst h
  exact (MQ w).mono fun e w' h=>⟨Or.inl ⟨rfl,h.1⟩,h.2⟩
 ·have hb:(why == 0)=false:=by simpa using h
  have K:=Aa fun W=>JZ why W
  have H:Calls Tryz.prog 171 #[U zd why] w fun e w'=>e=AB why/\w'=w:=by
   unfold AB at K ⊢
   go_enter Tryz.func171,Tryz.ntmps171
   go_wp2_with fail
   refine (K.o _).mono ?_
   rintro e w1 ⟨rfl,rfl⟩
   go_wp2_with fail
   exact ⟨rfl,rfl,rfl⟩
  exact H.mono fun e w' h=>⟨Or.inr ⟨hb,h.1⟩,h.2⟩
@[simp] theorem PJ (kd va ot:Int) (e:D) (ags ts es:List D):Am (sD kd va ot e ags ts es)=kd:=rfl
@[simp] theorem PQ (kd va ot:Int) (e:D) (ags ts es:List D):AK (sD kd va ot e ags ts es)=va:=rfl
@[simp] theorem Pe (kd va ot:Int) (e:D) (ags ts es:List D):Ah (sD kd va ot e ags ts es)=ot:=rfl
@[simp] theorem PK (kd va ot:Int) (e:D) (ags ts es:List D):AV (sD kd va ot e ags ts es)=e:=rfl
@[simp] theorem PM (kd va ot:Int) (e:D) (ags ts es:List D):Ap (sD kd va ot e ags ts es)=ags:=rfl
@[simp] theorem PI (kd va ot:Int) (e:D) (ags ts es:List D):Av (sD kd va ot e ags ts es)=ts:=rfl
@[simp] theorem PL (kd va ot:Int) (e:D) (ags ts es:List D):Ax (sD kd va ot e ags ts es)=es:=rfl
abbrev sC (kd va ot ek en:Int) (xa:Option Addr) (xl xc:Nat) (aa:Option Addr) (al ac:Nat) (ta:Option Addr) (tl tc:Nat) (ea:Option Addr) (el ec:Nat):List Value:=
 [U zd kd,U zd va,U zd ot,U zd ek,U zd en,O xa xl xc,O aa al ac,O ta tl tc,O ea el ec]
theorem RS.form {w:World} {K k:Nat} {cs:List Value} {d:D} (h:RS w K (k+1) cs d) :
  ∃ (ek en:Int) (xa:Option Addr) (xl xc:Nat) (aa:Option Addr) (ac:Nat) (ta:Option Addr) (tc:Nat) (ea:Option Addr) (ec:Nat),
   cs=sC (Am d) (AK d) (Ah d) ek en xa xl xc aa (Ap d).length ac ta (Av d).length tc ea (Ax d).length ec/\Cp (Am d)/\Cp (AK d)/\Cp (Ah d) /\
   RX w K [U zd ek,U zd en,O xa xl xc] (AV d)/\XS 3 (RX w K) w (O aa (Ap d).length ac) (Ap d)/\Bf w K k (O ta (Av d).length tc) (Av d)/\Bf w K k (O ea (Ax d).length ec) (Ax d) /\
   ek=AI (AV d)/\en=Bc (AV d)/\xl=(AH (AV d)).length:=by
 obtain ⟨kd,va,ot,x0,x1,x2,e,vA,ags,vT,ts,vE,es,rfl,rfl,h1,h2,h3,he,hA,hT,hE⟩:=h
 obtain ⟨xa,xc,hx⟩:=he.form
 simp only [List.cons.injEq,and_true] at hx
 obtain ⟨rfl,rfl,rfl⟩:=hx
 obtain ⟨aa,ac,rfl,-⟩:=hA.2
 obtain ⟨ta,tc,rfl,-⟩:=hT.2
 obtain ⟨ea,ec,rfl,-⟩:=hE.2
 exact ⟨_,_,xa,_,xc,aa,ac,ta,tc,ea,ec,rfl,h1,h2,h3,he,hA,hT,hE,rfl,rfl,rfl⟩
def CW:Nat->D->Nat
 | 0,_=>0
 | k+1,d=>1+((Av d).map (CW k)).sum+((Ax d).map (CW k)).sum
def A7 (k:Nat) (l:List D):Nat:=(l.map (CW k)).sum
theorem GN {k:Nat} {l:List D} {j:Nat} (hj:j < l.length):A7 k (l.take (j+1))=A7 k (l.take j)+CW k l[j]:=by
 unfold A7
 rw [List.take_succ_eq_append_getElem hj,List.map_append,List.sum_append]
 simp
theorem Bf.zero {w:World} {K:Nat} {v:Value} {l:List D} (h:Bf w K 0 v l):l=[]:=by
 cases l with
 | nil=>rfl
 | cons d l=>
  obtain ⟨-,ao,cap,-,hc⟩:=h
  obtain ⟨b,off,-,hel⟩:=hc (by simp)
  obtain ⟨cs,-,-,hr⟩:=hel 0 d rfl
  exact hr.elim
def Ca (k:Nat) (fs:List FnD):Nat:=(fs.map fun f=>A7 k f.body).sum
theorem Fe {k:Nat} {l:List FnD} {j:Nat} (hj:j < l.length):Ca k (l.take (j+1))=Ca k (l.take j)+A7 k l[j].body:=by
 unfold Ca
 rw [List.take_succ_eq_append_getElem hj,List.map_append,List.sum_append]
 simp
def Dg (ok:Prop) (w:World) (e:Ending) (w':World):Prop:=((ok/\e=zk (zm #[]))\/∃ why:Int,why≠0/\e=AB why)/\Ov w w'
theorem LW (w:World):Calls Tryz.prog 243 #[U zd 1] w fun e w'=>e=zk (zm #[zh #[zg true,zg false,zg true,zg false,zg false,zg false],zg true])/\Ov w w':=by
 go_enter Tryz.func243,Tryz.ntmps243
 go_wp2_with fail
 exact bodyPost_ret (v:=zm #[zh #[zg true,zg false,zg true,zg false,zg false,zg false],zg true]) (by simp [results,Tryz.results243,go_sem]) rfl ⟨rfl,bA w _⟩
theorem LV (w:World):Calls Tryz.prog 243 #[U zd 2] w fun e w'=>e=zk (zm #[zh #[zg true,zg true,zg false,zg true,zg false,zg false],zg true])/\Ov w w':=by
 go_enter Tryz.func243,Tryz.ntmps243
 go_wp2_with fail
 exact bodyPost_ret (v:=zm #[zh #[zg true,zg true,zg false,zg true,zg false,zg false],zg true]) (by simp [results,Tryz.results243,go_sem]) rfl ⟨rfl,bA w _⟩
theorem LU (w:World):Calls Tryz.prog 243 #[U zd 3] w fun e w'=>e=zk (zm #[zh #[zg true,zg true,zg false,zg false,zg false,zg false],zg true])/\Ov w w':=by
 go_enter Tryz.func243,Tryz.ntmps243
 go_wp2_with fail
 exact bodyPost_ret (v:=zm #[zh #[zg true,zg true,zg false,zg false,zg false,zg false],zg true]) (by simp [results,Tryz.results243,go_sem]) rfl ⟨rfl,bA w _⟩
theorem LT (w:World):Calls Tryz.prog 243 #[U zd 4] w fun e w'=>e=zk (zm #[zh #[zg false,zg true,zg true,zg false,zg false,zg false],zg true])/\Ov w w':=by
 go_enter Tryz.func243,Tryz.ntmps243
 go_wp2_with fail
 exact bodyPost_ret (v:=zm #[zh #[zg false,zg true,zg true,zg false,zg false,zg false],zg true]) (by simp [results,Tryz.results243,go_sem]) rfl ⟨rfl,bA w _⟩
theorem LS (w:World):Calls Tryz.prog 243 #[U zd 5] w fun e w'=>e=zk (zm #[zh #[zg true,zg false,zg true,zg false,zg false,zg false],zg true])/\Ov w w':=by
 go_enter Tryz.func243,Tryz.ntmps243
 go_wp2_with fail
 exact bodyPost_ret (v:=zm #[zh #[zg true,zg false,zg true,zg false,zg false,zg false],zg true]) (by simp [results,Tryz.results243,go_sem]) rfl ⟨rfl,bA w _⟩
theorem LR (w:World):Calls Tryz.prog 243 #[U zd 6] w fun e w'=>e=zk (zm #[zh #[zg true,zg false,zg true,zg false,zg false,zg false],zg true])/\Ov w w':=by
 go_enter Tryz.func243,Tryz.ntmps243
 go_wp2_with fail
 exact bodyPost_ret (v:=zm #[zh #[zg true,zg false,zg true,zg false,zg false,zg false],zg true]) (by simp [results,Tryz.results243,go_sem]) rfl ⟨rfl,bA w _⟩
theorem LQ (w:World):Calls Tryz.prog 243 #[U zd 7] w fun e w'=>e=zk (zm #[zh #[zg false,zg false,zg true,zg false,zg true,zg true],zg true])/\Ov w w':=by
 go_enter Tryz.func243,Tryz.ntmps243
 go_wp2_with fail
 exact bodyPost_ret (v:=zm #[zh #[zg false,zg false,zg true,zg false,zg true,zg true],zg true]) (by simp [results,Tryz.results243,go_sem]) rfl ⟨rfl,bA w _⟩
theorem LP (w:World):Calls Tryz.prog 243 #[U zd 8] w fun e w'=>e=zk (zm #[zh #[zg false,zg false,zg true,zg false,zg true,zg false],zg true])/\Ov w w':=by
 go_enter Tryz.func243,Tryz.ntmps243
 go_wp2_with fail
 exact bodyPost_ret (v:=zm #[zh #[zg false,zg false,zg true,zg false,zg true,zg false],zg true]) (by simp [results,Tryz.results243,go_sem]) rfl ⟨rfl,bA w _⟩
theorem Ib (k:Int) (hk:¬ (1<=k/\k<=8)) (w:World):Calls Tryz.prog 243 #[U zd k] w fun e w'=>e=zk (zm #[zh #[zg false,zg false,zg false,zg false,zg false,zg false],zg false])/\Ov w w':=by
 have b1:(k == 1)=false:=by simp;omega
 have b2:(k == 2)=false:=by simp;omega
 have b3:(k == 3)=false:=by simp;omega
 have b4:(k == 4)=false:=by simp;omega
 have b5:(k == 5)=false:=by simp;omega
 have b6:(k == 6)=false:=by simp;omega
 have b7:(k == 7)=false:=by simp;omega
 have b8:(k == 8)=false:=by simp;omega
 clear hk
 go_enter Tryz.func243,Tryz.ntmps243
 go_wp2_with fail
 exact bodyPost_ret (v:=zm #[zh #[zg false,zg false,zg false,zg false,zg false,zg false],zg false]) (by simp [results,Tryz.results243,go_sem]) rfl ⟨rfl,bA w _⟩
theorem Ce (k:Int) (funcs:Int) (m:Int) (ga gn gc sa sn sc ya yn yc oa on oc va vn vc fa fn fc ba bn bc) (w:World):Calls Tryz.prog 244 #[zh #[U zd m,O ga gn gc,O sa sn sc,O ya yn yc,O oa on oc,O va vn vc,O fa fn fc,O ba bn bc],U zd k,U zd funcs] w fun e w'=>e=zk (U zd (if k=2 then funcs else if k=3 then yn else on))/\Ov w w':=by
 have hbel:Ov w (w.alloc (ze #[U zd m,O ga gn gc,O sa sn sc,O ya yn yc,O oa on oc,O va vn vc,O fa fn fc,O ba bn bc] 184)):=bA w _
 by_cases h2:k=2
 ·subst h2
  go_enter Tryz.func244,Tryz.ntmps244
  go_wp2_with fail
  go_ret
  exact ⟨rfl,hbel⟩
 ·by_cases h3:k=3
  ·subst h3
   go_enter Tryz.func244,Tryz.ntmps244
   go_wp2_with fail
   go_ret
   exact ⟨rfl,hbel⟩
  ·rw [if_neg h2,if_neg h3]
   go_enter Tryz.func244,Tryz.ntmps244
   go_wp2_with fail
   go_ret
   exact ⟨rfl,hbel⟩
def CJ (K:Nat) (nv ni no:Nat) (funcs:Int) (fs:List FnD) (d:D):Prop:=
 (1<=Am d/\Am d<=8)/\((Am d=1\/Am d=2\/Am d=3\/Am d=5\/Am d=6)->0<=AK d/\AK d < nv) /\
 (Am d=2->(0<=Ah d/\Ah d < funcs)/\(∀ f,fs[(Ah d).toNat]? = some f->f.ps.length=(Ap d).length)/\∀ a∈Ap d,A2 nv K a=0) /\
 (Am d=3->0<=Ah d/\Ah d < ni)/\((Am d=1\/4<=Am d)->A2 nv K (AV d)=0)/\((Am d=2\/Am d=3)->AI (AV d)=0/\AH (AV d)=[])/\(Am d=4->0<=Ah d/\Ah d < no)
def okS (K:Nat) (nv ni no:Nat) (funcs:Int) (fs:List FnD):Nat->D->Prop
 | 0,_=>False
 | k+1,d=>CJ K nv ni no funcs fs d/\(∀ s∈Av d,okS K nv ni no funcs fs k s)/\∀ s∈Ax d,okS K nv ni no funcs fs k s
theorem Dg.imp {p q:Prop} {w:World} {e:Ending} {w':World} (h:Dg p w e w') (hpq:p->q):Dg q w e w':=by
 obtain ⟨h,hB⟩:=h
 refine ⟨?_,hB⟩
 rcases h with ⟨hp,he⟩ | h
 ·exact Or.inl ⟨hpq hp,he⟩
 ·exact Or.inr h
theorem BC.mono {w:World} {K k m:Nat} {v:Value} {l:List FnD} (h:BC w K k v l) (hkm:k<=m):BC w K m v l:=by
 obtain ⟨hm,ao,cap,hv,hc⟩:=h
 refine ⟨hm,ao,cap,hv,fun hne=>?_⟩
 obtain ⟨b,off,hao,hel⟩:=hc hne
 refine ⟨b,off,hao,fun i hi=>?_⟩
 obtain ⟨vP,vB,x0,x1,x2,h0,h1,h2,h3,h4,hp,hpl,hs,hx⟩:=hel i hi
 exact ⟨vP,vB,x0,x1,x2,h0,h1,h2,h3,h4,hp,hpl,XS.mono hs (fun _ _ hh=>hh) (fun cs d _ hh=>RS.mono (fun _ _ q=>q) k m cs d hkm hh),hx⟩
theorem AM.prefix {w:World} {ao:Option Addr} {cap:Nat} {vs:List Int} (h:AM w (O ao vs.length cap) vs) {i:Nat} (hi:i<=vs.length) (c:Nat):AM w (O ao i c) (vs.take i):=by
 obtain ⟨a2,c2,he,hc⟩:=h
 injection he with e1 e2 e3
 subst e1
 refine ⟨ao,c,by simp [Nat.min_eq_left hi],fun hne=>?_⟩
 obtain ⟨b,off,hao,hel⟩:=hc (by rintro rfl;simp at hne)
 refine ⟨b,off,hao,fun j hj=>?_⟩
 have hj2:j < vs.length:=by simp at hj;omega
 rw [List.getElem_take]
 exact hel j hj2
def okF (K:Nat) (nv ni no:Nat) (ahead:Int) (fs:List FnD) (k:Nat) (f:FnD):Prop:=
 f.ps.length<=4/\(∀ p∈f.ps,0<=p/\p < nv)/\(∀ s∈f.body,okS K nv ni no ahead fs k s)/\A2 nv K f.res=0
end Go.Proofs.YtfffpjkcfnekaaaGreat.Ex
