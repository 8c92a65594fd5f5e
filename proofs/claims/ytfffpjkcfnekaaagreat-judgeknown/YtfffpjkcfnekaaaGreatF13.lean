/- Package label: those who may, levels that are right, one list within another. -/
import Derived.Test.YtfffpjkcfnekaaaGreatF07
import Derived.Deep.RegionHeld3
import Derived.Deep.DrawnRows
set_option linter.unusedVariables false
set_option maxHeartbeats 8000000
set_option maxRecDepth 100000
namespace Go.Proofs.YtfffpjkcfnekaaaGreat
open Go.RowKit
open Go.Value renaming slice -> O, int -> U, bool -> zg, agg -> zh, pointer -> zj, tuple -> zm
open Go.IntKind renaming i64 -> zd
open Go.Obj renaming cells -> ze
open Go.Ending renaming returned -> zk
theorem Gm {α:Type} (l:List α) (k:Nat) (x:α) (h:k < l.length):(l.set k x).take (k+1)=l.take k++[x]:=by
 rw [List.take_succ_eq_append_getElem (by simpa using h)]
 simp only [List.take_set,List.getElem_set_self]
 rw [List.set_eq_of_length_le (by simp;omega)]
def D9 (f:Nat->Bool) (g n k:Nat) (W:World):Prop:=∃ cur:List Value,cur.length=n/\cur.take k=A1 (BR f k)/\W.heap[g]? = some (.cells cur.toArray 4 (0,0))
theorem IK {f:Nat->Bool} {g n k:Nat} {W W':World} (h:D9 f g n k W) (hb:Ov W W'):D9 f g n k W':=by
 obtain ⟨cur,h1,h2,h3⟩:=h
 exact ⟨cur,h1,h2,by rw [hb.block g (Array.getElem?_eq_some_iff.1 h3).1];exact h3⟩
theorem Jq {f:Nat->Bool} {g n k:Nat} {W:World} (h:D9 f g n k W) (hk:k < n):D9 f g n (k+1) (W.setCell ⟨g,k,none⟩ (zg (f k))):=by
 obtain ⟨cur,h1,h2,h3⟩:=h
 refine ⟨cur.set k (zg (f k)),by simpa using h1,?_,?_⟩
 ·rw [Gm _ _ _ (by omega),h2,I2]
  simp [A1]
 ·have:=heap_setCell_same W g k _ 4 (zg (f k)) h3
  simpa using this
theorem IL {f:Nat->Bool} {g n k j:Nat} {W:World} (h:D9 f g n k W) (hj:j < n):(∃ u,W.cell? ⟨g,j,none⟩=some u)/\W.frozen? ⟨g,j,none⟩=false:=by
 obtain ⟨cur,h1,h2,h3⟩:=h
 refine ⟨⟨cur[j]'(by omega),?_⟩,?_⟩
 ·simp [World.cell?,h3,h1,hj]
 ·simp [World.frozen?,h3]
theorem Jr {f:Nat->Bool} {g n B:Nat} {W:World} (h:D9 f g n n W) (hn:n<=6) (hg:B<=g):W.ownsRow B 4 1 (O (some ⟨g,0,none⟩) n n) n (A1 (BR f n)):=by
 obtain ⟨cur,h1,h2,h3⟩:=h
 refine ⟨by simp [A1,A5],Or.inr ⟨g,n,cur.toArray,rfl,hg,h3,Nat.le_refl _,by unfold maxLen;omega,by simp [h1],?_⟩⟩
 rw [Nat.mul_one]
 exact h2
theorem CY (F:FuncId) (c1 c2:Value) (f:Nat->Bool) (n:Nat) (h1:1<=n) (hn:n<=6) (s:Value) (w:World)
  (hF:Hx (∀ (k:Nat),k < n->∀ W:World,Ov w W->Calls Tryz.prog F #[U zd k,c1,c2] W fun e w2=>e=zk (zg (f k))/\Ov W w2))
  (hC:∀ (args:Array Value) (w:World),(callFunc F args).run Tryz.prog w=.ok (.enter F args) w) :
  Calls Tryz.prog 70 #[zh #[U zd n,s],.func (.func F) #[] #[c1,c2]] w fun e w'=>∃ g,e=zk (O (some ⟨g,0,none⟩) n n)/\w.heap.size<=g/\g < w'.heap.size/\w'.ownsRow w.heap.size 4 1 (O (some ⟨g,0,none⟩) n n) n (A1 (BR f n))/\Ov w w':=by
 have hmk:=fun w=>DD n hn w
 have hst:D9 f (w.heap.size+1) n 0 ((w.alloc (ze #[U zd n,s] 24)).alloc (.cells (List.replicate n (Value.bool false)).toArray 4)):=by
  refine ⟨List.replicate n (zg false),by simp,by simp [BR,A1],?_⟩
  have:=heap_alloc_new (w.alloc (ze #[U zd n,s] 24)) (.cells (List.replicate n (Value.bool false)).toArray 4)
  simpa using this
 have hbel:Ov w ((w.alloc (ze #[U zd n,s] 24)).alloc (.cells (List.replicate n (Value.bool false)).toArray 4)):=(bA w _).alloc (by simp) _
 have HST:=Aa hst
 have HB:=Aa hbel
 clear hst hbel
 go_enter Tryz.func70,Tryz.ntmps70
 go_wp2_with fail
 go_loopw [12] (fun i wr=>∃ k:Nat,k<=n/\i=U zd k/\D9 f (w.heap.size+1) n k wr/\Ov w wr) (fun i _=>n - (intOf i).toNat)
 case atStart=>exact ⟨0,Nat.zero_le _,rfl,by simpa using HST.o,by simpa using HB.o⟩
 case round=>
  clear HST HB hmk
  obtain ⟨k,hk,rfl,hfil,hbw⟩:=hrel
  by_cases hkn:k < n
  ·have HC:=Aa (hF.o k hkn _ hbw)
   go_wp2_with fail
   refine (HC.o).mono ?_
   rintro e w2 ⟨rfl,hb2⟩
   have hf2:=IK hfil hb2
   have hb3:=hbw.trans (hb2.mono hbw.size)
   obtain ⟨⟨u,d1⟩,d2⟩:=IL hf2 hkn
   have hf3:=Jq hf2 hkn
   have hb4:=hb3.setCell (p:=⟨w.heap.size+1,k,none⟩) (by simp) (zg (f k))
   have HF3:=Aa hf3
   have HB4:=Aa hb4
   clear hfil hf2 hb2 hb3 hf3 hb4 HC hbw
   go_wp2_with fail
   exact ⟨⟨k+1,by omega,by go_num,HF3.o,HB4.o⟩,by simp [intOf];omega⟩
  ·have hke:k=n:=by omega
   subst hke
   have hlt:w.heap.size+1 < wr.heap.size:=by obtain ⟨cur,_,_,h3⟩:=hfil;exact (Array.getElem?_eq_some_iff.1 h3).1
   have HO:=Aa (Jr hfil hn (B:=w.heap.size) (by omega))
   clear hfil hF
   go_wp2_with fail
   go_ret
   exact ⟨w.heap.size+1,rfl,by omega,hlt,HO.o,hbw⟩
def Bg (w:World) (v:Value) (ls:List Lev):Prop:=
 ∃ ao cap,v=O ao ls.length cap/\(ls≠[]->∃ b off,ao=some ⟨b,off,none⟩/\∀ i (h:i < ls.length),∃ rv wv,w.cell? ⟨b,off+i*2,none⟩=some rv/\w.cell? ⟨b,off+i*2+1,none⟩=some wv/\AQ w (zh #[rv,wv]) ls[i])
theorem Aw {w w':World} {v:Value} {ls:List Lev} (h:Bg w v ls) (hb:Ov w w'):Bg w' v ls:=by
 obtain ⟨ao,cap,rfl,hc⟩:=h
 refine ⟨ao,cap,rfl,fun hne=>?_⟩
 obtain ⟨b,off,rfl,hcl⟩:=hc hne
 refine ⟨b,off,rfl,fun i hi=>?_⟩
 obtain ⟨rv,wv,h1,h2,h3⟩:=hcl i hi
 exact ⟨rv,wv,by rw [(Al hb).1 _ _ (bL h1)];exact h1,by rw [(Al hb).1 _ _ (bL h2)];exact h2,Ag h3 hb⟩
theorem GJ {w:World} {v:Value} {ls:List Lev} (h:Bg w v ls) {i:Nat} (hi:i < ls.length):∃ b off cap rv wv,v=O (some ⟨b,off,none⟩) ls.length cap/\w.cell? ⟨b,off+i*2,none⟩=some rv/\w.cell? ⟨b,off+i*2+1,none⟩=some wv/\AQ w (zh #[rv,wv]) ls[i]:=by
 obtain ⟨ao,cap,rfl,hc⟩:=h
 obtain ⟨b,off,rfl,hcl⟩:=hc (by rintro rfl;simp at hi)
 obtain ⟨rv,wv,h1,h2,h3⟩:=hcl i hi
 exact ⟨b,off,cap,rv,wv,rfl,h1,h2,h3⟩
def BV (m:Int):List Lev->Int
 | []=>0
 | l::ls=>if Ct m l=0 then BV m ls else Ct m l
theorem Gt {m:Int} {ls:List Lev} {k:Nat} (hk:k < ls.length):BV m (ls.drop k)=if Ct m ls[k]=0 then BV m (ls.drop (k+1)) else Ct m ls[k]:=by
 rw [List.drop_eq_getElem_cons hk]
 rfl
def Fg (m:Int) (gs:List (Int × Int)) (ls:List Lev):Int:=if AU m gs=0 then BV m ls else AU m gs
theorem DE (m:Int) (l:Lev):(Ct m l=0/\((l.r.length:Int)=m/\(l.w.length:Int)=m))\/(Ct m l=1/\((l.r.length:Int)≠m\/((l.r.length:Int)=m/\(l.w.length:Int)≠m))):=by
 unfold Ct
 by_cases h:(l.r.length:Int)=m/\(l.w.length:Int)=m
 ·exact Or.inl ⟨if_pos h,h⟩
 ·refine Or.inr ⟨if_neg h,?_⟩
  by_cases h1:(l.r.length:Int)=m
  ·exact Or.inr ⟨h1,fun h2=>h ⟨h1,h2⟩⟩
  ·exact Or.inl h1
theorem ES (m:Int) (v vs:Value) (gs ls) (w:World) (hv:Az w v gs) (hl:Bg w vs ls) (hn:ls.length<=2) :
  Calls Tryz.prog 59 #[zh #[U zd m,v],vs] w fun e w'=>e=zk (U zd (Fg m gs ls))/\Ov w w':=by
 have hbel:Ov w (w.alloc (ze #[U zd m,v] 24)):=bA w _
 have hC:=check_any m v gs (w.alloc (ze #[U zd m,v] 24)) (Af hv hbel)
 have hE:Fg m gs ls=if AU m gs=0 then BV m ls else AU m gs:=rfl
 have HL:=Aa hl
 obtain ⟨ao,cap,rfl,-⟩:=hl
 obtain ⟨r,hr⟩:=nm (AU m gs)
 rw [<-hr] at hC hE
 obtain ⟨va,vn,vc,rfl⟩:=Ci hv
 have HC:=Aa hC
 have HE:=Aa hE
 clear hC hE hr hv
 go_enter Tryz.func59,Tryz.ntmps59
 go_wp2_with fail
 refine (HC.o).mono ?_
 rintro e w1 ⟨rfl,hb1⟩
 have c0:w1.cell? ⟨w.heap.size,0,none⟩=some (U zd m):=by rw [(Al hb1).1 _ _ (by simp)];simp [go_sem]
 have hB1:Ov w w1:=hbel.trans (hb1.mono (by simp))
 clear HC hb1 hbel
 by_cases hr0:r=0
 ·subst hr0
  go_wp2_with fail
  go_loopw [15] (fun i wr=>∃ k:Nat,k<=ls.length/\i=U zd k/\BV m ls=BV m (ls.drop k)/\Ov w wr/\wr.cell? ⟨w.heap.size,0,none⟩=some (U zd m)) (fun i _=>ls.length - (intOf i).toNat)
  case atStart=>exact ⟨0,Nat.zero_le _,rfl,rfl,hB1,c0⟩
  case round=>
   clear hB1 c0
   obtain ⟨k,hk,rfl,hfe,hbw,c0⟩:=hrel
   by_cases hkl:k < ls.length
   ·obtain ⟨b,off,cap',rv,wv,hve,q0,q1,q2⟩:=GJ (Aw HL.o hbw) hkl
    injection hve with e1 e2 e3
    subst e1 e3
    clear e2
    have hfd:=Gt (m:=m) hkl
    rw [<-hfe] at hfd
    have hlc:=DE m ls[k]
    obtain ⟨x,y,hxy,⟨a1,k1,e1,-⟩,⟨a2,k2,e2,-⟩⟩:=q2
    obtain ⟨rfl,rfl⟩:rv=x/\wv=y:=by simpa using hxy
    subst e1 e2
    obtain ⟨n1,hn1⟩:=nm (ls[k].r.length)
    obtain ⟨n2,hn2⟩:=nm (ls[k].w.length)
    rw [<-hn1,<-hn2] at hlc
    rw [<-hn1] at q0
    rw [<-hn2] at q1
    have ltw:=bL c0
    have hal:Ov wr (wr.alloc (ze #[O a1 n1 k1,O a2 n2 k2] 50)):=bA wr _
    have hbw2:=hbw.trans (hal.mono hbw.size)
    have d0:(wr.alloc (ze #[O a1 n1 k1,O a2 n2 k2] 50)).cell? ⟨w.heap.size,0,none⟩=some (U zd m):=by rw [(Al hal).1 _ _ ltw];exact c0
    have D0:=Aa d0
    clear hxy hn1 hn2 hfe d0 hal hbw
    rcases hlc with ⟨hz,h1,h2⟩ | ⟨hz,h1 | ⟨h1,h2⟩⟩
    ·rw [hz] at hfd
     have HF:=Aa hfd
     have b1:((n1:Int) != m)=false:=by simp [h1]
     have b2:((n2:Int) != m)=false:=by simp [h2]
     clear hz hfd h1 h2
     go_wp2_with fail
     exact ⟨⟨k+1,by omega,by go_num,by rw [HF.o];simp,hbw2,D0.o⟩,by simp [intOf];omega⟩
    ·rw [hz] at hfd
     have HF:=Aa hfd
     have b1:((n1:Int) != m)=true:=by simpa using h1
     clear hz hfd h1
     go_wp2_with fail
     go_ret
     exact ⟨by rw [HE.o,HF.o];simp,hbw2⟩
    ·rw [hz] at hfd
     have HF:=Aa hfd
     have b1:((n1:Int) != m)=false:=by simp [h1]
     have b2:((n2:Int) != m)=true:=by simpa using h2
     clear hz hfd h1 h2
     go_wp2_with fail
     go_ret
     exact ⟨by rw [HE.o,HF.o];simp,hbw2⟩
   ·have hke:k=ls.length:=by omega
    have hz:BV m ls=0:=by rw [hfe,hke,List.drop_length];rfl
    have HZ:=Aa hz
    clear hz hfe c0
    go_wp2_with fail
    go_ret
    exact ⟨by rw [HE.o,HZ.o];simp,hbw⟩
 ·have hne:(r != 0)=true:=by simpa using hr0
  go_wp2_with fail
  go_ret
  exact ⟨by rw [HE.o];simp [hr0],hB1⟩
def CM (a b:List Bool) (n:Nat):Bool:=(List.range n).all fun i=>!((a[i]?.getD false) && !(b[i]?.getD false))
theorem GY (l m:Lev) (n:Nat):(CM m.r l.r n && CM l.w m.w n)=Ay l m n:=by
 rw [Bool.eq_iff_iff,AL]
 simp only [CM,Bool.and_eq_true,List.all_eq_true,List.mem_range]
 constructor
 ·rintro ⟨h1,h2⟩ i hi
  have a:=h1 i hi
  have b:=h2 i hi
  revert a b
  cases m.r[i]?.getD false <;> cases l.r[i]?.getD false <;> cases l.w[i]?.getD false <;> cases m.w[i]?.getD false <;> simp
 ·intro h
  refine ⟨fun i hi=>?_,fun i hi=>?_⟩ <;> have a:=h i hi <;> revert a <;> cases m.r[i]?.getD false <;> cases l.r[i]?.getD false <;> cases l.w[i]?.getD false <;> cases m.w[i]?.getD false <;> simp
theorem FG (va vb:Value) (a b:List Bool) (n:Nat) (w:World) (h0:1<=n) (hn:n<=6) (ha:AN w va a) (hb:AN w vb b) (hla:a.length=n) (hlb:b.length=n) :
  Calls Tryz.prog 60 #[va,vb] w fun e w'=>e=zk (zg (CM a b n))/\Ov w w':=by
 obtain ⟨b1,o1,c1,rfl,q1⟩:=BI ha hla h0
 obtain ⟨b2,o2,c2,rfl,q2⟩:=BI hb hlb h0
 have Q1:=Aa q1
 have Q2:=Aa q2
 clear q1 q2 ha hb hla hlb
 go_enter Tryz.func60,Tryz.ntmps60
 go_wp2_with fail
 go_loop [9] (fun i=>∃ k:Nat,k<=n/\i=U zd k/\(List.range k).all (fun i=>!((a[i]?.getD false) && !(b[i]?.getD false)))=true) (fun i=>n - (intOf i).toNat)
 case atStart=>exact ⟨0,Nat.zero_le _,rfl,rfl⟩
 case round=>
  obtain ⟨k,hk,rfl,hall⟩:=hrel
  by_cases hkn:k < n
  ·have q1:=Q1.o k hkn
   have q2:=Q2.o k hkn
   have hnext:(!((a[k]?.getD false) && !(b[k]?.getD false)))=true->(List.range (k+1)).all (fun i=>!((a[i]?.getD false) && !(b[i]?.getD false)))=true:=fun h=>by
    rw [List.range_succ,List.all_append,hall]
    simpa using h
   have hstop:(!((a[k]?.getD false) && !(b[k]?.getD false)))=false->CM a b n=false:=fun h=>by
    unfold CM
    rw [List.all_eq_false]
    exact ⟨k,List.mem_range.2 hkn,by simpa using h⟩
   generalize a[k]?.getD false=x at q1 hnext hstop
   generalize b[k]?.getD false=y at q2 hnext hstop
   have HN:=Aa hnext
   have HS:=Aa hstop
   clear hnext hstop hall
   cases x <;> cases y
   all_goals go_wp2_with fail
   all_goals first
    | exact ⟨⟨k+1,by omega,by go_num,HN.o (by first | rfl | trivial)⟩,by simp [intOf];omega⟩
    | (go_ret;exact ⟨by rw [HS.o (by first | rfl | trivial)];rfl,Below.refl _ w⟩)
  ·have hke:k=n:=by omega
   have hf:CM a b n=true:=by unfold CM;rw [<-hke];exact hall
   have HF:=Aa hf
   clear hf hall
   go_wp2_with fail
   go_ret
   exact ⟨by rw [HF.o];rfl,Below.refl _ w⟩
theorem Jj {W:World} {b:Nat} {rv wv:Value} {l:Lev} (h0:W.cell? ⟨b,0,none⟩=some rv) (h1:W.cell? ⟨b,1,none⟩=some wv) (hl:AQ W (zh #[rv,wv]) l):Bg W (O (some ⟨b,0,none⟩) 1 1) [l]:=by
 refine ⟨_,1,rfl,fun _=>⟨b,0,rfl,fun i hi=>?_⟩⟩
 have:i=0:=by simp at hi;omega
 subst this
 exact ⟨rv,wv,by simpa using h0,by simpa using h1,hl⟩
theorem Ji {W:World} {b:Nat} {rv wv ru wu:Value} {l k:Lev} (h0:W.cell? ⟨b,0,none⟩=some rv) (h1:W.cell? ⟨b,1,none⟩=some wv) (h2:W.cell? ⟨b,2,none⟩=some ru) (h3:W.cell? ⟨b,3,none⟩=some wu) (hl:AQ W (zh #[rv,wv]) l) (hk:AQ W (zh #[ru,wu]) k):Bg W (O (some ⟨b,0,none⟩) 2 2) [l,k]:=by
 refine ⟨_,2,rfl,fun _=>⟨b,0,rfl,fun i hi=>?_⟩⟩
 have:i=0\/i=1:=by simp at hi;omega
 rcases this with rfl | rfl
 ·exact ⟨rv,wv,by simpa using h0,by simpa using h1,hl⟩
 ·exact ⟨ru,wu,by simpa using h2,by simpa using h3,hk⟩
theorem JO (m:Int) (gs) (l:Lev):Fg m gs [l]=Bq m gs l:=by
 unfold Fg Bq BV BV
 split
 ·split
  ·rename_i h;rw [h]
  ·rfl
 ·rfl
theorem JN (m:Int) (gs) (l k:Lev):Fg m gs [l,k]=Dp m gs l k:=by
 unfold Fg Dp Bq BV BV BV
 by_cases hc:AU m gs=0
 ·simp only [if_pos hc]
  by_cases h1:Ct m l=0
  ·simp only [if_pos h1]
   by_cases h2:Ct m k=0
   ·simp [h2]
   ·simp [h2]
  ·simp [h1]
 ·simp [hc]
theorem Cf {w:World} {v:Value} {l:Lev} (h:AQ w v l):∃ a1 c1 a2 c2,v=zh #[O a1 l.r.length c1,O a2 l.w.length c2]:=by
 obtain ⟨vr,vw,rfl,⟨a1,k1,rfl,-⟩,⟨a2,k2,rfl,-⟩⟩:=h
 exact ⟨_,_,_,_,rfl⟩
theorem JY:Kb:=by
 intro m v gs vl l w hv hl
 have HL:=Aa hl
 obtain ⟨a1,k1,a2,k2,rfl⟩:=Cf hl
 have HV:=Aa hv
 obtain ⟨va,vn,vc,rfl⟩:=Ci hv
 have hb3:Ov w (((w.alloc (ze #[U zd m,O va vn vc] 24)).alloc (ze #[O a1 l.r.length k1,O a2 l.w.length k2] 50)).alloc (ze #[O a1 l.r.length k1,O a2 l.w.length k2] 50)):=((bA w _).alloc (by simp) _).alloc (by simp;omega) _
 have hcall:=ES m (O va vn vc) (O (some ⟨w.heap.size+1+1,0,none⟩) 1 1) gs [l] _ (Af HV.o hb3) (Jj (by simp [go_sem]) (by simp [go_sem]) (Ag HL.o hb3)) (by simp)
 rw [JO] at hcall
 obtain ⟨r,hr⟩:=nm (Bq m gs l)
 rw [<-hr] at hcall ⊢
 have HC:=Aa hcall
 clear hl hv hcall hr
 go_enter Tryz.func49,Tryz.ntmps49
 go_wp2_with fail
 refine (HC.o).mono ?_
 rintro e w1 ⟨rfl,hb1⟩
 have hB1:=hb3.trans (hb1.mono (by simp;omega))
 clear HC hb1 hb3
 go_wp2_with fail
 go_ret
 exact ⟨rfl,hB1⟩
theorem Hg {m:Int} {gs:List (Int × Int)} {l k:Lev} (h:Dp m gs l k=0):∃ n:Nat,m=n/\1<=n/\n<=6/\l.len n/\k.len n/\AU m gs=0:=by
 unfold Dp at h
 split at h
 ·rename_i h1
  have hc:AU m gs=0:=by
   unfold Bq at h
   split at h
   ·assumption
   ·exact h
  obtain ⟨n,hm,h3,h4,_⟩:=D5 hc
  unfold Bq at h h1
  rw [if_pos hc] at h h1
  rcases DE m l with ⟨_,g1,g2⟩ | ⟨g,_⟩
  ·rcases DE m k with ⟨_,g3,g4⟩ | ⟨g,_⟩
   ·exact ⟨n,hm,h3,h4,⟨by omega,by omega⟩,⟨by omega,by omega⟩,hc⟩
   ·rw [g] at h;cases h
  ·rw [g] at h1;cases h1
 ·rename_i h1
  exact absurd h h1
theorem JM (w:World) (m:Int) (gs) (v:Value) (x y z u:Value) (l k) (hv:Az w v gs) (hl:AQ w (zh #[x,y]) l) (hk:AQ w (zh #[z,u]) k) (W:World) (b:Nat) (hb:Ov w W)
  (h0:W.cell? ⟨b,0,none⟩=some x) (h1:W.cell? ⟨b,1,none⟩=some y) (h2:W.cell? ⟨b,2,none⟩=some z) (h3:W.cell? ⟨b,3,none⟩=some u) :
  Calls Tryz.prog 59 #[zh #[U zd m,v],O (some ⟨b,0,none⟩) 2 2] W fun e w'=>e=zk (U zd (Dp m gs l k))/\Ov W w':=by
 have hcall:=ES m v (O (some ⟨b,0,none⟩) 2 2) gs [l,k] W (Af hv hb) (Ji h0 h1 h2 h3 (Ag hl hb) (Ag hk hb)) (by simp)
 rw [JN] at hcall
 exact hcall
theorem Hl:Kd:=by
 intro m v gs vl vk l k w hv hl hk
 have HL:=Aa hl
 have HK:=Aa hk
 have HV:=Aa hv
 obtain ⟨a1,k1,a2,k2,rfl⟩:=Cf hl
 obtain ⟨a3,k3,a4,k4,rfl⟩:=Cf hk
 obtain ⟨va,vn,vc,rfl⟩:=Ci hv
 have hb3:Ov w ((((w.alloc (ze #[U zd m,O va vn vc] 24)).alloc (ze #[O a1 l.r.length k1,O a2 l.w.length k2] 50)).alloc (ze #[O a3 k.r.length k3,O a4 k.w.length k4] 50)).alloc (ze #[O a1 l.r.length k1,O a2 l.w.length k2,O a3 k.r.length k3,O a4 k.w.length k4] 50)):=(((bA w _).alloc (by simp) _).alloc (by simp;omega) _).alloc (by simp;omega) _
 have hcall:=JM w m gs (O va vn vc) _ _ _ _ l k HV.o HL.o HK.o _ (w.heap.size+1+1+1) hb3 (by simp [go_sem]) (by simp [go_sem]) (by simp [go_sem]) (by simp [go_sem])
 have hW:=fun (n:Nat) (h1:1<=n) (h6:n<=6) (hln:l.len n) (hkn:k.len n) (W:World) (hB:Ov w W)=>FG (O a3 k.r.length k3) (O a1 l.r.length k1) k.r l.r n W h1 h6 (by obtain ⟨_,_,e,h,_⟩:=HK.o;obtain ⟨rfl,rfl⟩:=(by simpa using e:_/\_);exact Ar h hB) (by obtain ⟨_,_,e,h,_⟩:=HL.o;obtain ⟨rfl,rfl⟩:=(by simpa using e:_/\_);exact Ar h hB) hkn.1 hln.1
 have hX:=fun (n:Nat) (h1:1<=n) (h6:n<=6) (hln:l.len n) (hkn:k.len n) (W:World) (hB:Ov w W)=>FG (O a2 l.w.length k2) (O a4 k.w.length k4) l.w k.w n W h1 h6 (by obtain ⟨_,_,e,_,h⟩:=HL.o;obtain ⟨rfl,rfl⟩:=(by simpa using e:_/\_);exact Ar h hB) (by obtain ⟨_,_,e,_,h⟩:=HK.o;obtain ⟨rfl,rfl⟩:=(by simpa using e:_/\_);exact Ar h hB) hln.2 hkn.2
 have hok:=fun h=>Hg (m:=m) (gs:=gs) (l:=l) (k:=k) h
 obtain ⟨r,hr⟩:=nm (Dp m gs l k)
 rw [<-hr] at hcall hok ⊢
 have HC:=Aa hcall
 have KW:=Aa hW
 have KX:=Aa hX
 have HOK:=Aa hok
 clear hl hk hv hcall hW hX hok hr
 go_enter Tryz.func16,Tryz.ntmps16
 go_wp2_with fail
 refine (HC.o).mono ?_
 rintro e w1 ⟨rfl,hb1⟩
 have hB1:=hb3.trans (hb1.mono (by simp;omega))
 obtain ⟨hc,hf⟩:=Al hb1
 have c0:w1.cell? ⟨w.heap.size+1,0,none⟩=some (O a1 l.r.length k1):=by rw [hc _ _ (by simp <;> omega)];simp [go_sem]
 have c1:w1.cell? ⟨w.heap.size+1,1,none⟩=some (O a2 l.w.length k2):=by rw [hc _ _ (by simp <;> omega)];simp [go_sem]
 have c2:w1.cell? ⟨w.heap.size+1+1,0,none⟩=some (O a3 k.r.length k3):=by rw [hc _ _ (by simp <;> omega)];simp [go_sem]
 have c3:w1.cell? ⟨w.heap.size+1+1,1,none⟩=some (O a4 k.w.length k4):=by rw [hc _ _ (by simp <;> omega)];simp [go_sem]
 clear hc hf hb1 hb3 HC
 by_cases hr0:r=0
 ·subst hr0
  obtain ⟨n,hm,h1,h6,hln,hkn,hch⟩:=HOK.o (by first | rfl | trivial)
  subst hm
  have hw1:=KW.o n h1 h6 hln hkn
  have hx1:=KX.o n h1 h6 hln hkn
  have hfl:=GY l k n
  obtain ⟨x,hx⟩:=nm (CM k.r l.r n)
  obtain ⟨y,hy⟩:=nm (CM l.w k.w n)
  rw [<-hx] at hw1 hfl
  rw [<-hy] at hx1 hfl
  have hfin:Ay l k n=(x && y):=hfl.symm
  have HFIN:=Aa hfin
  have HW1:=Aa hw1
  have HX1:=Aa hx1
  clear hw1 hx1 hfl hx hy hfin KW KX HOK hch
  cases x with
  | false=>
   go_wp2_with fail
   refine (HW1.o _ hB1).mono ?_
   rintro e w2 ⟨rfl,hb2⟩
   have hB2:=hB1.trans (hb2.mono hB1.size)
   clear hb2
   go_wp2_with fail
   go_ret2
   exact ⟨by rw [HFIN.o];simp,hB2⟩
  | true=>
   go_wp2_with fail
   refine (HW1.o _ hB1).mono ?_
   rintro e w2 ⟨rfl,hb2⟩
   have hB2:=hB1.trans (hb2.mono hB1.size)
   obtain ⟨hc,hf⟩:=Al hb2
   have d1:w2.cell? ⟨w.heap.size+1,1,none⟩=some (O a2 l.w.length k2):=by rw [hc _ _ (bL c1)];exact c1
   have d3:w2.cell? ⟨w.heap.size+1+1,1,none⟩=some (O a4 k.w.length k4):=by rw [hc _ _ (bL c3)];exact c3
   clear hb2 hc hf c0 c1 c2 c3 hB1
   go_wp2_with fail
   refine (HX1.o _ hB2).mono ?_
   rintro e w3 ⟨rfl,hb3⟩
   have hB3:=hB2.trans (hb3.mono hB2.size)
   clear hb3 d1 d3
   go_wp2_with fail
   go_ret2
   exact ⟨by rw [HFIN.o];simp,hB3⟩
 ·have hne:(r != 0)=true:=by simpa using hr0
  go_wp2_with fail
  go_ret2
  exact ⟨by simp [hr0],hB1⟩
theorem OT (args:Array Value) (w:World):(callFunc 105 args).run Tryz.prog w=.ok (.enter 105 args) w:=by simp [go_sem]
theorem La (bl bm n k b1 o1 c1 b2 o2 c2:Nat) (x y:Bool) (W:World) (hk:k < n) (hn:n<=6) (h1:W.cell? ⟨bl,0,none⟩=some (O (some ⟨b1,o1,none⟩) n c1)) (h2:W.cell? ⟨bm,0,none⟩=some (O (some ⟨b2,o2,none⟩) n c2))
  (q1:W.cell? ⟨b1,o1+k,none⟩=some (zg x)) (q2:W.cell? ⟨b2,o2+k,none⟩=some (zg y)) :
  Calls Tryz.prog 105 #[U zd k,zj (some ⟨bl,0,none⟩),zj (some ⟨bm,0,none⟩)] W fun e w'=>e=zk (zg (x && y))/\Ov W w':=by
 cases x
 all_goals
  go_enter Tryz.func105,Tryz.ntmps105
  go_wp2_with fail
  go_ret
  exact ⟨by simp,Below.refl _ W⟩
theorem OS (args:Array Value) (w:World):(callFunc 106 args).run Tryz.prog w=.ok (.enter 106 args) w:=by simp [go_sem]
theorem K9 (bl bm n k b1 o1 c1 b2 o2 c2:Nat) (x y:Bool) (W:World) (hk:k < n) (hn:n<=6) (h1:W.cell? ⟨bl,1,none⟩=some (O (some ⟨b1,o1,none⟩) n c1)) (h2:W.cell? ⟨bm,1,none⟩=some (O (some ⟨b2,o2,none⟩) n c2))
  (q1:W.cell? ⟨b1,o1+k,none⟩=some (zg x)) (q2:W.cell? ⟨b2,o2+k,none⟩=some (zg y)) :
  Calls Tryz.prog 106 #[U zd k,zj (some ⟨bl,0,none⟩),zj (some ⟨bm,0,none⟩)] W fun e w'=>e=zk (zg (x || y))/\Ov W w':=by
 cases x
 all_goals
  go_enter Tryz.func106,Tryz.ntmps106
  go_wp2_with fail
  go_ret
  exact ⟨by simp,Below.refl _ W⟩
theorem OQ (args:Array Value) (w:World):(callFunc 107 args).run Tryz.prog w=.ok (.enter 107 args) w:=by simp [go_sem]
theorem KH (bl bm n k b1 o1 c1 b2 o2 c2:Nat) (x y:Bool) (W:World) (hk:k < n) (hn:n<=6) (h1:W.cell? ⟨bl,0,none⟩=some (O (some ⟨b1,o1,none⟩) n c1)) (h2:W.cell? ⟨bm,0,none⟩=some (O (some ⟨b2,o2,none⟩) n c2))
  (q1:W.cell? ⟨b1,o1+k,none⟩=some (zg x)) (q2:W.cell? ⟨b2,o2+k,none⟩=some (zg y)) :
  Calls Tryz.prog 107 #[U zd k,zj (some ⟨bl,0,none⟩),zj (some ⟨bm,0,none⟩)] W fun e w'=>e=zk (zg (x || y))/\Ov W w':=by
 cases x
 all_goals
  go_enter Tryz.func107,Tryz.ntmps107
  go_wp2_with fail
  go_ret
  exact ⟨by simp,Below.refl _ W⟩
theorem OP (args:Array Value) (w:World):(callFunc 108 args).run Tryz.prog w=.ok (.enter 108 args) w:=by simp [go_sem]
theorem KD (bl bm n k b1 o1 c1 b2 o2 c2:Nat) (x y:Bool) (W:World) (hk:k < n) (hn:n<=6) (h1:W.cell? ⟨bl,1,none⟩=some (O (some ⟨b1,o1,none⟩) n c1)) (h2:W.cell? ⟨bm,1,none⟩=some (O (some ⟨b2,o2,none⟩) n c2))
  (q1:W.cell? ⟨b1,o1+k,none⟩=some (zg x)) (q2:W.cell? ⟨b2,o2+k,none⟩=some (zg y)) :
  Calls Tryz.prog 108 #[U zd k,zj (some ⟨bl,0,none⟩),zj (some ⟨bm,0,none⟩)] W fun e w'=>e=zk (zg (x && y))/\Ov W w':=by
 cases x
 all_goals
  go_enter Tryz.func108,Tryz.ntmps108
  go_wp2_with fail
  go_ret
  exact ⟨by simp,Below.refl _ W⟩
attribute [local go_sem ↓] Go.wp_at_zero Go.wp_at_succ
theorem J2 {B:Nat} {wB W W':World} {b o0 o1:Nat} {v0 v1:Value} (h:W.cell? ⟨b,o0,none⟩=some v0/\W.cell? ⟨b,o1,none⟩=some v1/\Below B wB W) (hb:Ov W W') (hB:B<=wB.heap.size):W'.cell? ⟨b,o0,none⟩=some v0/\W'.cell? ⟨b,o1,none⟩=some v1/\Below B wB W':=by
 obtain ⟨h0,h1,h2⟩:=h
 obtain ⟨hc,hf⟩:=Al hb
 exact ⟨by rw [hc _ _ (bL h0)];exact h0,by rw [hc _ _ (bL h1)];exact h1,h2.trans (hb.mono (Nat.le_trans hB h2.size))⟩
theorem MK {B:Nat} {wB W:World} {b o0 o1:Nat} {v0 v1:Value} (h:W.cell? ⟨b,o0,none⟩=some v0/\W.cell? ⟨b,o1,none⟩=some v1/\Below B wB W) (hb:b < B) {p:Addr} (hp:B<=p.block) (u:Value):(W.setCell p u).cell? ⟨b,o0,none⟩=some v0/\(W.setCell p u).cell? ⟨b,o1,none⟩=some v1/\Below B wB (W.setCell p u):=by
 obtain ⟨h0,h1,h2⟩:=h
 have hne:∀ o,(W.setCell p u).cell? ⟨b,o,none⟩=W.cell? ⟨b,o,none⟩:=fun o=>World.cell?_setCell_other _ _ _ _ (by rintro rfl;simp at hp;omega)
 exact ⟨by rw [hne];exact h0,by rw [hne];exact h1,h2.setCell hp u⟩
theorem Ew {w wa wp wq:World} {g1 g2 n q:Nat} {f1 f2:Nat->Bool} (hw:w.heap.size<=wa.heap.size) (hq:q < wa.heap.size)
  (h1:wp.ownsRow wa.heap.size 4 1 (O (some ⟨g1,0,none⟩) n n) n (A1 (BR f1 n))) (hl1:g1 < wp.heap.size) (hz:wa.heap.size<=wp.heap.size)
  (h2:wq.ownsRow wp.heap.size 4 1 (O (some ⟨g2,0,none⟩) n n) n (A1 (BR f2 n))) (hb:Ov wp wq) (hg2:wp.heap.size<=g2) (u0 u1:Value) :
  Be w ((wq.setCell ⟨q,0,none⟩ u0).setCell ⟨q,1,none⟩ u1) (zh #[O (some ⟨g1,0,none⟩) n n,O (some ⟨g2,0,none⟩) n n]) ⟨BR f1 n,BR f2 n⟩:=by
 refine ⟨_,_,rfl,?_,?_,Or.inr ?_⟩
 ·rw [A5]
  exact GD (Bm (Bm (C2 h1 hb) (by simpa using hq) _) (by simpa using hq) _) hw
 ·rw [A5]
  exact GD (Bm (Bm h2 (by simp;omega) _) (by simp;omega) _) (Nat.le_trans hw hz)
 ·simp [Value.ownBlock]
  omega
theorem Ez (w W:World):Be w W (zh #[O none 0 0,O none 0 0]) AE:=
 ⟨_,_,rfl,World.ownsRow_nil _ _ _ _,World.ownsRow_nil _ _ _ _,Or.inl rfl⟩
theorem Ix (w:World) (n:Nat) (h1:1<=n) (hn:n<=6) (x y z u v:Value) (l k) (hl:AQ w (zh #[x,y]) l) (hk:AQ w (zh #[z,u]) k) (hln:l.len n) (hkn:k.len n) (W:World) (hB:Ov w W) (hz:w.heap.size+3<=W.heap.size)
  (c0:W.cell? ⟨w.heap.size+1,0,none⟩=some x) (c1:W.cell? ⟨w.heap.size+1,1,none⟩=some y) (c2:W.cell? ⟨w.heap.size+1+1,0,none⟩=some z) (c3:W.cell? ⟨w.heap.size+1+1,1,none⟩=some u) :
  (Calls Tryz.prog 70 #[zh #[U zd n,v],.func (.func 105) #[] #[zj (some ⟨w.heap.size+1,0,none⟩),zj (some ⟨w.heap.size+1+1,0,none⟩)]] W fun e w'=>∃ g,e=zk (O (some ⟨g,0,none⟩) n n)/\W.heap.size<=g/\g < w'.heap.size/\w'.ownsRow W.heap.size 4 1 (O (some ⟨g,0,none⟩) n n) n (A1 (BR (Dk l.r k.r) n))/\Ov W w') /\
  (Calls Tryz.prog 70 #[zh #[U zd n,v],.func (.func 106) #[] #[zj (some ⟨w.heap.size+1,0,none⟩),zj (some ⟨w.heap.size+1+1,0,none⟩)]] W fun e w'=>∃ g,e=zk (O (some ⟨g,0,none⟩) n n)/\W.heap.size<=g/\g < w'.heap.size/\w'.ownsRow W.heap.size 4 1 (O (some ⟨g,0,none⟩) n n) n (A1 (BR (EH l.w k.w) n))/\Ov W w'):=by
 obtain ⟨x',y',e,hr1,hw1⟩:=hl
 obtain ⟨rfl,rfl⟩:x=x'/\y=y':=by simpa using e
 obtain ⟨z',u',e',hr2,hw2⟩:=hk
 obtain ⟨rfl,rfl⟩:z=z'/\u=u':=by simpa using e'
 obtain ⟨b1,o1,k1,rfl,q1⟩:=BI (Ar hr1 hB) hln.1 h1
 obtain ⟨b2,o2,k2,rfl,q2⟩:=BI (Ar hr2 hB) hkn.1 h1
 obtain ⟨b3,o3,k3,rfl,q3⟩:=BI (Ar hw1 hB) hln.2 h1
 obtain ⟨b4,o4,k4,rfl,q4⟩:=BI (Ar hw2 hB) hkn.2 h1
 have up:∀ (W':World),Ov W W'->∀ b o v,W.cell? ⟨b,o,none⟩=some v->W'.cell? ⟨b,o,none⟩=some v:=fun W' hb b o v h=>by rw [(Al hb).1 _ _ (bL h)];exact h
 refine ⟨CY 105 _ _ (Dk l.r k.r) n h1 hn v W (Aa fun i hi W' hb=>?_) OT,CY 106 _ _ (EH l.w k.w) n h1 hn v W (Aa fun i hi W' hb=>?_) OS⟩
 ·exact La _ _ n i b1 o1 k1 b2 o2 k2 _ _ W' hi hn (up W' hb _ _ _ c0) (up W' hb _ _ _ c2) (up W' hb _ _ _ (q1 i hi)) (up W' hb _ _ _ (q2 i hi))
 ·exact K9 _ _ n i b3 o3 k3 b4 o4 k4 _ _ W' hi hn (up W' hb _ _ _ c1) (up W' hb _ _ _ c3) (up W' hb _ _ _ (q3 i hi)) (up W' hb _ _ _ (q4 i hi))
theorem Mf:MD:=by
 intro m v gs vl vk l k w hv hl hk
 have HL:=Aa hl
 have HK:=Aa hk
 have HV:=Aa hv
 obtain ⟨a1,k1,a2,k2,rfl⟩:=Cf hl
 obtain ⟨a3,k3,a4,k4,rfl⟩:=Cf hk
 obtain ⟨va,vn,vc,rfl⟩:=Ci hv
 have hb3:Ov w (((((w.alloc (ze #[U zd m,O va vn vc] 24)).alloc (ze #[O a1 l.r.length k1,O a2 l.w.length k2] 50)).alloc (ze #[O a3 k.r.length k3,O a4 k.w.length k4] 50)).alloc (ze #[O none 0 0,O none 0 0] 50)).alloc (ze #[O a1 l.r.length k1,O a2 l.w.length k2,O a3 k.r.length k3,O a4 k.w.length k4] 50)):=((((bA w _).alloc (by simp) _).alloc (by simp;omega) _).alloc (by simp;omega) _).alloc (by simp;omega) _
 have hcall:=JM w m gs (O va vn vc) _ _ _ _ l k HV.o HL.o HK.o _ (w.heap.size+1+1+1+1) hb3 (by simp [go_sem]) (by simp [go_sem]) (by simp [go_sem]) (by simp [go_sem])
 have hok:=fun h=>Hg (m:=m) (gs:=gs) (l:=l) (k:=k) h
 obtain ⟨r,hr⟩:=nm (Dp m gs l k)
 rw [<-hr] at hcall hok ⊢
 have HC:=Aa hcall
 have HOK:=Aa hok
 clear hl hk hv hcall hok hr
 go_enter Tryz.func46,Tryz.ntmps46
 go_wp2_with fail
 refine (HC.o).mono ?_
 rintro e w1 ⟨rfl,hb1⟩
 have hB1:=hb3.trans (hb1.mono (by simp <;> omega))
 have hz1:=hb1.size
 simp at hz1
 obtain ⟨hc,hf⟩:=Al hb1
 have a0:w1.cell? ⟨w.heap.size,0,none⟩=some (U zd m):=by rw [hc _ _ (by simp <;> omega)];simp [go_sem]
 have a1':w1.cell? ⟨w.heap.size,1,none⟩=some (O va vn vc):=by rw [hc _ _ (by simp <;> omega)];simp [go_sem]
 have c0:w1.cell? ⟨w.heap.size+1,0,none⟩=some (O a1 l.r.length k1):=by rw [hc _ _ (by simp <;> omega)];simp [go_sem]
 have c1:w1.cell? ⟨w.heap.size+1,1,none⟩=some (O a2 l.w.length k2):=by rw [hc _ _ (by simp <;> omega)];simp [go_sem]
 have c2:w1.cell? ⟨w.heap.size+1+1,0,none⟩=some (O a3 k.r.length k3):=by rw [hc _ _ (by simp <;> omega)];simp [go_sem]
 have c3:w1.cell? ⟨w.heap.size+1+1,1,none⟩=some (O a4 k.w.length k4):=by rw [hc _ _ (by simp <;> omega)];simp [go_sem]
 have e0:w1.cell? ⟨w.heap.size+1+1+1,0,none⟩=some (O none 0 0):=by rw [hc _ _ (by simp <;> omega)];simp [go_sem]
 have e1:w1.cell? ⟨w.heap.size+1+1+1,1,none⟩=some (O none 0 0):=by rw [hc _ _ (by simp <;> omega)];simp [go_sem]
 have f0:w1.frozen? ⟨w.heap.size+1+1+1,0,none⟩=false:=by rw [hf _ _ (by simp <;> omega)];simp [go_sem]
 have f1:w1.frozen? ⟨w.heap.size+1+1+1,1,none⟩=false:=by rw [hf _ _ (by simp <;> omega)];simp [go_sem]
 clear hc hf hb1 hb3 HC
 by_cases hr0:r=0
 ·subst hr0
  obtain ⟨n,hm,h1,h6,hln,hkn,hch⟩:=HOK.o (by first | rfl | trivial)
  subst hm
  have KT:=Aa fun (W:World) (hB:Below (w.heap.size+1+1+1) w1 W)=>Ix w n h1 h6 _ _ _ _ (O va vn vc) l k HL.o HK.o hln hkn W (hB1.trans (hB.mono (by omega))) (Nat.le_trans (by omega) hB.size) (by rw [hB.cell (p:=⟨w.heap.size+1,0,none⟩) (by simp <;> omega)];exact c0) (by rw [hB.cell (p:=⟨w.heap.size+1,1,none⟩) (by simp <;> omega)];exact c1) (by rw [hB.cell (p:=⟨w.heap.size+1+1,0,none⟩) (by simp <;> omega)];exact c2) (by rw [hB.cell (p:=⟨w.heap.size+1+1,1,none⟩) (by simp <;> omega)];exact c3)
  have E0:=Aa e0
  have E1:=Aa e1
  have F0:=Aa f0
  have F1:=Aa f1
  clear c0 c1 c2 c3 e0 e1 f0 f1 hln hkn hch HOK HL HK HV
  have hz3:w.heap.size+1+1+1<=w1.heap.size:=by omega
  have hz4:w.heap.size+1+1+1 < w1.heap.size:=by omega
  have hltN:w.heap.size < w.heap.size+1+1+1:=by omega
  have HZ4:=Aa hz4
  have HLN:=Aa hltN
  have HZ3:=Aa hz3
  clear hz3 hz4 hltN
  go_wp2_with fail
  first | go_region_held3 (fun W=>W.cell? ⟨w.heap.size,0,none⟩=some (U zd n)/\W.cell? ⟨w.heap.size,1,none⟩=some (O va vn vc)/\Below (w.heap.size+1+1+1) w1 W) (first | assumption | exact ⟨a0,a1',below_drewN (Below.refl _ _) 1⟩ | exact J2 (by assumption) hbq HZ3.o | exact J2 (by assumption) hbp HZ3.o | exact MK (MK (by assumption) HLN.o (Nat.le_refl _) _) HLN.o (Nat.le_refl _) _ | fail) (first | (go_at_call 70;have hsec:=ep0;refine (KT.o _ (by assumption:_/\_/\_).2.2).2.mono ?_;rintro e wq ⟨g2,rfl,hg2,hg2',ho2,hbq⟩;have eq0:wq.cell? ⟨w.heap.size+1+1+1,0,none⟩=some (O none 0 0):=(by rw [(Al hbq).1 _ _ (bL ep0)];exact ep0);have eq1:wq.cell? ⟨w.heap.size+1+1+1,1,none⟩=some (O none 0 0):=(by rw [(Al hbq).1 _ _ (bL ep0)];exact ep1);have fq0:wq.frozen? ⟨w.heap.size+1+1+1,0,none⟩=false:=(by rw [(Al hbq).2 _ _ (bL ep0)];exact fp0);have fq1:wq.frozen? ⟨w.heap.size+1+1+1,1,none⟩=false:=(by rw [(Al hbq).2 _ _ (bL ep0)];exact fp1)) | (go_at_call 70;refine (KT.o _ (by assumption:_/\_/\_).2.2).1.mono ?_;rintro e wp ⟨g1,rfl,hg1,hg1',ho1,hbp⟩;have ep0:wp.cell? ⟨w.heap.size+1+1+1,0,none⟩=some (O none 0 0):=(by rw [(Al hbp).1 _ _ HZ4.o];exact E0.o);have ep1:wp.cell? ⟨w.heap.size+1+1+1,1,none⟩=some (O none 0 0):=(by rw [(Al hbp).1 _ _ HZ4.o];exact E1.o);have fp0:wp.frozen? ⟨w.heap.size+1+1+1,0,none⟩=false:=(by rw [(Al hbp).2 _ _ HZ4.o];exact F0.o);have fp1:wp.frozen? ⟨w.heap.size+1+1+1,1,none⟩=false:=(by rw [(Al hbp).2 _ _ HZ4.o];exact F1.o))) | fail
  all_goals go_wp2_with fail
  all_goals
   refine bodyPost_ret (v:=zm #[zh #[O (some ⟨g1,0,none⟩) n n,O (some ⟨g2,0,none⟩) n n],U zd 0]) (by simp [results,Tryz.results46,go_sem,eq0,eq1]) rfl ⟨_,rfl,Ew (w:=w) (wa:=w1.drew) (q:=w.heap.size+1+1+1) (f1:=Dk l.r k.r) (f2:=EH l.w k.w) hB1.size HZ4.o ho1 hg1' hbp.size ho2 hbq hg2 _ _,?_⟩
   have hd1:Ov w w1.drew:=below_drewN hB1 1
   have hd2:=hd1.trans (hbp.mono hd1.size)
   have hd3:=hd2.trans (hbq.mono hd2.size)
   exact (hd3.setCell (by simp;omega) _).setCell (by simp;omega) _
 ·have hne:(r != 0)=true:=by simpa using hr0
  go_wp2_with fail
  refine bodyPost_ret (v:=zm #[zh #[O none 0 0,O none 0 0],U zd r]) (by simp [results,Tryz.results46,go_sem,e0,e1]) rfl ⟨_,rfl,Ez _ _,(hB1.setCell (by simp;omega) _).setCell (by simp;omega) _⟩
theorem Ip (w:World) (n:Nat) (h1:1<=n) (hn:n<=6) (x y z u v:Value) (l k) (hl:AQ w (zh #[x,y]) l) (hk:AQ w (zh #[z,u]) k) (hln:l.len n) (hkn:k.len n) (W:World) (hB:Ov w W) (hz:w.heap.size+3<=W.heap.size)
  (c0:W.cell? ⟨w.heap.size+1,0,none⟩=some x) (c1:W.cell? ⟨w.heap.size+1,1,none⟩=some y) (c2:W.cell? ⟨w.heap.size+1+1,0,none⟩=some z) (c3:W.cell? ⟨w.heap.size+1+1,1,none⟩=some u) :
  (Calls Tryz.prog 70 #[zh #[U zd n,v],.func (.func 107) #[] #[zj (some ⟨w.heap.size+1,0,none⟩),zj (some ⟨w.heap.size+1+1,0,none⟩)]] W fun e w'=>∃ g,e=zk (O (some ⟨g,0,none⟩) n n)/\W.heap.size<=g/\g < w'.heap.size/\w'.ownsRow W.heap.size 4 1 (O (some ⟨g,0,none⟩) n n) n (A1 (BR (EH l.r k.r) n))/\Ov W w') /\
  (Calls Tryz.prog 70 #[zh #[U zd n,v],.func (.func 108) #[] #[zj (some ⟨w.heap.size+1,0,none⟩),zj (some ⟨w.heap.size+1+1,0,none⟩)]] W fun e w'=>∃ g,e=zk (O (some ⟨g,0,none⟩) n n)/\W.heap.size<=g/\g < w'.heap.size/\w'.ownsRow W.heap.size 4 1 (O (some ⟨g,0,none⟩) n n) n (A1 (BR (Dk l.w k.w) n))/\Ov W w'):=by
 obtain ⟨x',y',e,hr1,hw1⟩:=hl
 obtain ⟨rfl,rfl⟩:x=x'/\y=y':=by simpa using e
 obtain ⟨z',u',e',hr2,hw2⟩:=hk
 obtain ⟨rfl,rfl⟩:z=z'/\u=u':=by simpa using e'
 obtain ⟨b1,o1,k1,rfl,q1⟩:=BI (Ar hr1 hB) hln.1 h1
 obtain ⟨b2,o2,k2,rfl,q2⟩:=BI (Ar hr2 hB) hkn.1 h1
 obtain ⟨b3,o3,k3,rfl,q3⟩:=BI (Ar hw1 hB) hln.2 h1
 obtain ⟨b4,o4,k4,rfl,q4⟩:=BI (Ar hw2 hB) hkn.2 h1
 have up:∀ (W':World),Ov W W'->∀ b o v,W.cell? ⟨b,o,none⟩=some v->W'.cell? ⟨b,o,none⟩=some v:=fun W' hb b o v h=>by rw [(Al hb).1 _ _ (bL h)];exact h
 refine ⟨CY 107 _ _ (EH l.r k.r) n h1 hn v W (Aa fun i hi W' hb=>?_) OQ,CY 108 _ _ (Dk l.w k.w) n h1 hn v W (Aa fun i hi W' hb=>?_) OP⟩
 ·exact KH _ _ n i b1 o1 k1 b2 o2 k2 _ _ W' hi hn (up W' hb _ _ _ c0) (up W' hb _ _ _ c2) (up W' hb _ _ _ (q1 i hi)) (up W' hb _ _ _ (q2 i hi))
 ·exact KD _ _ n i b3 o3 k3 b4 o4 k4 _ _ W' hi hn (up W' hb _ _ _ c1) (up W' hb _ _ _ c3) (up W' hb _ _ _ (q3 i hi)) (up W' hb _ _ _ (q4 i hi))
theorem OA:MC:=by
 intro m v gs vl vk l k w hv hl hk
 have HL:=Aa hl
 have HK:=Aa hk
 have HV:=Aa hv
 obtain ⟨a1,k1,a2,k2,rfl⟩:=Cf hl
 obtain ⟨a3,k3,a4,k4,rfl⟩:=Cf hk
 obtain ⟨va,vn,vc,rfl⟩:=Ci hv
 have hb3:Ov w (((((w.alloc (ze #[U zd m,O va vn vc] 24)).alloc (ze #[O a1 l.r.length k1,O a2 l.w.length k2] 50)).alloc (ze #[O a3 k.r.length k3,O a4 k.w.length k4] 50)).alloc (ze #[O none 0 0,O none 0 0] 50)).alloc (ze #[O a1 l.r.length k1,O a2 l.w.length k2,O a3 k.r.length k3,O a4 k.w.length k4] 50)):=((((bA w _).alloc (by simp) _).alloc (by simp;omega) _).alloc (by simp;omega) _).alloc (by simp;omega) _
 have hcall:=JM w m gs (O va vn vc) _ _ _ _ l k HV.o HL.o HK.o _ (w.heap.size+1+1+1+1) hb3 (by simp [go_sem]) (by simp [go_sem]) (by simp [go_sem]) (by simp [go_sem])
 have hok:=fun h=>Hg (m:=m) (gs:=gs) (l:=l) (k:=k) h
 obtain ⟨r,hr⟩:=nm (Dp m gs l k)
 rw [<-hr] at hcall hok ⊢
 have HC:=Aa hcall
 have HOK:=Aa hok
 clear hl hk hv hcall hok hr
 go_enter Tryz.func47,Tryz.ntmps47
 go_wp2_with fail
 refine (HC.o).mono ?_
 rintro e w1 ⟨rfl,hb1⟩
 have hB1:=hb3.trans (hb1.mono (by simp <;> omega))
 have hz1:=hb1.size
 simp at hz1
 obtain ⟨hc,hf⟩:=Al hb1
 have a0:w1.cell? ⟨w.heap.size,0,none⟩=some (U zd m):=by rw [hc _ _ (by simp <;> omega)];simp [go_sem]
 have a1':w1.cell? ⟨w.heap.size,1,none⟩=some (O va vn vc):=by rw [hc _ _ (by simp <;> omega)];simp [go_sem]
 have c0:w1.cell? ⟨w.heap.size+1,0,none⟩=some (O a1 l.r.length k1):=by rw [hc _ _ (by simp <;> omega)];simp [go_sem]
 have c1:w1.cell? ⟨w.heap.size+1,1,none⟩=some (O a2 l.w.length k2):=by rw [hc _ _ (by simp <;> omega)];simp [go_sem]
 have c2:w1.cell? ⟨w.heap.size+1+1,0,none⟩=some (O a3 k.r.length k3):=by rw [hc _ _ (by simp <;> omega)];simp [go_sem]
 have c3:w1.cell? ⟨w.heap.size+1+1,1,none⟩=some (O a4 k.w.length k4):=by rw [hc _ _ (by simp <;> omega)];simp [go_sem]
 have e0:w1.cell? ⟨w.heap.size+1+1+1,0,none⟩=some (O none 0 0):=by rw [hc _ _ (by simp <;> omega)];simp [go_sem]
 have e1:w1.cell? ⟨w.heap.size+1+1+1,1,none⟩=some (O none 0 0):=by rw [hc _ _ (by simp <;> omega)];simp [go_sem]
 have f0:w1.frozen? ⟨w.heap.size+1+1+1,0,none⟩=false:=by rw [hf _ _ (by simp <;> omega)];simp [go_sem]
 have f1:w1.frozen? ⟨w.heap.size+1+1+1,1,none⟩=false:=by rw [hf _ _ (by simp <;> omega)];simp [go_sem]
 clear hc hf hb1 hb3 HC
 by_cases hr0:r=0
 ·subst hr0
  obtain ⟨n,hm,h1,h6,hln,hkn,hch⟩:=HOK.o (by first | rfl | trivial)
  subst hm
  have KT:=Aa fun (W:World) (hB:Below (w.heap.size+1+1+1) w1 W)=>Ip w n h1 h6 _ _ _ _ (O va vn vc) l k HL.o HK.o hln hkn W (hB1.trans (hB.mono (by omega))) (Nat.le_trans (by omega) hB.size) (by rw [hB.cell (p:=⟨w.heap.size+1,0,none⟩) (by simp <;> omega)];exact c0) (by rw [hB.cell (p:=⟨w.heap.size+1,1,none⟩) (by simp <;> omega)];exact c1) (by rw [hB.cell (p:=⟨w.heap.size+1+1,0,none⟩) (by simp <;> omega)];exact c2) (by rw [hB.cell (p:=⟨w.heap.size+1+1,1,none⟩) (by simp <;> omega)];exact c3)
  have E0:=Aa e0
  have E1:=Aa e1
  have F0:=Aa f0
  have F1:=Aa f1
  clear c0 c1 c2 c3 e0 e1 f0 f1 hln hkn hch HOK HL HK HV
  have hz3:w.heap.size+1+1+1<=w1.heap.size:=by omega
  have hz4:w.heap.size+1+1+1 < w1.heap.size:=by omega
  have hltN:w.heap.size < w.heap.size+1+1+1:=by omega
  have HZ4:=Aa hz4
  have HLN:=Aa hltN
  have HZ3:=Aa hz3
  clear hz3 hz4 hltN
  go_wp2_with fail
  first | go_region_held3 (fun W=>W.cell? ⟨w.heap.size,0,none⟩=some (U zd n)/\W.cell? ⟨w.heap.size,1,none⟩=some (O va vn vc)/\Below (w.heap.size+1+1+1) w1 W) (first | assumption | exact ⟨a0,a1',below_drewN (Below.refl _ _) 1⟩ | exact J2 (by assumption) hbq HZ3.o | exact J2 (by assumption) hbp HZ3.o | exact MK (MK (by assumption) HLN.o (Nat.le_refl _) _) HLN.o (Nat.le_refl _) _ | fail) (first | (go_at_call 70;have hsec:=ep0;refine (KT.o _ (by assumption:_/\_/\_).2.2).2.mono ?_;rintro e wq ⟨g2,rfl,hg2,hg2',ho2,hbq⟩;have eq0:wq.cell? ⟨w.heap.size+1+1+1,0,none⟩=some (O none 0 0):=(by rw [(Al hbq).1 _ _ (bL ep0)];exact ep0);have eq1:wq.cell? ⟨w.heap.size+1+1+1,1,none⟩=some (O none 0 0):=(by rw [(Al hbq).1 _ _ (bL ep0)];exact ep1);have fq0:wq.frozen? ⟨w.heap.size+1+1+1,0,none⟩=false:=(by rw [(Al hbq).2 _ _ (bL ep0)];exact fp0);have fq1:wq.frozen? ⟨w.heap.size+1+1+1,1,none⟩=false:=(by rw [(Al hbq).2 _ _ (bL ep0)];exact fp1)) | (go_at_call 70;refine (KT.o _ (by assumption:_/\_/\_).2.2).1.mono ?_;rintro e wp ⟨g1,rfl,hg1,hg1',ho1,hbp⟩;have ep0:wp.cell? ⟨w.heap.size+1+1+1,0,none⟩=some (O none 0 0):=(by rw [(Al hbp).1 _ _ HZ4.o];exact E0.o);have ep1:wp.cell? ⟨w.heap.size+1+1+1,1,none⟩=some (O none 0 0):=(by rw [(Al hbp).1 _ _ HZ4.o];exact E1.o);have fp0:wp.frozen? ⟨w.heap.size+1+1+1,0,none⟩=false:=(by rw [(Al hbp).2 _ _ HZ4.o];exact F0.o);have fp1:wp.frozen? ⟨w.heap.size+1+1+1,1,none⟩=false:=(by rw [(Al hbp).2 _ _ HZ4.o];exact F1.o))) | fail
  all_goals go_wp2_with fail
  all_goals
   refine bodyPost_ret (v:=zm #[zh #[O (some ⟨g1,0,none⟩) n n,O (some ⟨g2,0,none⟩) n n],U zd 0]) (by simp [results,Tryz.results47,go_sem,eq0,eq1]) rfl ⟨_,rfl,Ew (w:=w) (wa:=w1.drew) (q:=w.heap.size+1+1+1) (f1:=EH l.r k.r) (f2:=Dk l.w k.w) hB1.size HZ4.o ho1 hg1' hbp.size ho2 hbq hg2 _ _,?_⟩
   have hd1:Ov w w1.drew:=below_drewN hB1 1
   have hd2:=hd1.trans (hbp.mono hd1.size)
   have hd3:=hd2.trans (hbq.mono hd2.size)
   exact (hd3.setCell (by simp;omega) _).setCell (by simp;omega) _
 ·have hne:(r != 0)=true:=by simpa using hr0
  go_wp2_with fail
  refine bodyPost_ret (v:=zm #[zh #[O none 0 0,O none 0 0],U zd r]) (by simp [results,Tryz.results47,go_sem,e0,e1]) rfl ⟨_,rfl,Ez _ _,(hB1.setCell (by simp;omega) _).setCell (by simp;omega) _⟩
attribute [local go_sem ↓] Go.wp_at_zero Go.wp_at_succ
theorem Iq (gn:List (Nat × Nat)) (n who:Nat) (ps:List Pol):ps.all (G8 (acts gn n who))=E7 gn n who ps:=rfl
theorem NK {wB W W':World} {b0 o0 b1 o1 b2 o2:Nat} {v0 v1 v2:Value} (h:W.cell? ⟨b0,o0,none⟩=some v0/\W.cell? ⟨b1,o1,none⟩=some v1/\W.cell? ⟨b2,o2,none⟩=some v2/\Ov wB W) (hb:Ov W W'):W'.cell? ⟨b0,o0,none⟩=some v0/\W'.cell? ⟨b1,o1,none⟩=some v1/\W'.cell? ⟨b2,o2,none⟩=some v2/\Ov wB W':=OE h hb
theorem OU (args:Array Value) (w:World):(callFunc 71 args).run Tryz.prog w=.ok (.enter 71 args) w:=by simp [go_sem]
theorem Jf (ab lb ob n who:Nat) (hn:n<=6) (hw:who < n) (gn:List (Nat × Nat)) (pv:Value) (ps:List Pol) (w:World) (h0:w.cell? ⟨ab,0,none⟩=some (O (some ⟨ob,0,none⟩) n n)) (h1:w.cell? ⟨lb,0,none⟩=some pv) (hr:CL w ob n gn n) (hp:AC w pv ps) (hps:ps.length<=4/\∀ p∈ps,EG n p) :
  Calls Tryz.prog 71 #[U zd who,zj (some ⟨ab,0,none⟩),zj (some ⟨lb,0,none⟩)] w fun e w'=>e=zk (zg (E7 gn n who ps))/\Ov w w':=by
 obtain ⟨kb,hne,hc,hk⟩:=hr who hw
 have hrow:Ae w kb n (acts gn n who):=⟨BO _ _ _,fun i hi=>(hk i hi).1⟩
 have hM:=fun (W:World) (hB:Ov w W)=>EJ kb n (acts gn n who) pv ps W hn (Er hrow hB) (Ai hp hB) hps
 simp only [Iq] at hM
 obtain ⟨pa,pn,pc,rfl⟩:=AO hp
 obtain ⟨r,hr⟩:=nm (E7 gn n who ps)
 rw [<-hr] at hM ⊢
 have KM:=Aa hM
 have i0:(0:Int)<=(who:Int):=by omega
 have i1:(who:Int) < (n:Int):=by omega
 clear hM hr hp hrow hk hne
 go_enter Tryz.func71,Tryz.ntmps71
 go_wp2_with fail
 first | go_region_held3 (fun W=>W.cell? ⟨ab,0,none⟩=some (O (some ⟨ob,0,none⟩) n n)/\W.cell? ⟨ob,who,none⟩=some (O (some ⟨kb,0,none⟩) n n)/\W.cell? ⟨lb,0,none⟩=some (O pa pn pc)/\Ov w W) (first | assumption | exact ⟨h0,hc,h1,below_drewN (Below.refl _ _) 1⟩ | exact NK (by assumption) hbp | fail) (first | (go_at_call 72;refine (KM.o _ (by assumption:_/\_/\_/\_).2.2.2).mono ?_;rintro e wp ⟨rfl,hbp⟩)) | fail
 all_goals obtain ⟨-,-,-,hB⟩:=(by assumption:wp.cell? _=_/\_/\_/\_)
 all_goals go_wp2_with fail
 all_goals go_ret
 all_goals exact ⟨rfl,hB⟩
theorem Mu (args:Array Value) (w:World):(callFunc 73 args).run Tryz.prog w=.ok (.enter 73 args) w:=by simp [go_sem]
theorem Je (ab lb ob n who:Nat) (hn:n<=6) (hw:who < n) (gn:List (Nat × Nat)) (pv:Value) (ps:List Pol) (w:World) (h0:w.cell? ⟨ab,0,none⟩=some (O (some ⟨ob,0,none⟩) n n)) (h1:w.cell? ⟨lb,1,none⟩=some pv) (hr:CL w ob n gn n) (hp:AC w pv ps) (hps:ps.length<=4/\∀ p∈ps,EG n p) :
  Calls Tryz.prog 73 #[U zd who,zj (some ⟨ab,0,none⟩),zj (some ⟨lb,0,none⟩)] w fun e w'=>e=zk (zg (E7 gn n who ps))/\Ov w w':=by
 obtain ⟨kb,hne,hc,hk⟩:=hr who hw
 have hrow:Ae w kb n (acts gn n who):=⟨BO _ _ _,fun i hi=>(hk i hi).1⟩
 have hM:=fun (W:World) (hB:Ov w W)=>EJ kb n (acts gn n who) pv ps W hn (Er hrow hB) (Ai hp hB) hps
 simp only [Iq] at hM
 obtain ⟨pa,pn,pc,rfl⟩:=AO hp
 obtain ⟨r,hr⟩:=nm (E7 gn n who ps)
 rw [<-hr] at hM ⊢
 have KM:=Aa hM
 have i0:(0:Int)<=(who:Int):=by omega
 have i1:(who:Int) < (n:Int):=by omega
 clear hM hr hp hrow hk hne
 go_enter Tryz.func73,Tryz.ntmps73
 go_wp2_with fail
 first | go_region_held3 (fun W=>W.cell? ⟨ab,0,none⟩=some (O (some ⟨ob,0,none⟩) n n)/\W.cell? ⟨ob,who,none⟩=some (O (some ⟨kb,0,none⟩) n n)/\W.cell? ⟨lb,1,none⟩=some (O pa pn pc)/\Ov w W) (first | assumption | exact ⟨h0,hc,h1,below_drewN (Below.refl _ _) 1⟩ | exact NK (by assumption) hbp | fail) (first | (go_at_call 72;refine (KM.o _ (by assumption:_/\_/\_/\_).2.2.2).mono ?_;rintro e wp ⟨rfl,hbp⟩)) | fail
 all_goals obtain ⟨-,-,-,hB⟩:=(by assumption:wp.cell? _=_/\_/\_/\_)
 all_goals go_wp2_with fail
 all_goals go_ret
 all_goals exact ⟨rfl,hB⟩
theorem He (n:Nat) (h1:1<=n) (hn:n<=6) (ab lb ob:Nat) (gn:List (Nat × Nat)) (v pr pw:Value) (bl:Lab) (w3:World) (h0:w3.cell? ⟨ab,0,none⟩=some (O (some ⟨ob,0,none⟩) n n)) (l0:w3.cell? ⟨lb,0,none⟩=some pr) (l1:w3.cell? ⟨lb,1,none⟩=some pw) (hr:CL w3 ob n gn n) (hp:AC w3 pr bl.r) (hq:AC w3 pw bl.w) (hin:Me n bl) (W:World) (hB:Ov w3 W) :
  (Calls Tryz.prog 70 #[zh #[U zd n,v],.func (.func 71) #[] #[zj (some ⟨ab,0,none⟩),zj (some ⟨lb,0,none⟩)]] W fun e w'=>∃ g,e=zk (O (some ⟨g,0,none⟩) n n)/\W.heap.size<=g/\g < w'.heap.size/\w'.ownsRow W.heap.size 4 1 (O (some ⟨g,0,none⟩) n n) n (A1 (BR (fun i=>E7 gn n i bl.r) n))/\Ov W w') /\
  (Calls Tryz.prog 70 #[zh #[U zd n,v],.func (.func 73) #[] #[zj (some ⟨ab,0,none⟩),zj (some ⟨lb,0,none⟩)]] W fun e w'=>∃ g,e=zk (O (some ⟨g,0,none⟩) n n)/\W.heap.size<=g/\g < w'.heap.size/\w'.ownsRow W.heap.size 4 1 (O (some ⟨g,0,none⟩) n n) n (A1 (BR (fun i=>E7 gn n i bl.w) n))/\Ov W w'):=by
 have up:∀ (W':World),Ov W W'->∀ b o v,w3.cell? ⟨b,o,none⟩=some v->W'.cell? ⟨b,o,none⟩=some v:=fun W' hb b o v h=>by rw [(Al hb).1 _ _ (Nat.lt_of_lt_of_le (bL h) hB.size),(Al hB).1 _ _ (bL h)];exact h
 refine ⟨CY 71 _ _ (fun i=>E7 gn n i bl.r) n h1 hn v W (Aa fun i hi W' hb=>?_) OU,CY 73 _ _ (fun i=>E7 gn n i bl.w) n h1 hn v W (Aa fun i hi W' hb=>?_) Mu⟩
 ·have hB':Ov w3 W':=hB.trans (hb.mono hB.size)
  exact Jf ab lb ob n i hn hi gn pr bl.r W' (up W' hb _ _ _ h0) (up W' hb _ _ _ l0) (Ed hr hB') (Ai hp hB') hin.1
 ·have hB':Ov w3 W':=hB.trans (hb.mono hB.size)
  exact Je ab lb ob n i hn hi gn pw bl.w W' (up W' hb _ _ _ h0) (up W' hb _ _ _ l1) (Ed hr hB') (Ai hq hB') hin.2
theorem Pb {wB W:World} {b o0 o1 q:Nat} {v0 v1 u:Value} (h:W.cell? ⟨b,o0,none⟩=some v0/\W.cell? ⟨b,o1,none⟩=some v1/\(W.cell? ⟨q,0,none⟩=some u->Ov wB W)) (hq:W.cell? ⟨q,0,none⟩=some u):Ov wB W:=h.2.2 hq
theorem NJ {wB W W':World} {b o0 o1 q:Nat} {v0 v1 u:Value} (h:W.cell? ⟨b,o0,none⟩=some v0/\W.cell? ⟨b,o1,none⟩=some v1/\(W.cell? ⟨q,0,none⟩=some u->Ov wB W)) (hq:W.cell? ⟨q,0,none⟩=some u) (hb:Ov W W'):W'.cell? ⟨b,o0,none⟩=some v0/\W'.cell? ⟨b,o1,none⟩=some v1/\(W'.cell? ⟨q,0,none⟩=some u->Ov wB W'):=by
 obtain ⟨h0,h1,h2⟩:=h
 have hB:=h2 hq
 obtain ⟨hc,hf⟩:=Al hb
 exact ⟨by rw [hc _ _ (bL h0)];exact h0,by rw [hc _ _ (bL h1)];exact h1,fun _=>hB.trans (hb.mono hB.size)⟩
theorem PP {wB W:World} {b o0 o1 q g n:Nat} {v0 v1 u y:Value} (h:W.cell? ⟨b,o0,none⟩=some v0/\W.cell? ⟨b,o1,none⟩=some v1/\(W.cell? ⟨q,0,none⟩=some (O none 0 0)->Ov wB W)) (hb:b≠q) (hq:W.cell? ⟨q,0,none⟩=some u) :
  ((W.setCell ⟨q,0,none⟩ (O (some ⟨g,0,none⟩) n n)).setCell ⟨q,1,none⟩ y).cell? ⟨b,o0,none⟩=some v0/\((W.setCell ⟨q,0,none⟩ (O (some ⟨g,0,none⟩) n n)).setCell ⟨q,1,none⟩ y).cell? ⟨b,o1,none⟩=some v1/\(((W.setCell ⟨q,0,none⟩ (O (some ⟨g,0,none⟩) n n)).setCell ⟨q,1,none⟩ y).cell? ⟨q,0,none⟩=some (O none 0 0)->Ov wB ((W.setCell ⟨q,0,none⟩ (O (some ⟨g,0,none⟩) n n)).setCell ⟨q,1,none⟩ y)):=by
 obtain ⟨h0,h1,h2⟩:=h
 have hne:∀ o,((W.setCell ⟨q,0,none⟩ (O (some ⟨g,0,none⟩) n n)).setCell ⟨q,1,none⟩ y).cell? ⟨b,o,none⟩=W.cell? ⟨b,o,none⟩:=fun o=>by
  rw [World.cell?_setCell_other _ _ _ _ (by intro e;injection e with e;exact hb e.symm),World.cell?_setCell_other _ _ _ _ (by intro e;injection e with e;exact hb e.symm)]
 refine ⟨by rw [hne];exact h0,by rw [hne];exact h1,fun e=>?_⟩
 rw [World.cell?_setCell_other _ _ _ _ (by simp),World.cell?_setCell_same _ _ _ hq] at e
 cases e
theorem J1 {m:Int} {gs:List (Int × Int)} {bl:Lab} (h:Bo m gs bl=0):∃ n:Nat,m=n/\1<=n/\n<=6/\(AD gs).map toI=gs/\(AD gs).length<=20/\(∀ g∈AD gs,g.1 < n/\g.2 < n)/\Me n bl/\AU m gs=0:=by
 unfold Bo at h
 split at h
 ·rename_i hc
  obtain ⟨n,hm,h1,h2,h3,h4,h5⟩:=D5 hc
  subst hm
  exact ⟨n,rfl,h1,h2,h3,h4,h5,GF h,hc⟩
 ·rename_i hc
  exact absurd h hc
theorem J0:Kc:=by
 intro m v gs pr pw bl w hv hp hq
 have HV:=Aa hv
 have HP:=Aa hp
 have HQ:=Aa hq
 obtain ⟨va,vn,vc,rfl⟩:=Ci hv
 obtain ⟨pa,pn,pc,rfl⟩:=AO hp
 obtain ⟨qa,qn,qc,rfl⟩:=AO hq
 have hb3:Ov w (((w.alloc (ze #[U zd m,O va vn vc] 24)).alloc (ze #[O pa pn pc,O qa qn qc] 39)).alloc (ze #[O none 0 0,O none 0 0] 50)):=((bA w _).alloc (by simp) _).alloc (by simp;omega) _
 have hcall:=Ht m (O va vn vc) gs (O pa pn pc) (O qa qn qc) bl _ (Af HV.o hb3) (Ai HP.o hb3) (Ai HQ.o hb3)
 have hok:=fun h=>J1 (m:=m) (gs:=gs) (bl:=bl) h
 obtain ⟨r,hr⟩:=nm (Bo m gs bl)
 rw [<-hr] at hcall hok ⊢
 have HC:=Aa hcall
 have HOK:=Aa hok
 clear hv hp hq hcall hok hr
 go_enter Tryz.func23,Tryz.ntmps23
 go_wp2_with fail
 refine (HC.o).mono ?_
 rintro e w1 ⟨rfl,hb1⟩
 have hB1:=hb3.trans (hb1.mono (by simp <;> omega))
 have hz1:=hb1.size
 simp at hz1
 obtain ⟨hc,hf⟩:=Al hb1
 have a0:w1.cell? ⟨w.heap.size,0,none⟩=some (U zd m):=by rw [hc _ _ (by simp <;> omega)];simp [go_sem]
 have a1:w1.cell? ⟨w.heap.size,1,none⟩=some (O va vn vc):=by rw [hc _ _ (by simp <;> omega)];simp [go_sem]
 have c0:w1.cell? ⟨w.heap.size+1,0,none⟩=some (O pa pn pc):=by rw [hc _ _ (by simp <;> omega)];simp [go_sem]
 have c1:w1.cell? ⟨w.heap.size+1,1,none⟩=some (O qa qn qc):=by rw [hc _ _ (by simp <;> omega)];simp [go_sem]
 have e0:w1.cell? ⟨w.heap.size+1+1,0,none⟩=some (O none 0 0):=by rw [hc _ _ (by simp <;> omega)];simp [go_sem]
 have e1:w1.cell? ⟨w.heap.size+1+1,1,none⟩=some (O none 0 0):=by rw [hc _ _ (by simp <;> omega)];simp [go_sem]
 have f0:w1.frozen? ⟨w.heap.size+1+1,0,none⟩=false:=by rw [hf _ _ (by simp <;> omega)];simp [go_sem]
 have f1:w1.frozen? ⟨w.heap.size+1+1,1,none⟩=false:=by rw [hf _ _ (by simp <;> omega)];simp [go_sem]
 clear hc hf hb1 hb3 HC
 by_cases hr0:r=0
 ·subst hr0
  obtain ⟨n,hm,h1,h6,hgs,hlen,hgb,hin,hch⟩:=HOK.o (by first | rfl | trivial)
  subst hm
  have hfor:=Mn n h1 h6 (O va vn vc) (AD gs) w1 (by rw [hgs];exact Af HV.o hB1) hlen hgb (by rw [hgs];exact hch)
  have HFOR:=Aa hfor
  have HIN:=Aa hin
  clear hfor hin hgs hlen hgb hch HOK HV
  go_wp2_with fail
  refine (HFOR.o).mono ?_
  rintro e w2 ⟨ob,rfl,hrows,hb2⟩
  obtain ⟨w3,hw3⟩:=nm (w2.alloc (ze #[O (some ⟨ob,0,none⟩) n n] 137))
  have hb23:Ov w2 w3:=by rw [hw3];exact bA w2 _
  have hb13:Ov w1 w3:=hb2.trans (hb23.mono hb2.size)
  have hB3:=hB1.trans (hb13.mono hB1.size)
  have hz3:=hb13.size
  have up:∀ b o v,w1.cell? ⟨b,o,none⟩=some v->w3.cell? ⟨b,o,none⟩=some v:=fun b o v h=>by rw [(Al hb13).1 _ _ (bL h)];exact h
  have hab:w3.cell? ⟨w2.heap.size,0,none⟩=some (O (some ⟨ob,0,none⟩) n n):=by rw [hw3];simp [go_sem]
  have KT:=Aa fun (W:World) (hB:Ov w3 W)=>He n h1 h6 w2.heap.size (w.heap.size+1) ob (AD gs) (O va vn vc) _ _ bl w3 hab (up _ _ _ c0) (up _ _ _ c1) (Ed hrows hb23) (Ai HP.o hB3) (Ai HQ.o hB3) HIN.o W hB
  have b0:=up _ _ _ a0
  have b1:=up _ _ _ a1
  have E0:=Aa (up _ _ _ e0)
  have E1:=Aa (up _ _ _ e1)
  have F0:Hx (w3.frozen? ⟨w.heap.size+1+1,0,none⟩=false):=by rw [(Al hb13).2 _ _ (bL e0)];exact f0
  have F1:Hx (w3.frozen? ⟨w.heap.size+1+1,1,none⟩=false):=by rw [(Al hb13).2 _ _ (bL e0)];exact f1
  have HZ4:Hx (w.heap.size+1+1 < w3.heap.size):=by show _ < _;omega
  have HNE:Hx (w.heap.size≠w.heap.size+1+1):=by show _≠_;omega
  have HW3:=Aa hw3
  have ED:Hx (w3.drew.cell? ⟨w.heap.size+1+1,0,none⟩=some (O none 0 0)):=E0.o
  clear a0 a1 c0 c1 e0 e1 f0 f1 hab up hrows hb2 hb23 hb13 hw3 HP HQ HIN HFOR hB1
  go_wp2_with fail
  rw [<-HW3.o]
  clear HW3
  first | go_region_held3 (fun W=>W.cell? ⟨w.heap.size,0,none⟩=some (U zd n)/\W.cell? ⟨w.heap.size,1,none⟩=some (O va vn vc)/\(W.cell? ⟨w.heap.size+1+1,0,none⟩=some (O none 0 0)->Ov w3 W)) (first | assumption | exact ⟨b0,b1,fun _=>below_drewN (Below.refl _ _) 1⟩ | exact NJ (by assumption) ep0 hbq | exact NJ (by assumption) ED.o hbp | exact PP (by assumption) HNE.o eq0 | fail) (first | (go_at_call 70;have hsec:=ep0;refine (KT.o _ (Pb (by assumption) ep0)).2.mono ?_;rintro e wq ⟨g2,rfl,hg2,hg2',ho2,hbq⟩;have eq0:wq.cell? ⟨w.heap.size+1+1,0,none⟩=some (O none 0 0):=(by rw [(Al hbq).1 _ _ (bL ep0)];exact ep0);have eq1:wq.cell? ⟨w.heap.size+1+1,1,none⟩=some (O none 0 0):=(by rw [(Al hbq).1 _ _ (bL ep0)];exact ep1);have fq0:wq.frozen? ⟨w.heap.size+1+1,0,none⟩=false:=(by rw [(Al hbq).2 _ _ (bL ep0)];exact fp0);have fq1:wq.frozen? ⟨w.heap.size+1+1,1,none⟩=false:=(by rw [(Al hbq).2 _ _ (bL ep0)];exact fp1)) | (go_at_call 70;refine (KT.o _ (Pb (by assumption) ED.o)).1.mono ?_;rintro e wp ⟨g1,rfl,hg1,hg1',ho1,hbp⟩;have ep0:wp.cell? ⟨w.heap.size+1+1,0,none⟩=some (O none 0 0):=(by rw [(Al hbp).1 _ _ HZ4.o];exact E0.o);have ep1:wp.cell? ⟨w.heap.size+1+1,1,none⟩=some (O none 0 0):=(by rw [(Al hbp).1 _ _ HZ4.o];exact E1.o);have fp0:wp.frozen? ⟨w.heap.size+1+1,0,none⟩=false:=(by rw [(Al hbp).2 _ _ HZ4.o];exact F0.o);have fp1:wp.frozen? ⟨w.heap.size+1+1,1,none⟩=false:=(by rw [(Al hbp).2 _ _ HZ4.o];exact F1.o))) | fail
  all_goals go_wp2_with fail
  all_goals
   refine bodyPost_ret (v:=zm #[zh #[O (some ⟨g1,0,none⟩) n n,O (some ⟨g2,0,none⟩) n n],U zd 0]) (by simp [results,Tryz.results23,go_sem,eq0,eq1]) rfl ⟨_,rfl,Ew (w:=w) (wa:=w3.drew) (q:=w.heap.size+1+1) (f1:=fun i=>E7 (AD gs) n i bl.r) (f2:=fun i=>E7 (AD gs) n i bl.w) hB3.size HZ4.o ho1 hg1' hbp.size ho2 hbq hg2 _ _,?_⟩
   have hd1:Ov w w3.drew:=below_drewN hB3 1
   have hd2:=hd1.trans (hbp.mono hd1.size)
   have hd3:=hd2.trans (hbq.mono hd2.size)
   exact (hd3.setCell (by simp;omega) _).setCell (by simp;omega) _
 ·have hne:(r != 0)=true:=by simpa using hr0
  go_wp2_with fail
  exact bodyPost_ret (v:=zm #[zh #[O none 0 0,O none 0 0],U zd r]) (by simp [results,Tryz.results23,go_sem,e0,e1]) rfl ⟨_,rfl,Ez _ _,(hB1.setCell (by simp;omega) _).setCell (by simp;omega) _⟩
end Go.Proofs.YtfffpjkcfnekaaaGreat
