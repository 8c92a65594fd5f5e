/- The document's own answers of levels: are two the same, is one right, may one flow to another. -/
import Derived.Test.YtfffpjkcfnekaaaGreatF05
import Derived.Deep.CutRange
set_option linter.unusedVariables false
set_option maxHeartbeats 8000000
set_option maxRecDepth 100000
namespace Go.Proofs.YtfffpjkcfnekaaaGreat
open Go.RowKit
open Go.Value renaming slice -> O, int -> U, bool -> zg, agg -> zh, pointer -> zj, tuple -> zm
open Go.IntKind renaming i64 -> zd
open Go.Obj renaming cells -> ze
open Go.Ending renaming returned -> zk
def AN (w:World) (v:Value) (l:List Bool):Prop:=
 ∃ ao cap,v=O ao l.length cap/\(l≠[]->∃ b off,ao=some ⟨b,off,none⟩/\∀ i (h:i < l.length),w.cell? ⟨b,off+i,none⟩=some (zg l[i]))
theorem Ar {w w':World} {v:Value} {l:List Bool} (h:AN w v l) (hb:Ov w w'):AN w' v l:=by
 obtain ⟨ao,cap,rfl,hc⟩:=h
 refine ⟨ao,cap,rfl,fun hne=>?_⟩
 obtain ⟨b,off,rfl,hcl⟩:=hc hne
 refine ⟨b,off,rfl,fun i hi=>?_⟩
 have h1:=hcl i hi
 rw [(Al hb).1 _ _ (bL h1)]
 exact h1
theorem Ek {w:World} {v:Value} {l:List Bool} (h:AN w v l) (n:Nat):AN (w.drewN n) v l:=h
theorem F5 {w:World} {v:Value} {l:List Bool} (h:AN w v l) {i:Nat} (hi:i < l.length):∃ b off cap,v=O (some ⟨b,off,none⟩) l.length cap/\w.cell? ⟨b,off+i,none⟩=some (zg l[i]):=by
 obtain ⟨ao,cap,rfl,hc⟩:=h
 obtain ⟨b,off,rfl,hcl⟩:=hc (by rintro rfl;simp at hi)
 exact ⟨b,off,cap,rfl,hcl i hi⟩
theorem GZ {a b:List Bool} {k:Nat} (hka:k < a.length) (hkb:k < b.length) (hne:a[k]≠b[k]):a≠b:=by
 rintro rfl
 exact hne rfl
theorem Bu (va vb:Value) (a b:List Bool) (w:World) (ha:AN w va a) (hb:AN w vb b) (hla:a.length<=9223372036854775807) :
  Calls Tryz.prog 43 #[va,vb] w fun e w'=>e=zk (zg (decide (a=b)))/\∃ n,w'=w.drewN n:=by
 have HA:=Aa ha
 have HB:=Aa hb
 obtain ⟨ao,ca,rfl,-⟩:=ha
 obtain ⟨bo,cb,rfl,-⟩:=hb
 by_cases hl:a.length=b.length
 ·have hl2:((a.length:Int) != b.length)=false:=by simp [hl]
  have HL:=Aa hl
  clear hl
  go_enter Tryz.func43,Tryz.ntmps43
  go_wp2_with fail
  go_loopw [5] (fun i wr=>∃ k n:Nat,k<=a.length/\i=U zd k/\a.take k=b.take k/\wr=w.drewN n) (fun i _=>a.length - (intOf i).toNat)
  case atStart=>exact ⟨0,0,Nat.zero_le _,rfl,rfl,rfl⟩
  case round=>
   obtain ⟨k,n,hk,rfl,heq,rfl⟩:=hrel
   by_cases hkl:k < a.length
   ·have hkb:k < b.length:=by have:=HL.o;omega
    obtain ⟨b1,o1,c1,e1,q1⟩:=F5 HA.o hkl
    obtain ⟨b2,o2,c2,e2,q2⟩:=F5 HB.o hkb
    injection e1 with e1a e1b e1c
    injection e2 with e2a e2b e2c
    subst e1a e1c e2a e2c
    have htk:a[k]=b[k]->a.take (k+1)=b.take (k+1):=fun h=>by
     rw [List.take_succ_eq_append_getElem hkl,List.take_succ_eq_append_getElem hkb,heq,h]
    have hne:a[k]≠b[k]->decide (a=b)=false:=fun h=>decide_eq_false (GZ hkl hkb h)
    obtain ⟨x,hx⟩:=nm (a[k])
    obtain ⟨y,hy⟩:=nm (b[k])
    rw [<-hx] at q1
    rw [<-hy] at q2
    rw [<-hx,<-hy] at htk hne
    have HT:=Aa htk
    have HN:=Aa hne
    clear htk hne heq hx hy e1b e2b
    cases x <;> cases y
    all_goals go_wp2_with fail
    all_goals go_region
    all_goals go_wp2_with fail
    all_goals first
     | exact ⟨⟨k+1,n+1,by omega,by go_num,HT.o (by first | rfl | trivial),by first | rfl | trivial⟩,by simp [intOf];omega⟩
     | (go_ret;exact ⟨by rw [HN.o (by decide)];rfl,n+1,rfl⟩)
   ·have hke:k=a.length:=by omega
    have hab:a=b:=by
     have h2:k=b.length:=by have:=HL.o;omega
     rw [hke,List.take_length] at heq
     rw [heq,<-hke,h2,List.take_length]
    have hd:decide (a=b)=true:=decide_eq_true hab
    have HD:=Aa hd
    clear hd hab heq
    go_wp2_with fail
    go_ret
    exact ⟨by rw [HD.o];rfl,n,rfl⟩
 ·have hl2:((a.length:Int) != b.length)=true:=by simp;omega
  have hd:decide (a=b)=false:=decide_eq_false (fun h=>hl (by rw [h]))
  rw [hd]
  clear hd
  go_enter Tryz.func43,Tryz.ntmps43
  go_wp2_with fail
  go_ret
  exact ⟨rfl,0,rfl⟩
structure Lev where
 r:List Bool
 w:List Bool
def AQ (W:World) (v:Value) (l:Lev):Prop:=∃ vr vw,v=zh #[vr,vw]/\AN W vr l.r/\AN W vw l.w
theorem Ag {W W':World} {v:Value} {l:Lev} (h:AQ W v l) (hb:Ov W W'):AQ W' v l:=by
 obtain ⟨vr,vw,rfl,h1,h2⟩:=h
 exact ⟨vr,vw,rfl,Ar h1 hb,Ar h2 hb⟩
def DA (l m:Lev):Bool:=decide (l.r=m.r) && decide (l.w=m.w)
def Lev.small (l:Lev):Prop:=l.r.length<=9223372036854775807/\l.w.length<=9223372036854775807
theorem Cn (vl vm:Value) (l m) (w:World) (hl:AQ w vl l) (hm:AQ w vm m) (hs:l.small) :
  Calls Tryz.prog 42 #[vl,vm] w fun e w'=>e=zk (zg (DA l m))/\Ov w w':=by
 obtain ⟨r1,w1,rfl,hr1,hw1⟩:=hl
 obtain ⟨r2,w2,rfl,hr2,hw2⟩:=hm
 have hbel:Ov w ((w.alloc (ze #[r1,w1] 50)).alloc (ze #[r2,w2] 50)):=(bA w _).alloc (by simp) _
 have hS:=Bu r1 r2 l.r m.r _ (Ar hr1 hbel) (Ar hr2 hbel) hs.1
 have hT:=fun n=>Bu w1 w2 l.w m.w (((w.alloc (ze #[r1,w1] 50)).alloc (ze #[r2,w2] 50)).drewN n) (Ek (Ar hw1 hbel) n) (Ek (Ar hw2 hbel) n) hs.2
 have hx:DA l m=(decide (l.r=m.r) && decide (l.w=m.w)):=rfl
 obtain ⟨x,hxe⟩:=nm (decide (l.r=m.r))
 obtain ⟨y,hye⟩:=nm (decide (l.w=m.w))
 rw [<-hxe] at hS hx
 rw [<-hye] at hT hx
 rw [hx]
 have KS:=Aa hS
 have KT:=Aa hT
 clear hS hT hxe hye hx hr1 hr2 hw1 hw2
 cases x with
 | false=>
  go_enter Tryz.func42,Tryz.ntmps42
  go_wp2_with fail
  refine (KS.o).mono ?_
  rintro e w3 ⟨rfl,n,rfl⟩
  go_wp2_with fail
  go_ret
  exact ⟨by simp,below_drewN hbel n⟩
 | true=>
  go_enter Tryz.func42,Tryz.ntmps42
  go_wp2_with fail
  refine (KS.o).mono ?_
  rintro e w3 ⟨rfl,n,rfl⟩
  go_wp2_with fail
  refine (KT.o n).mono ?_
  rintro e w4 ⟨rfl,k,rfl⟩
  go_wp2_with fail
  go_ret
  exact ⟨by simp,below_drewN hbel (n+k)⟩
def Ct (m:Int) (l:Lev):Int:=if (l.r.length:Int)=m/\(l.w.length:Int)=m then 0 else 1
def Oy (l m:Lev) (i:Nat):Bool:=!((m.r[i]?.getD false && !(l.r[i]?.getD false)) || (l.w[i]?.getD false && !(m.w[i]?.getD false)))
def Ay (l m:Lev) (n:Nat):Bool:=(List.range n).all (Oy l m)
theorem AL {l m:Lev} {n:Nat}:Ay l m n=true ↔ ∀ i,i < n->(m.r[i]?.getD false=true->l.r[i]?.getD false=true)/\(l.w[i]?.getD false=true->m.w[i]?.getD false=true):=by
 unfold Ay
 rw [List.all_eq_true]
 constructor
 ·intro h i hi
  have:=h i (List.mem_range.2 hi)
  unfold Oy at this
  revert this
  cases m.r[i]?.getD false <;> cases l.r[i]?.getD false <;> cases l.w[i]?.getD false <;> cases m.w[i]?.getD false <;> simp
 ·intro h i hi
  have:=h i (List.mem_range.1 hi)
  unfold Oy
  revert this
  cases m.r[i]?.getD false <;> cases l.r[i]?.getD false <;> cases l.w[i]?.getD false <;> cases m.w[i]?.getD false <;> simp
theorem BI {w:World} {v:Value} {l:List Bool} {n:Nat} (h:AN w v l) (hl:l.length=n) (h1:1<=n) :
  ∃ b off cap,v=O (some ⟨b,off,none⟩) n cap/\∀ i,i < n->w.cell? ⟨b,off+i,none⟩=some (zg (l[i]?.getD false)):=by
 obtain ⟨ao,cap,rfl,hc⟩:=h
 obtain ⟨b,off,rfl,hcl⟩:=hc (by rintro rfl;simp at hl;omega)
 refine ⟨b,off,cap,by rw [hl],fun i hi=>?_⟩
 have hi':i < l.length:=by omega
 rw [hcl i hi']
 simp [hi']
def Lev.len (l:Lev) (n:Nat):Prop:=l.r.length=n/\l.w.length=n
def AM (w:World) (v:Value) (l:List Int):Prop:=
 ∃ ao cap,v=O ao l.length cap/\(l≠[]->∃ b off,ao=some ⟨b,off,none⟩/\∀ i (h:i < l.length),w.cell? ⟨b,off+i,none⟩=some (U zd l[i]))
theorem BH {w w':World} {v:Value} {l:List Int} (h:AM w v l) (hb:Ov w w'):AM w' v l:=by
 obtain ⟨ao,cap,rfl,hc⟩:=h
 refine ⟨ao,cap,rfl,fun hne=>?_⟩
 obtain ⟨b,off,rfl,hcl⟩:=hc hne
 refine ⟨b,off,rfl,fun i hi=>?_⟩
 have h1:=hcl i hi
 rw [(Al hb).1 _ _ (bL h1)]
 exact h1
structure Pol where
 owner:Int
 names:List Int
def AC (w:World) (v:Value) (ps:List Pol):Prop:=
 ∃ ao cap,v=O ao ps.length cap/\(ps≠[]->∃ b off,ao=some ⟨b,off,none⟩/\∀ i (h:i < ps.length),w.cell? ⟨b,off+i*2,none⟩=some (U zd ps[i].owner)/\∃ nv,w.cell? ⟨b,off+i*2+1,none⟩=some nv/\AM w nv ps[i].names)
theorem Ai {w w':World} {v:Value} {ps:List Pol} (h:AC w v ps) (hb:Ov w w'):AC w' v ps:=by
 obtain ⟨ao,cap,rfl,hc⟩:=h
 refine ⟨ao,cap,rfl,fun hne=>?_⟩
 obtain ⟨b,off,rfl,hcl⟩:=hc hne
 refine ⟨b,off,rfl,fun i hi=>?_⟩
 obtain ⟨h1,nv,h2,h3⟩:=hcl i hi
 exact ⟨by rw [(Al hb).1 _ _ (bL h1)];exact h1,nv,by rw [(Al hb).1 _ _ (bL h2)];exact h2,BH h3 hb⟩
def DT (gn:List (Nat × Nat)) (n who:Nat) (x:Int):Bool:=(acts gn n who)[x.toNat]?.getD false
def PR (gn:List (Nat × Nat)) (n who:Nat) (p:Pol):Bool:=DT gn n who p.owner || p.names.any (DT gn n who)
def E7 (gn:List (Nat × Nat)) (n who:Nat) (ps:List Pol):Bool:=ps.all (PR gn n who)
def EG (n:Nat) (p:Pol):Prop:=(0<=p.owner/\p.owner < n)/\p.names.length<=6/\∀ x∈p.names,0<=x/\x < (n:Int)
theorem OE {w w0 w1:World} {b0 o0 b1 o1 b2 o2:Nat} {v0 v1 v2:Value} (h:w0.cell? ⟨b0,o0,none⟩=some v0/\w0.cell? ⟨b1,o1,none⟩=some v1/\w0.cell? ⟨b2,o2,none⟩=some v2/\Ov w w0)
  (hb:Ov w0 w1):w1.cell? ⟨b0,o0,none⟩=some v0/\w1.cell? ⟨b1,o1,none⟩=some v1/\w1.cell? ⟨b2,o2,none⟩=some v2/\Ov w w1:=by
 obtain ⟨h0,h1,h2,hB⟩:=h
 obtain ⟨hc,hf⟩:=Al hb
 refine ⟨?_,?_,?_,hB.trans (hb.mono hB.size)⟩
 ·rw [hc _ _ (bL h0)];exact h0
 ·rw [hc _ _ (bL h1)];exact h1
 ·rw [hc _ _ (bL h2)];exact h2
def DY:List Int->Bool
 | x::y::l=>decide (x < y) && DY (y::l)
 | _=>true
def C7 (m:Int) (p:Pol):Int:=
 if BJ m p.owner=true then (if p.names.length<=6 then (if p.names.all (BJ m)=true then (if DY p.names=true then 0 else 4) else 5) else 2) else 5
def Co (m:Int):List Pol->Int
 | []=>0
 | p::ps=>if C7 m p=0 then Co m ps else C7 m p
def Cq (m:Int) (ps:List Pol):Int:=if ps.length<=4 then Co m ps else 2
theorem Gu {m:Int} {ps:List Pol} {k:Nat} (hk:k < ps.length):Co m (ps.drop k)=if C7 m ps[k]=0 then Co m (ps.drop (k+1)) else C7 m ps[k]:=by
 rw [List.drop_eq_getElem_cons hk]
 rfl
theorem GC (l:List Int):DY l=true ↔ ∀ i (h:i+1 < l.length),l[i] < l[i+1]:=by
 induction l with
 | nil=>simp [DY]
 | cons x l ih=>
  cases l with
  | nil=>simp [DY]
  | cons y l=>
   simp only [DY,Bool.and_eq_true,decide_eq_true_eq,ih]
   constructor
   ·rintro ⟨h1,h2⟩ i hi
    cases i with
    | zero=>exact h1
    | succ i=>exact h2 i (by simpa using hi)
   ·intro h
    exact ⟨h 0 (by simp),fun i hi=>h (i+1) (by simpa using hi)⟩
def Iy (p:Int->Bool) (l:List Int):Int:=match l.findIdx? p with | some i=>i | none=>-1
theorem M0 {p:Int->Bool} {l:List Int} {k:Nat} (hk:k < l.length) (h:(l.take k).all (fun g=>!p g)=true) (hp:p l[k]=true):Iy p l=k:=by
 have:l.findIdx? p=some k:=by
  rw [List.findIdx?_eq_some_iff_getElem]
  refine ⟨hk,hp,fun j hj=>?_⟩
  have:=List.all_eq_true.1 h l[j] (by rw [List.mem_take_iff_getElem];exact ⟨j,by omega,rfl⟩)
  simpa using this
 simp [Iy,this]
theorem Lf {p:Int->Bool} {l:List Int} (h:l.all (fun g=>!p g)=true):Iy p l=-1:=by
 have:l.findIdx? p=none:=by
  rw [List.findIdx?_eq_none_iff]
  intro x hx
  have:=List.all_eq_true.1 h x hx
  simpa using this
 simp [Iy,this]
theorem Mk (p:Int->Bool) (l):decide (0<=Iy p l)=l.any p:=by
 unfold Iy
 cases h:l.findIdx? p with
 | none=>
  have:l.any p=false:=by rw [List.any_eq_false];intro x hx;have:=(List.findIdx?_eq_none_iff.1 h) x hx;simpa using this
  rw [this];rfl
 | some i=>
  obtain ⟨hi,hp,_⟩:=List.findIdx?_eq_some_iff_getElem.1 h
  have:l.any p=true:=List.any_eq_true.2 ⟨_,List.getElem_mem hi,hp⟩
  rw [this];simp
theorem Hi (F:FuncId) (cv:Value) (p:Int->Bool) (v:Value) (l) (w:World) (hv:AM w v l) (hn:l.length<=6)
  (hF:Hx (∀ (i:Nat) (h:i < l.length) (w1:World),Ov w w1->Calls Tryz.prog F #[U zd l[i],cv] w1 fun e w2=>e=zk (zg (p l[i]))/\Ov w1 w2))
  (hC:∀ (args:Array Value) (w:World),(callFunc F args).run Tryz.prog w=.ok (.enter F args) w) :
  Calls Tryz.prog 190 #[v,.func (.func F) #[] #[cv]] w fun e w'=>e=zk (U zd (Iy p l))/\Ov w w':=by
 obtain ⟨ao,cap,rfl,hcc⟩:=hv
 go_enter Tryz.func190,Tryz.ntmps190
 go_wp2_with fail
 go_loopw [8] (fun i wr=>∃ k:Nat,k<=l.length/\i=U zd k/\(l.take k).all (fun g=>!p g)=true/\Ov w wr) (fun i _=>l.length - (intOf i).toNat)
 case atStart=>exact ⟨0,Nat.zero_le _,rfl,rfl,Below.refl _ w⟩
 case round=>
  obtain ⟨k,hk,rfl,hall,hbel⟩:=hrel
  by_cases hkl:k < l.length
  ·obtain ⟨b,off,rfl,hcl⟩:=hcc (by rintro rfl;simp at hkl)
   have q0:=hcl k hkl
   have hlt:=bL q0
   rw [<-(Al hbel).1 _ _ hlt] at q0
   have hcall:=hF.o k hkl
   have hat:=fun (hp:p l[k]=true)=>M0 hkl hall hp
   have htk:p l[k]=false->(l.take (k+1)).all (fun g=>!p g)=true:=fun hp=>by
    rw [List.take_succ_eq_append_getElem hkl,List.all_append,hall]
    simp [hp]
   obtain ⟨r,hr⟩:=nm (p l[k])
   obtain ⟨g0,hg0⟩:=nm (l[k])
   rw [<-hr] at hcall hat htk
   rw [<-hg0] at q0 hcall
   have HC:=Aa hcall
   have HA:=Aa hat
   have HT:=Aa htk
   clear hr hg0 hcall hat htk hcl hcc hF
   cases r with
   | true=>
    go_wp2_with fail
    refine (HC.o _ hbel).mono ?_
    rintro e w2 ⟨rfl,hb2⟩
    have hbel2:Ov w w2:=hbel.trans (hb2.mono hbel.size)
    go_wp2_with fail
    go_ret
    exact ⟨by rw [HA.o (by first | rfl | trivial)];rfl,hbel2⟩
   | false=>
    go_wp2_with fail
    refine (HC.o _ hbel).mono ?_
    rintro e w2 ⟨rfl,hb2⟩
    have hbel2:Ov w w2:=hbel.trans (hb2.mono hbel.size)
    go_wp2_with fail
    exact ⟨⟨k+1,by omega,by go_num,HT.o (by first | rfl | trivial),hbel2⟩,by simp [intOf];omega⟩
  ·have hke:k=l.length:=by omega
   rw [hke,List.take_length] at hall
   have hx:=Lf hall
   clear hall hcc hF
   go_wp2_with fail
   go_ret
   exact ⟨by rw [hx];rfl,hbel⟩
theorem DS (F:FuncId) (cv:Value) (p:Int->Bool) (v:Value) (l) (w:World) (hv:AM w v l) (hn:l.length<=6)
  (hF:Hx (∀ (i:Nat) (h:i < l.length) (w1:World),Ov w w1->Calls Tryz.prog F #[U zd l[i],cv] w1 fun e w2=>e=zk (zg (p l[i]))/\Ov w1 w2))
  (hC:∀ (args:Array Value) (w:World),(callFunc F args).run Tryz.prog w=.ok (.enter F args) w) :
  Calls Tryz.prog 124 #[v,.func (.func F) #[] #[cv]] w fun e w'=>e=zk (zg (l.any p))/\Ov w w':=by
 have hI:=Hi F cv p v l w hv hn hF hC
 have hx:=Mk p l
 obtain ⟨r,hr⟩:=nm (Iy p l)
 rw [<-hr] at hI hx
 rw [<-hx]
 have HI:=Aa hI
 clear hI hx hr hv hC hF
 obtain ⟨u,hu⟩:=nm v
 go_enter Tryz.func124,Tryz.ntmps124
 go_wp2_with fail
 refine (HI.o).mono ?_
 rintro e w1 ⟨rfl,hb1⟩
 go_wp2_with fail
 go_ret
 exact ⟨by simp,hb1⟩
theorem OM (args:Array Value) (w:World):(callFunc 213 args).run Tryz.prog w=.ok (.enter 213 args) w:=by simp [go_sem]
theorem OO (args:Array Value) (w:World):(callFunc 128 args).run Tryz.prog w=.ok (.enter 128 args) w:=by simp [go_sem]
theorem F4 (m x:Int) (b:Nat) (w:World) (h0:w.cell? ⟨b,0,none⟩=some (U zd m)) :
  Calls Tryz.prog 213 #[U zd x,zj (some ⟨b,0,none⟩)] w fun e w'=>e=zk (zg (!BJ m x))/\Ov w w':=by
 by_cases h1:x < 0
 ·have hx:BJ m x=false:=by simp [BJ];omega
  rw [hx]
  clear hx
  go_enter Tryz.func213,Tryz.ntmps213
  go_wp2_with fail
  go_ret
  exact ⟨by simp,Below.refl _ w⟩
 ·by_cases h2:m<=x
  ·have hx:BJ m x=false:=by simp [BJ];omega
   rw [hx]
   clear hx
   go_enter Tryz.func213,Tryz.ntmps213
   go_wp2_with fail
   go_ret
   exact ⟨by simp,Below.refl _ w⟩
  ·have hx:BJ m x=true:=by simp [BJ];omega
   rw [hx]
   clear hx
   go_enter Tryz.func213,Tryz.ntmps213
   go_wp2_with fail
   go_ret
   exact ⟨by simp,Below.refl _ w⟩
theorem LY (v:Value) (l) (w:World) (hv:AM w v l) (hn:l.length<=6) :
  Calls Tryz.prog 214 #[v] w fun e w'=>e=zk (zg (DY l))/\Ov w w':=by
 obtain ⟨ao,cap,rfl,hcc⟩:=hv
 have HCC:=Aa hcc
 clear hcc
 go_enter Tryz.func214,Tryz.ntmps214
 go_wp2_with fail
 go_loopw [3] (fun i wr=>∃ k n:Nat,k<=6/\i=U zd ((k:Int)+1)/\(∀ j (h:j+1 < l.length),j < k->l[j] < l[j+1])/\wr=w.drewN n) (fun i _=>10 - (intOf i).toNat)
 case atStart=>exact ⟨0,0,Nat.zero_le _,rfl,fun j _ h=>absurd h (Nat.not_lt_zero _),rfl⟩
 case round=>
  obtain ⟨k,n,hk,rfl,hall,rfl⟩:=hrel
  by_cases hkl:k+1 < l.length
  ·obtain ⟨b,off,rfl,hcl⟩:=HCC.o (by rintro rfl;simp at hkl)
   have q0:=hcl k (by omega)
   have q1:=hcl (k+1) hkl
   have hnext:l[k] < l[k+1]->∀ j (h:j+1 < l.length),j < k+1->l[j] < l[j+1]:=fun h j hj hjk=>by
    by_cases e:j=k
    ·subst e;exact h
    ·exact hall j hj (by omega)
   have hstop:¬ l[k] < l[k+1]->DY l=false:=fun h=>by
    rw [Bool.eq_false_iff]
    intro hh
    exact h ((GC l).1 hh k hkl)
   obtain ⟨x,hx⟩:=nm (l[k])
   obtain ⟨y,hy⟩:=nm (l[k+1])
   rw [<-hx] at q0
   rw [<-hy] at q1
   rw [<-hx,<-hy] at hnext hstop
   have HN:=Aa hnext
   have HS:=Aa hstop
   have k1:((k:Int)+1) < (l.length:Int):=by omega
   have a1:(0:Int)<=(k:Int)+1:=by omega
   have a2:(0:Int)<=(k:Int):=by omega
   have a3:(k:Int) < (l.length:Int):=by omega
   have q1':w.cell? ⟨b,off+(k+1),none⟩=some (U zd y):=q1
   clear hnext hstop hx hy hcl hall HCC q1
   by_cases hxy:y<=x
   ·go_wp2_with fail
    go_region
    go_wp2_with fail
    go_ret
    exact ⟨by rw [HS.o (by omega)];rfl,below_drewN (Below.refl _ w) (n+1)⟩
   ·go_wp2_with fail
    go_region
    go_wp2_with fail
    exact ⟨⟨k+1,n+1,by omega,by go_num,HN.o (by omega),by first | rfl | trivial⟩,by simp [intOf];omega⟩
  ·have hr:DY l=true:=(GC l).2 fun j hj=>hall j hj (by omega)
   have HR:=Aa hr
   have k1:¬ ((k:Int)+1) < (l.length:Int):=by omega
   clear hr hall HCC
   go_wp2_with fail
   go_ret
   exact ⟨by rw [HR.o];rfl,below_drewN (Below.refl _ w) n⟩
theorem Fz (m:Int) (s:Value) (p:Pol) (nv:Value) (w:World) (hp:AM w nv p.names) :
  Calls Tryz.prog 169 #[zh #[U zd m,s],zh #[U zd p.owner,nv]] w fun e w'=>e=zk (U zd (C7 m p))/\Ov w w':=by
 obtain ⟨ow,names⟩:=p
 have hE:C7 m ⟨ow,names⟩=if BJ m ow=true then (if names.length<=6 then (if (names.any fun x=>!BJ m x)=true then 5 else (if DY names=true then 0 else 4)) else 2) else 5:=by
  unfold C7
  have:names.all (BJ m)=!(names.any fun x=>!BJ m x):=by rw [List.any_eq_not_all_not];simp
  simp only [this]
  cases (names.any fun x=>!BJ m x) <;> simp
 simp only at hp ⊢
 have hbel:Ov w ((w.alloc (ze #[U zd m,s] 24)).alloc (ze #[U zd ow,nv] 87)):=(bA w _).alloc (by simp) _
 have HP:=Aa fun (W:World) (hb:Ov w W)=>BH hp hb
 have hN:=fun (W:World) (h:W.cell? ⟨w.heap.size,0,none⟩=some (U zd m))=>F4 m ow w.heap.size W h
 have hK:=fun (W:World) (hn:names.length<=6) (hB:Ov w W) (h:W.cell? ⟨w.heap.size,0,none⟩=some (U zd m))=>DS 213 (zj (some ⟨w.heap.size,0,none⟩)) (fun x=>!BJ m x) nv names W (BH hp hB) hn (Aa fun i hi w1 hb=>F4 m names[i] w.heap.size w1 (by rw [(Al hb).1 _ _ (bL h)];exact h)) OM
 have hR:=fun (W:World) (hn:names.length<=6) (hB:Ov w W)=>LY nv names W (BH hp hB) hn
 obtain ⟨r1,hr1⟩:=nm (BJ m ow)
 obtain ⟨r2,hr2⟩:=nm (names.any fun x=>!BJ m x)
 obtain ⟨r3,hr3⟩:=nm (DY names)
 rw [<-hr1,<-hr2,<-hr3] at hE
 rw [<-hr1] at hN
 rw [<-hr2] at hK
 rw [<-hr3] at hR
 have KN:=Aa hN
 have KK:=Aa hK
 have KR:=Aa hR
 have HE:=Aa hE
 obtain ⟨ao,cap,rfl,-⟩:=hp
 clear hN hK hR hE hr1 hr2 hr3
 cases r1 with
 | false=>
  go_enter Tryz.func169,Tryz.ntmps169
  go_wp2_with fail
  refine (KN.o _ (by simp [go_sem])).mono ?_
  rintro e w1 ⟨rfl,hb1⟩
  have hbel1:Ov w w1:=hbel.trans (hb1.mono (by simp;omega))
  go_wp2_with fail
  go_ret
  exact ⟨by rw [HE.o];rfl,hbel1⟩
 | true=>
  go_enter Tryz.func169,Tryz.ntmps169
  go_wp2_with fail
  refine (KN.o _ (by simp [go_sem])).mono ?_
  rintro e w1 ⟨rfl,hb1⟩
  obtain ⟨hc,hf⟩:=Al hb1
  have c0:w1.cell? ⟨w.heap.size,0,none⟩=some (U zd m):=by rw [hc _ _ (by simp;omega)];simp [go_sem]
  have c1:w1.cell? ⟨w.heap.size+1,1,none⟩=some (O ao names.length cap):=by rw [hc _ _ (by simp)];simp [go_sem]
  have hbel1:Ov w w1:=hbel.trans (hb1.mono (by simp;omega))
  clear hc hf hb1 hbel KN
  by_cases hn:names.length<=6
  ·go_wp2_with fail
   refine (KK.o _ hn hbel1 c0).mono ?_
   rintro e w2 ⟨rfl,hb2⟩
   have hbel2:Ov w w2:=hbel1.trans (hb2.mono hbel1.size)
   have d1:w2.cell? ⟨w.heap.size+1,1,none⟩=some (O ao names.length cap):=by rw [(Al hb2).1 _ _ (bL c1)];exact c1
   clear c0 c1 KK
   cases r2 with
   | true=>
    go_wp2_with fail
    go_ret
    exact ⟨by rw [HE.o];simp [hn],hbel2⟩
   | false=>
    go_wp2_with fail
    refine (KR.o _ hn hbel2).mono ?_
    rintro e w3 ⟨rfl,hb3⟩
    have hbel3:Ov w w3:=hbel2.trans (hb3.mono hbel2.size)
    clear d1 KR
    cases r3
    all_goals go_wp2_with fail
    all_goals go_ret
    all_goals exact ⟨by rw [HE.o];simp [hn],hbel3⟩
  ·go_wp2_with fail
   go_ret
   exact ⟨by rw [HE.o];simp [hn],hbel1⟩
theorem GH {w:World} {v:Value} {ps:List Pol} (h:AC w v ps) {i:Nat} (hi:i < ps.length):∃ b off cap nv,v=O (some ⟨b,off,none⟩) ps.length cap/\w.cell? ⟨b,off+i*2,none⟩=some (U zd ps[i].owner)/\w.cell? ⟨b,off+i*2+1,none⟩=some nv/\AM w nv ps[i].names:=by
 obtain ⟨ao,cap,rfl,hc⟩:=h
 obtain ⟨b,off,rfl,hcl⟩:=hc (by rintro rfl;simp at hi)
 obtain ⟨h1,nv,h2,h3⟩:=hcl i hi
 exact ⟨b,off,cap,nv,rfl,h1,h2,h3⟩
theorem DR (m:Int) (s vp:Value) (ps:List Pol) (w:World) (hp:AC w vp ps) :
  Calls Tryz.prog 110 #[zh #[U zd m,s],vp] w fun e w'=>e=zk (U zd (Cq m ps))/\Ov w w':=by
 have HP:=Aa hp
 obtain ⟨ao,cap,rfl,-⟩:=hp
 have hbel:Ov w (w.alloc (ze #[U zd m,s] 24)):=bA w _
 have hE:Cq m ps=if ps.length<=4 then Co m ps else 2:=rfl
 have KP:=Aa fun (p:Pol) (nv:Value) (W:World) (h:AM W nv p.names)=>Fz m s p nv W h
 by_cases hn:ps.length<=4
 ·rw [if_pos hn] at hE
  have HE:=Aa hE
  clear hE
  go_enter Tryz.func110,Tryz.ntmps110
  go_wp2_with fail
  go_loopw [13] (fun i wr=>∃ k:Nat,k<=ps.length/\i=U zd k/\Co m ps=Co m (ps.drop k)/\Ov w wr/\wr.cell? ⟨w.heap.size,0,none⟩=some (U zd m)/\wr.cell? ⟨w.heap.size,1,none⟩=some s) (fun i _=>ps.length - (intOf i).toNat)
  case atStart=>exact ⟨0,Nat.zero_le _,rfl,rfl,hbel,by simp [go_sem],by simp [go_sem]⟩
  case round=>
   obtain ⟨k,hk,rfl,hfe,hbw,c0,c1⟩:=hrel
   by_cases hkl:k < ps.length
   ·obtain ⟨b,off,cap',nv,hve,q0,q1,q2⟩:=GH (Ai HP.o hbw) hkl
    injection hve with e1 e2 e3
    subst e1 e3
    clear e2
    have hfd:=Gu (m:=m) hkl
    rw [<-hfe] at hfd
    have ltb:=bL q0
    have ltw:=bL c0
    have hal:Ov wr (wr.alloc (ze #[U zd ps[k].owner,nv] 87)):=bA wr _
    have hcall:=KP.o ps[k] nv (wr.alloc (ze #[U zd ps[k].owner,nv] 87)) (BH q2 hal)
    obtain ⟨r,hr⟩:=nm (C7 m ps[k])
    obtain ⟨ow,how⟩:=nm (ps[k].owner)
    rw [<-hr] at hfd hcall
    rw [<-how] at q0 hal hcall
    obtain ⟨nl,nc,nlen,hnv⟩:∃ a c n,nv=O a n c:=by obtain ⟨a,c,e,_⟩:=q2;exact ⟨a,c,_,e⟩
    subst hnv
    have HC:=Aa hcall
    have HF:=Aa hfd
    have hbw2:=hbw.trans (hal.mono hbw.size)
    clear hr how hcall hfd q2 hfe
    by_cases hr0:r=0
    ·subst hr0
     go_wp2_with fail
     refine (HC.o).mono ?_
     rintro e w2 ⟨rfl,hb2⟩
     have hb3:=hbw2.trans (hb2.mono hbw2.size)
     have ltw':w.heap.size < (wr.alloc (ze #[U zd ow,O nl nlen nc] 87)).heap.size:=by simp;exact Nat.lt_succ_of_lt ltw
     have d0:w2.cell? ⟨w.heap.size,0,none⟩=some (U zd m):=by rw [(Al hb2).1 _ _ ltw',(Al hal).1 _ _ ltw];exact c0
     have d1:w2.cell? ⟨w.heap.size,1,none⟩=some s:=by rw [(Al hb2).1 _ _ ltw',(Al hal).1 _ _ ltw];exact c1
     clear hbw2 hb2 hal q0 q1 c0 c1 HC
     go_wp2_with fail
     exact ⟨⟨k+1,by omega,by go_num,by rw [HF.o];simp,hb3,d0,d1⟩,by simp [intOf];omega⟩
    ·have hne:(r != 0)=true:=by simpa using hr0
     go_wp2_with fail
     refine (HC.o).mono ?_
     rintro e w2 ⟨rfl,hb2⟩
     have hb3:=hbw2.trans (hb2.mono hbw2.size)
     clear hbw2 hb2 hal q0 q1 c0 c1 HC
     go_wp2_with fail
     go_ret
     exact ⟨by rw [HE.o,HF.o];simp [hr0],hb3⟩
   ·have hke:k=ps.length:=by omega
    have hz:Co m ps=0:=by rw [hfe,hke,List.drop_length];rfl
    have HZ:=Aa hz
    clear hz hfe c0 c1
    go_wp2_with fail
    go_ret
    exact ⟨by rw [HE.o,HZ.o];rfl,hbw⟩
 ·rw [if_neg hn] at hE
  have HE:=Aa hE
  clear hE
  go_enter Tryz.func110,Tryz.ntmps110
  go_wp2_with fail
  go_ret
  exact ⟨by rw [HE.o];rfl,hbel⟩
end Go.Proofs.YtfffpjkcfnekaaaGreat
