/- The document's own check of what is to be reckoned; an expression that passes it is right. -/
import Derived.Test.YtfffpjkcfnekaaaGreatF02
import Derived.Deep.SlicePairs
import Derived.Deep.QuietTactic
import Derived.BigQuiet
import Derived.Defers
import Derived.Recover
set_option linter.unusedVariables false
set_option maxHeartbeats 8000000
set_option maxRecDepth 100000
namespace Go.Proofs.YtfffpjkcfnekaaaGreat.Ex
open Go.RowKit
open Go.Value renaming slice -> O, int -> U, bool -> zg, agg -> zh, pointer -> zj, tuple -> zm
open Go.IntKind renaming i64 -> zd
open Go.Obj renaming cells -> ze
open Go.Ending renaming returned -> zk
theorem Fu {vars:Int}:∀ {l:List D},BN vars l=0->∀ d∈l,CS vars (AI d) (Bc d) (AH d).length=0
 | [],_,d,hd=>by cases hd
 | a::l,h,d,hd=>by
  rw [BN] at h
  split at h
  ·rename_i h0
   rcases List.mem_cons.1 hd with rfl | hd
   ·exact h0
   ·exact Fu h d hd
  ·rename_i h0
   exact absurd h h0
theorem Fc {vars k n:Int} {l:Nat} (h:CS vars k n l=0):(k=1/\-9999999<=n/\n<=9999999)\/(k=2/\0<=n/\n < vars)\/(3<=k/\k<=7/\l=2):=by
 unfold CS at h
 split at h
 ·omega
 ·split at h
  ·omega
  ·split at h
   ·omega
   ·split at h
    ·omega
    ·omega
theorem Mc:∀ (k:Nat) (cs:List Value) (d:D) (w:World) (m:Int),RX w k cs d->0<=m->m<=15 ->
  Calls Tryz.prog 162 #[.agg cs.toArray,U zd m] w fun e w'=>e=zk (U zd (m - BS k d m))/\Ov w w':=by
 intro k
 induction k with
 | zero=>intro cs d w m h;exact h.elim
 | succ k ih=>
  intro cs d w m h m0 m1
  obtain ⟨kd,n,v,ds,rfl,rfl,hkd,hn,hlen,ao,cap,rfl,hc⟩:=h
  have HC:=Aa hc
  have IH:=Aa ih
  have HL:ds.length<=9223372036854775807:=hlen
  have hspec:BS (k+1) (xD kd n ds) m=Bv (BS k) m ds 1:=rfl
  rw [hspec]
  have hbel:Ov w (w.alloc (ze #[U zd kd,U zd n,O ao ds.length cap] 94)):=bA w _
  clear hc ih hspec hkd hn hlen
  show Calls Tryz.prog 162 #[zh #[U zd kd,U zd n,O ao ds.length cap],U zd m] w _
  go_enter Tryz.func162,Tryz.ntmps162
  go_wp2_with fail
  go_loopw [1,12] (fun c i wr=>∃ (j:Nat) (t:Int),j<=ds.length/\i=U zd j/\c=U zd (m - t)/\1<=t/\t<=m+1/\Bv (BS k) m ds 1=Bv (BS k) m (ds.drop j) t/\Ov w wr) (fun _ i _=>ds.length - (intOf i).toNat)
  case atStart=>exact ⟨0,1,Nat.zero_le _,rfl,rfl,by omega,by omega,rfl,hbel⟩
  case round=>
   clear hbel
   obtain ⟨j,t,hj,rfl,rfl,t1,t2,hp,hB⟩:=hrel
   have HP:=Aa hp
   clear hp
   by_cases hjl:j < ds.length
   ·obtain ⟨b,off,rfl,hcl⟩:=HC.o (by rintro rfl;simp at hjl)
    obtain ⟨cs,hl3,hcs,hr⟩:=hcl j ds[j] (List.getElem?_eq_getElem hjl)
    obtain ⟨ao',cap',hcse⟩:=hr.form
    have hnext:=fun h=>Gx (f:=BS k) (m:=m) (n:=t) hjl h
    have hle:=fun h=>E2 k ds[j] (m - t) h
    obtain ⟨dj,hdj⟩:=nm (ds[j])
    rw [<-hdj] at hnext hle hr hcse
    obtain ⟨kj,hkj⟩:=nm (AI dj)
    obtain ⟨nj,hnj⟩:=nm (Bc dj)
    obtain ⟨lj,hlj⟩:=nm ((AH dj).length)
    rw [<-hkj,<-hnj,<-hlj] at hcse
    subst hcse
    have q0:wr.cell? ⟨b,off+j*3,none⟩=_:=Ab hB _ _ (hcs 0 _ rfl)
    have q1:=Ab hB _ _ (hcs 1 _ rfl)
    have q2:=Ab hB _ _ (hcs 2 _ rfl)
    have hba:Ov wr (wr.alloc (ze #[U zd kj,U zd nj,O ao' lj cap'] 94)):=bA wr _
    have hBa:Ov w (wr.alloc (ze #[U zd kj,U zd nj,O ao' lj cap'] 94)):=hB.trans (hba.mono hB.size)
    by_cases htm:t<=m
    ·have hnext:=hnext htm
     have hle:=hle (by omega)
     have hcall:=IH.o _ dj _ (m - t) (hr.over hBa) (by omega) (by omega)
     obtain ⟨r,hre⟩:=nm (BS k dj (m - t))
     rw [<-hre] at hcall hnext hle
     have HCALL:=Aa hcall
     have HN:=Aa hnext
     clear hcall hnext hre hkj hnj hlj hr hcs hcl hl3 hdj
     go_wp2_with fail
     refine (HCALL.o).mono ?_
     rintro e w1 ⟨rfl,hb1⟩
     have hB':Ov w w1:=hBa.trans (hb1.mono hBa.size)
     clear q0 q1 q2 hB hb1 HCALL hba hBa
     go_wp2_with fail
     exact ⟨⟨j+1,t+r,by omega,by go_num,by go_num,by omega,by omega,by rw [HP.o,HN.o],hB'⟩,by simp [intOf];omega⟩
    ·have hd:=Gy (BS k) m (ds.drop j) t (by omega)
     have HD:=Aa hd
     have hneg:m - t < 0:=by omega
     clear hd hnext hle hr hcs hcl hl3 hdj hkj hnj hlj htm
     go_wp2_with fail
     go_ret
     exact ⟨by rw [HP.o,HD.o];rfl,hBa⟩
   ·have hd:Bv (BS k) m (ds.drop j) t=t:=by rw [List.drop_eq_nil_of_le (by omega)];rfl
    have HD:=Aa hd
    clear hd
    go_wp2_with fail
    go_ret
    exact ⟨by rw [HP.o,HD.o];rfl,hB⟩
def Dj (k:Int):Int:=if k=1\/k=2 then 0 else 2
theorem Gk (k:Int) (w:World):Calls Tryz.prog 209 #[U zd k] w fun e w'=>e=zk (U zd (Dj k))/\w'=w:=by
 by_cases h1:k=1
 ·subst h1
  go_enter Tryz.func209,Tryz.ntmps209
  go_wp2
  go_ret
  exact ⟨rfl,rfl⟩
 ·by_cases h2:k=2
  ·subst h2
   go_enter Tryz.func209,Tryz.ntmps209
   go_wp2
   go_ret
   exact ⟨rfl,rfl⟩
  ·have b1:(k == 1)=false:=by simpa using h1
   have b2:(k == 2)=false:=by simpa using h2
   go_enter Tryz.func209,Tryz.ntmps209
   go_wp2
   go_ret
   exact ⟨by simp [Dj,h1,h2],rfl⟩
theorem Eo (vars:Int):∀ (l m:List D),BN vars (l++m)=if BN vars l=0 then BN vars m else BN vars l
 | [],m=>by simp [BN]
 | a::l,m=>by
  rw [List.cons_append,BN,BN]
  split
  ·exact Eo vars l m
  ·rfl
def Fj (vars:Int) (k:Nat):List D->Int
 | []=>0
 | a::l=>if BN vars (Bn k a)=0 then Fj vars k l else BN vars (Bn k a)
theorem FN (vars:Int) (k:Nat):∀ l:List D,Fj vars k l=BN vars (l.flatMap (Bn k))
 | []=>rfl
 | a::l=>by rw [Fj,List.flatMap_cons,Eo,FN vars k l]
theorem I3 {vars:Int} {k:Nat} {l:List D} {j:Nat} (hj:j < l.length):Fj vars k (l.drop j)=if BN vars (Bn k l[j])=0 then Fj vars k (l.drop (j+1)) else BN vars (Bn k l[j]):=by
 rw [List.drop_eq_getElem_cons hj]
 rfl
theorem Ku (vars kd n:Int) (dl cap:Nat) (ao:Option Addr) (w:World) (v0:0<=vars) (v1:vars<=9223372036854775807) (HL:dl<=9223372036854775807) (hkd:Cp kd) (hn:Cp n) (hE:CS vars kd n dl≠0) :
  Calls Tryz.prog 163 #[zh #[U zd kd,U zd n,O ao dl cap],U zd vars] w fun e w'=>e=zk (U zd (CS vars kd n dl))/\Ov w w':=by
 have hbel:Ov w (w.alloc (ze #[U zd kd,U zd n,O ao dl cap] 94)):=bA w _
 have KA:=Aa fun W=>Gk kd W
 obtain ⟨kl,ku⟩:=hkd
 obtain ⟨nl,nu⟩:=hn
 by_cases c1:kd < 1\/7 < kd
 ·have hr:CS vars kd n dl=7:=by unfold CS;rw [if_pos (by omega)]
  rw [hr]
  clear hr hE
  rcases c1 with c1 | c1
  ·go_enter Tryz.func163,Tryz.ntmps163
   go_wp2_with fail
   go_ret
   exact ⟨rfl,hbel⟩
  ·have c0:¬ kd < 1:=by omega
   go_enter Tryz.func163,Tryz.ntmps163
   go_wp2_with fail
   go_ret
   exact ⟨rfl,hbel⟩
 ·have c2:1<=kd:=by omega
  have c3:kd<=7:=by omega
  clear c1
  obtain ⟨e0,e1,e2⟩:=rc3 (CU w [U zd kd,U zd n,O ao dl cap] 94)
  by_cases c4:(dl:Int)=Dj kd
  ·by_cases c5:kd=1
   ·subst c5
    have c6:dl=0:=by simpa [Dj] using c4
    subst c6
    have ka:Dj 1=0:=rfl
    rw [ka] at KA
    have hr:CS vars 1 n 0=3/\(n < -9999999\/9999999 < n):=by
     unfold CS at hE ⊢
     rw [if_neg (by omega),if_neg (by omega)] at hE ⊢
     by_cases q:n < -9999999\/9999999 < n
     ·exact ⟨by rw [if_pos (by omega)],q⟩
     ·rw [if_neg (by omega),if_neg (by omega)] at hE
      exact absurd rfl hE
    obtain ⟨hr,c5⟩:=hr
    rw [hr]
    clear hr hE c4 ka
    rcases c5 with c5 | c5
    ·go_enter Tryz.func163,Tryz.ntmps163
     go_wp2_with fail
     go_region_held3 (fun W=>W.cell? ⟨w.heap.size,0,none⟩=some (U zd 1)/\W.cell? ⟨w.heap.size,1,none⟩=some (U zd n)/\W.cell? ⟨w.heap.size,2,none⟩=some (O ao 0 cap)/\Ov w W) (first | assumption | exact ⟨e0,e1,e2,below_drewN hbel 1⟩ | fail) (first | (go_at_call 209;refine (KA.o _).mono ?_;rintro e wp ⟨rfl,rfl⟩))
     obtain ⟨g0,g1,g2,hB⟩:=(by assumption:_/\_/\_/\Below _ _ _)
     go_wp2_with fail
     go_ret
     exact ⟨rfl,hB⟩
    ·have c6:¬ n < -9999999:=by omega
     go_enter Tryz.func163,Tryz.ntmps163
     go_wp2_with fail
     go_region_held3 (fun W=>W.cell? ⟨w.heap.size,0,none⟩=some (U zd 1)/\W.cell? ⟨w.heap.size,1,none⟩=some (U zd n)/\W.cell? ⟨w.heap.size,2,none⟩=some (O ao 0 cap)/\Ov w W) (first | assumption | exact ⟨e0,e1,e2,below_drewN hbel 1⟩ | fail) (first | (go_at_call 209;refine (KA.o _).mono ?_;rintro e wp ⟨rfl,rfl⟩))
     obtain ⟨g0,g1,g2,hB⟩:=(by assumption:_/\_/\_/\Below _ _ _)
     go_wp2_with fail
     go_ret
     exact ⟨rfl,hB⟩
   ·by_cases c7:kd=2
    ·subst c7
     have c6:dl=0:=by simpa [Dj] using c4
     subst c6
     have ka:Dj 2=0:=rfl
     rw [ka] at KA
     have hr:CS vars 2 n 0=5/\(n < 0\/vars<=n):=by
      unfold CS at hE ⊢
      rw [if_neg (by omega),if_neg (by omega),if_neg (by omega)] at hE ⊢
      by_cases q:n < 0\/vars<=n
      ·exact ⟨by rw [if_pos (by omega)],q⟩
      ·rw [if_neg (by omega)] at hE
       exact absurd rfl hE
     obtain ⟨hr,c5⟩:=hr
     rw [hr]
     clear hr hE c4 ka
     rcases c5 with c5 | c5
     ·go_enter Tryz.func163,Tryz.ntmps163
      go_wp2_with fail
      go_region_held3 (fun W=>W.cell? ⟨w.heap.size,0,none⟩=some (U zd 2)/\W.cell? ⟨w.heap.size,1,none⟩=some (U zd n)/\W.cell? ⟨w.heap.size,2,none⟩=some (O ao 0 cap)/\Ov w W) (first | assumption | exact ⟨e0,e1,e2,below_drewN hbel 1⟩ | fail) (first | (go_at_call 209;refine (KA.o _).mono ?_;rintro e wp ⟨rfl,rfl⟩))
      obtain ⟨g0,g1,g2,hB⟩:=(by assumption:_/\_/\_/\Below _ _ _)
      go_wp2_with fail
      go_ret
      exact ⟨rfl,hB⟩
     ·have c6:¬ n < 0:=by omega
      go_enter Tryz.func163,Tryz.ntmps163
      go_wp2_with fail
      go_region_held3 (fun W=>W.cell? ⟨w.heap.size,0,none⟩=some (U zd 2)/\W.cell? ⟨w.heap.size,1,none⟩=some (U zd n)/\W.cell? ⟨w.heap.size,2,none⟩=some (O ao 0 cap)/\Ov w W) (first | assumption | exact ⟨e0,e1,e2,below_drewN hbel 1⟩ | fail) (first | (go_at_call 209;refine (KA.o _).mono ?_;rintro e wp ⟨rfl,rfl⟩))
      obtain ⟨g0,g1,g2,hB⟩:=(by assumption:_/\_/\_/\Below _ _ _)
      go_wp2_with fail
      go_ret
      exact ⟨rfl,hB⟩
    ·have ka:Dj kd=2:=by unfold Dj;rw [if_neg (by omega)]
     rw [ka] at KA c4
     have c8:dl=2:=by omega
     subst c8
     have hr:CS vars kd n 2=3/\n≠0:=by
      unfold CS at hE ⊢
      rw [if_neg (by omega),if_neg (by omega)] at hE ⊢
      by_cases q:n=0
      ·rw [if_neg (by omega),if_neg (by omega)] at hE
       exact absurd rfl hE
      ·exact ⟨by rw [if_pos (by omega)],q⟩
     obtain ⟨hr,c9⟩:=hr
     rw [hr]
     clear hr hE c4 ka
     go_enter Tryz.func163,Tryz.ntmps163
     go_wp2_with fail
     go_region_held3 (fun W=>W.cell? ⟨w.heap.size,0,none⟩=some (U zd kd)/\W.cell? ⟨w.heap.size,1,none⟩=some (U zd n)/\W.cell? ⟨w.heap.size,2,none⟩=some (O ao 2 cap)/\Ov w W) (first | assumption | exact ⟨e0,e1,e2,below_drewN hbel 1⟩ | fail) (first | (go_at_call 209;refine (KA.o _).mono ?_;rintro e wp ⟨rfl,rfl⟩))
     obtain ⟨g0,g1,g2,hB⟩:=(by assumption:_/\_/\_/\Below _ _ _)
     go_wp2_with fail
     go_ret
     exact ⟨rfl,hB⟩
  ·have hr:CS vars kd n dl=1:=by
    unfold CS
    unfold Dj at c4
    rw [if_neg (by omega)]
    split at c4
    ·rw [if_pos (by omega)]
    ·rw [if_pos (by omega)]
   rw [hr]
   clear hr hE
   go_enter Tryz.func163,Tryz.ntmps163
   go_wp2_with fail
   go_region_held3 (fun W=>W.cell? ⟨w.heap.size,0,none⟩=some (U zd kd)/\W.cell? ⟨w.heap.size,1,none⟩=some (U zd n)/\W.cell? ⟨w.heap.size,2,none⟩=some (O ao dl cap)/\Ov w W) (first | assumption | exact ⟨e0,e1,e2,below_drewN hbel 1⟩ | fail) (first | (go_at_call 209;refine (KA.o _).mono ?_;rintro e wp ⟨rfl,rfl⟩))
   obtain ⟨g0,g1,g2,hB⟩:=(by assumption:_/\_/\_/\Below _ _ _)
   go_wp2_with fail
   go_ret
   exact ⟨rfl,hB⟩
theorem Kt (vars kd n:Int) (cap:Nat) (ao:Option Addr) (w:World) (v0:0<=vars) (v1:vars<=9223372036854775807) (hE:CS vars kd n 0=0) :
  Calls Tryz.prog 163 #[zh #[U zd kd,U zd n,O ao 0 cap],U zd vars] w fun e w'=>e=zk (U zd 0)/\Ov w w':=by
 have KA:=Aa fun W=>Gk kd W
 rcases Fc hE with ⟨rfl,c1,c2⟩ | ⟨rfl,c1,c2⟩ | ⟨_,_,c3⟩
 ·have hbel:Ov w (w.alloc (ze #[U zd 1,U zd n,O ao 0 cap] 94)):=bA w _
  obtain ⟨e0,e1,e2⟩:=rc3 (CU w [U zd 1,U zd n,O ao 0 cap] 94)
  have ka:Dj 1=0:=rfl
  rw [ka] at KA
  clear hE ka
  have c3:¬ n < -9999999:=by omega
  have c4:¬ 9999999 < n:=by omega
  go_enter Tryz.func163,Tryz.ntmps163
  go_wp2_with fail
  go_region_held3 (fun W=>W.cell? ⟨w.heap.size,0,none⟩=some (U zd 1)/\W.cell? ⟨w.heap.size,1,none⟩=some (U zd n)/\W.cell? ⟨w.heap.size,2,none⟩=some (O ao 0 cap)/\Ov w W) (first | assumption | exact ⟨e0,e1,e2,below_drewN hbel 1⟩ | fail) (first | (go_at_call 209;refine (KA.o _).mono ?_;rintro e wp ⟨rfl,rfl⟩))
  obtain ⟨g0,g1,g2,hB⟩:=(by assumption:_/\_/\_/\Below _ _ _)
  go_wp2_with fail
  go_loopw [67] (fun i wr=>i=U zd 0/\Ov w wr) (fun _ _=>0)
  case atStart=>exact ⟨rfl,hB⟩
  case round=>
   obtain ⟨rfl,hB2⟩:=hrel
   go_wp2_with fail
   go_ret
   exact ⟨rfl,hB2⟩
 ·have hbel:Ov w (w.alloc (ze #[U zd 2,U zd n,O ao 0 cap] 94)):=bA w _
  obtain ⟨e0,e1,e2⟩:=rc3 (CU w [U zd 2,U zd n,O ao 0 cap] 94)
  have ka:Dj 2=0:=rfl
  rw [ka] at KA
  clear hE ka
  have c3:¬ n < 0:=by omega
  have c4:¬ vars<=n:=by omega
  go_enter Tryz.func163,Tryz.ntmps163
  go_wp2_with fail
  go_region_held3 (fun W=>W.cell? ⟨w.heap.size,0,none⟩=some (U zd 2)/\W.cell? ⟨w.heap.size,1,none⟩=some (U zd n)/\W.cell? ⟨w.heap.size,2,none⟩=some (O ao 0 cap)/\Ov w W) (first | assumption | exact ⟨e0,e1,e2,below_drewN hbel 1⟩ | fail) (first | (go_at_call 209;refine (KA.o _).mono ?_;rintro e wp ⟨rfl,rfl⟩))
  obtain ⟨g0,g1,g2,hB⟩:=(by assumption:_/\_/\_/\Below _ _ _)
  go_wp2_with fail
  go_loopw [67] (fun i wr=>i=U zd 0/\Ov w wr) (fun _ _=>0)
  case atStart=>exact ⟨rfl,hB⟩
  case round=>
   obtain ⟨rfl,hB2⟩:=hrel
   go_wp2_with fail
   go_ret
   exact ⟨rfl,hB2⟩
 ·omega
theorem L6 (vars:Int) (v0:0<=vars) (v1:vars<=9223372036854775807):∀ (k:Nat) (cs:List Value) (d:D) (w:World),RX w k cs d ->
  Calls Tryz.prog 163 #[.agg cs.toArray,U zd vars] w fun e w'=>e=zk (U zd (BN vars (Bn k d)))/\Ov w w':=by
 intro k
 induction k with
 | zero=>intro cs d w h;exact h.elim
 | succ k ih=>
  intro cs d w h
  obtain ⟨kd,n,v,ds,rfl,rfl,hkd,hn,hlen,ao,cap,rfl,hc⟩:=h
  have hspec:BN vars (Bn (k+1) (xD kd n ds))=if CS vars kd n ds.length=0 then Fj vars k ds else CS vars kd n ds.length:=by
   rw [FN]
   rfl
  rw [hspec]
  show Calls Tryz.prog 163 #[zh #[U zd kd,U zd n,O ao ds.length cap],U zd vars] w _
  by_cases hE:CS vars kd n ds.length=0
  ·rw [if_pos hE]
   have hz:=Fc hE
   cases ds with
   | nil=>exact Kt vars kd n cap ao w v0 v1 hE
   | cons d0 dr=>
    have hk3:3<=kd/\kd<=7/\(d0::dr).length=2/\n=0:=by
     rcases hz with ⟨rfl,_,_⟩ | ⟨rfl,_,_⟩ | ⟨z1,z2,z3⟩
     ·exfalso
      unfold CS at hE
      rw [if_neg (by omega),if_pos (by simp)] at hE
      omega
     ·exfalso
      unfold CS at hE
      rw [if_neg (by omega),if_pos (by simp)] at hE
      omega
     ·refine ⟨z1,z2,z3,?_⟩
      rw [z3] at hE
      unfold CS at hE
      rw [if_neg (by omega),if_neg (by omega)] at hE
      by_cases q:n=0
      ·exact q
      ·rw [if_pos (by omega)] at hE
       omega
    obtain ⟨k1,k2,z3,rfl⟩:=hk3
    obtain ⟨ds,hds⟩:=nm (d0::dr)
    rw [<-hds] at hc z3 ⊢
    rw [z3]
    have HC:=Aa hc
    have IH:=Aa ih
    have KA:=Aa fun W=>Gk kd W
    have ka:Dj kd=2:=by unfold Dj;rw [if_neg (by omega)]
    rw [ka] at KA
    have hbel:Ov w (w.alloc (ze #[U zd kd,U zd 0,O ao 2 cap] 94)):=bA w _
    obtain ⟨e0,e1,e2⟩:=rc3 (CU w [U zd kd,U zd 0,O ao 2 cap] 94)
    have n1:kd≠1:=by omega
    have n2:kd≠2:=by omega
    obtain ⟨R,hR⟩:=nm (Fj vars k ds)
    have HR:=Aa hR
    have HZ:=Aa z3
    rw [<-hR]
    clear hc ih hspec hE hz hlen hkd hn ka hds z3 hR
    go_enter Tryz.func163,Tryz.ntmps163
    go_wp2_with fail
    go_region_held3 (fun W=>W.cell? ⟨w.heap.size,0,none⟩=some (U zd kd)/\W.cell? ⟨w.heap.size,1,none⟩=some (U zd 0)/\W.cell? ⟨w.heap.size,2,none⟩=some (O ao 2 cap)/\Ov w W) (first | assumption | exact ⟨e0,e1,e2,below_drewN hbel 1⟩ | fail) (first | (go_at_call 209;refine (KA.o _).mono ?_;rintro e wp ⟨rfl,rfl⟩))
    obtain ⟨g0,g1,g2,hB⟩:=(by assumption:_/\_/\_/\Below _ _ _)
    go_wp2_with fail
    go_loopw [67] (fun i wr=>∃ (j:Nat),j<=2/\i=U zd j/\R=Fj vars k (ds.drop j)/\Ov w wr) (fun i _=>2 - (intOf i).toNat)
    case atStart=>exact ⟨0,Nat.zero_le _,rfl,HR.o,hB⟩
    case round=>
     clear hB g0 g1 g2
     obtain ⟨j,hj,rfl,hp,hB⟩:=hrel
     have HP:=Aa hp
     clear hp
     by_cases hjl:j < 2
     ·have hjd:j < ds.length:=by rw [HZ.o];exact hjl
      obtain ⟨b,off,rfl,hcl⟩:=HC.o (by rintro rfl;simp at hjd)
      obtain ⟨cs,hl3,hcs,hr⟩:=hcl j ds[j] (List.getElem?_eq_getElem hjd)
      obtain ⟨ao',cap',hcse⟩:=hr.form
      have hnext:=I3 (vars:=vars) (k:=k) hjd
      obtain ⟨dj,hdj⟩:=nm (ds[j])
      rw [<-hdj] at hnext hr hcse
      obtain ⟨kj,hkj⟩:=nm (AI dj)
      obtain ⟨nj,hnj⟩:=nm (Bc dj)
      obtain ⟨lj,hlj⟩:=nm ((AH dj).length)
      rw [<-hkj,<-hnj,<-hlj] at hcse
      subst hcse
      have q0:wr.cell? ⟨b,off+j*3,none⟩=_:=Ab hB _ _ (hcs 0 _ rfl)
      have q1:=Ab hB _ _ (hcs 1 _ rfl)
      have q2:=Ab hB _ _ (hcs 2 _ rfl)
      have hba:Ov wr (wr.alloc (ze #[U zd kj,U zd nj,O ao' lj cap'] 94)):=bA wr _
      have hBa:Ov w (wr.alloc (ze #[U zd kj,U zd nj,O ao' lj cap'] 94)):=hB.trans (hba.mono hB.size)
      have hcall:=IH.o _ dj _ (hr.over hBa)
      obtain ⟨r,hre⟩:=nm (BN vars (Bn k dj))
      rw [<-hre] at hcall hnext
      have HCALL:=Aa hcall
      have HN:=Aa hnext
      clear hcall hnext hre hkj hnj hlj hr hcs hcl hl3 hdj hjd
      by_cases hr0:r=0
      ·subst hr0
       go_wp2_with fail
       refine (HCALL.o).mono ?_
       rintro e w1 ⟨rfl,hb1⟩
       have hB':Ov w w1:=hBa.trans (hb1.mono hBa.size)
       clear q0 q1 q2 hB hb1 HCALL hba hBa
       go_wp2_with fail
       exact ⟨⟨j+1,by omega,by go_num,by rw [HP.o,HN.o];rfl,hB'⟩,by simp [intOf];omega⟩
      ·have hd:R=r:=by rw [HP.o,HN.o,if_neg hr0]
       subst hd
       clear HP HN HR
       go_wp2_with fail
       refine (HCALL.o).mono ?_
       rintro e w1 ⟨rfl,hb1⟩
       have hB':Ov w w1:=hBa.trans (hb1.mono hBa.size)
       clear q0 q1 q2 hB hb1 HCALL hba hBa
       go_wp2_with fail
       go_ret
       exact ⟨rfl,hB'⟩
     ·have hd:R=0:=by
       rw [HP.o,List.drop_eq_nil_of_le (by rw [HZ.o];omega)]
       rfl
      subst hd
      clear HP HR
      go_wp2_with fail
      go_ret
      exact ⟨rfl,hB⟩
  ·rw [if_neg hE]
   exact Ku vars kd n ds.length cap ao w v0 v1 hlen hkd hn hE
theorem check_any (k:Nat) (cs:List Value) (d) (w:World) (vars:Int) (v0:0<=vars) (v1:vars<=9223372036854775807) (h:RX w k cs d) :
  Calls Tryz.prog 102 #[.agg cs.toArray,U zd vars] w fun e w'=>e=zk (U zd (A2 vars k d))/\Ov w w':=by
 have K1:=Aa fun W hB=>Mc k cs d W 15 (h.over hB) (by omega) (by omega)
 have K2:=Aa fun W hB=>L6 vars v0 v1 k cs d W (h.over hB)
 obtain ⟨ao,cap,rfl⟩:=h.form
 obtain ⟨kd,hkd⟩:=nm (AI d)
 obtain ⟨n,hn⟩:=nm (Bc d)
 obtain ⟨dl,hdl⟩:=nm ((AH d).length)
 rw [<-hkd,<-hn,<-hdl] at K1 K2 ⊢
 clear hkd hn hdl
 obtain ⟨p,hp⟩:=nm (BS k d 15)
 have hspec:A2 vars k d=if 15 < p then 2 else BN vars (Bn k d):=by rw [hp];rfl
 rw [<-hp] at K1
 have hple:=E2 k d 15 (by omega)
 rw [<-hp] at hple
 obtain ⟨z,hz⟩:=nm (15 - p)
 rw [<-hz] at K1
 clear hp
 obtain ⟨e0,e1,e2⟩:=rc3 (CU w [U zd kd,U zd n,O ao dl cap] 94)
 have hbel:Ov w (w.alloc (ze #[U zd kd,U zd n,O ao dl cap] 94)):=bA w _
 by_cases hq:15 < p
 ·rw [hspec,if_pos hq]
  have hneg:z < 0:=by omega
  clear hspec K2 hq hz hple
  show Calls Tryz.prog 102 #[zh #[U zd kd,U zd n,O ao dl cap],U zd vars] w _
  go_enter Tryz.func102,Tryz.ntmps102
  go_wp2_with fail
  refine (K1.o _ hbel).mono ?_
  rintro e w1 ⟨rfl,hb1⟩
  have hB1:Ov w w1:=hbel.trans (hb1.mono hbel.size)
  clear hb1 K1
  go_wp2_with fail
  go_ret
  exact ⟨rfl,hB1⟩
 ·rw [hspec,if_neg hq]
  have hneg:¬ z < 0:=by omega
  obtain ⟨R,hR⟩:=nm (BN vars (Bn k d))
  rw [<-hR] at K2 ⊢
  clear hspec hq hR hz hple
  show Calls Tryz.prog 102 #[zh #[U zd kd,U zd n,O ao dl cap],U zd vars] w _
  go_enter Tryz.func102,Tryz.ntmps102
  go_wp2_with fail
  refine (K1.o _ hbel).mono ?_
  rintro e w1 ⟨rfl,hb1⟩
  have hB1:Ov w w1:=hbel.trans (hb1.mono hbel.size)
  obtain ⟨g0,g1,g2⟩:=co3 hb1 e0 e1 e2
  clear hb1 K1 e0 e1 e2
  go_wp2_with fail
  refine (K2.o _ hB1).mono ?_
  rintro e w2 ⟨rfl,hb2⟩
  have hB2:Ov w w2:=hB1.trans (hb2.mono hB1.size)
  clear hb2 K2
  go_wp2_with fail
  go_ret
  exact ⟨rfl,hB2⟩
theorem Ky (at' why:Int) (w:World):Calls Tryz.prog 215 #[U zd at',zg true,U zd why] w fun e w'=>e=zk (zm #[])/\w'=w:=by
 go_enter Tryz.func215,Tryz.ntmps215
 go_wp2_with fail
 go_end0
 exact ⟨rfl,rfl⟩
theorem BL (why:Int) (w:World):Calls Tryz.prog 172 #[zg true,U zd why] w fun e w'=>e=zk (zm #[])/\w'=w:=by
 have K:=Aa fun W=>Ky 0 why W
 go_enter Tryz.func172,Tryz.ntmps172
 go_wp2_with fail
 refine (K.o _).mono ?_
 rintro e w1 ⟨rfl,rfl⟩
 go_wp2_with fail
 go_end0
 exact ⟨rfl,rfl⟩
theorem MQ (w:World):Calls Tryz.prog 171 #[U zd 0] w fun e w'=>e=zk (zm #[])/\w'=w:=by
 have K:=Aa fun W=>BL 0 W
 go_enter Tryz.func171,Tryz.ntmps171
 go_wp2_with fail
 refine (K.o _).mono ?_
 rintro e w1 ⟨rfl,rfl⟩
 go_wp2_with fail
 go_end0
 exact ⟨rfl,rfl⟩
theorem Bp (x m:Int) (w:World):Calls Tryz.prog 173 #[U zd x,U zd m] w fun e w'=>e=zk (zg (decide (0<=x/\x < m)))/\w'=w:=by
 by_cases h1:0<=x
 ·by_cases h2:x < m
  ·go_enter Tryz.func173,Tryz.ntmps173
   go_wp2
   go_ret
   exact ⟨by simp;omega,rfl⟩
  ·go_enter Tryz.func173,Tryz.ntmps173
   go_wp2
   go_ret
   exact ⟨by simp;omega,rfl⟩
 ·go_enter Tryz.func173,Tryz.ntmps173
  go_wp2
  go_ret
  exact ⟨by simp;omega,rfl⟩
theorem Ac {w0 w1 w2:World} (h:Ov w0 w1) (h2:Ov w1 w2):Ov w0 w2:=h.trans (h2.mono h.size)
def CK:List Value:=[U zd 3,U zd 0,U zd 0,U zd 0,U zd 0,O none 0 0,O none 0 0,O none 0 0,O none 0 0,U zd 4,U zd 0,U zd 0,U zd 2,U zd 0,O none 0 0,O none 0 0,O none 0 0,O none 0 0]
def Ae (cs:List Value) (w:World) (b:Nat):Prop:=∀ j u,cs[j]? = some u->w.cell? ⟨b,j,none⟩=some u
theorem Ae.over {cs:List Value} {w w':World} {b:Nat} (h:Ae cs w b) (hB:Ov w w'):Ae cs w' b:=fun j u hu=>Ab hB _ _ (h j u hu)
abbrev DX (bi bo bv bm:Nat):Value:=zh #[U zd 1,O none 0 0,O none 0 0,O (some ⟨bi,0,none⟩) 1 1,O (some ⟨bo,0,none⟩) 1 1,O (some ⟨bv,0,none⟩) 1 1,O none 0 0,O (some ⟨bm,0,none⟩) 2 2]
theorem Tryz.infoL:(Tryz.prog.info? 39).map (fun i=>(i.zero,i.size,i.bytes))=some (some (zh #[O none 0 0,O none 0 0]),2,48):=by kernel_rfl
theorem Ae.new (cs:List Value) (t:Nat) (w:World):Ae cs (w.alloc (.cells cs.toArray t)) w.heap.size:=fun j u hu=>by
 rw [Lib.cell_of_heap (heap_alloc_new w _)]
 simpa using hu
structure D7 (bi bo bv bm:Nat) (w:World):Prop where
 ins:Ae [O none 0 0,O none 0 0] w bi
 outs:Ae [O none 0 0,O none 0 0] w bo
 vars:Ae [zg false,O none 0 0,O none 0 0] w bv
 main:Ae CK w bm
theorem D7.over {bi bo bv bm:Nat} {w w':World} (h:D7 bi bo bv bm w) (hB:Ov w w'):D7 bi bo bv bm w':=
 ⟨h.ins.over hB,h.outs.over hB,h.vars.over hB,h.main.over hB⟩
theorem JF (p q:Addr) (w:World) :
  CallsD Tryz.prog 170 #[zj (some p),zj (some q)] .returning w fun e u' w'=>e=zk (zm #[])/\u'=.returning/\w'=w:=by
 refine callsD_of_wpS Tryz.func170 rfl fun c₀ cs hu=>?_
 apply wpS_seq
 apply wpS_region
 simp [wpOpsS,go_sem,recoverD,hu,Tryz.ntmps170,Exit.thenS]
 refine wpS_of_wp ?_
 change Code.wp Tryz.prog _ _ { tmps:=#[zj (some p),zj (some q),.nilIface,undef,.nilIface,undef,undef,undef,undef,undef,undef,undef,undef],defers:=[] } w
 go_wp2
 cases c₀
 simp_all [bodyPostS,results,Tryz.results170]
end Go.Proofs.YtfffpjkcfnekaaaGreat.Ex
