/- The program's own count of an expression's parts. -/
import Derived.Test.YtfffpjkcfnekaaaGreatH01
import Derived.Deep.SlicePairs
import Derived.Deep.QuietTactic
import Derived.BigQuiet
import Derived.Defers
import Derived.Recover
set_option linter.unusedVariables false
set_option maxHeartbeats 8000000
set_option maxRecDepth 100000
namespace Go.Proofs.YtfffpjkcfnekaaaGreat.Ex
open Go.RowKit
open Go.Value renaming slice -> O, int -> zd, bool -> ze, agg -> zg, pointer -> zi, tuple -> zj
open Go.IntKind renaming i64 -> U
open Go.Obj renaming cells -> zf
open Go.Ending renaming returned -> zh
theorem JS:∀ (k:Nat) (cs:List Value) (d:D) (w:World) (m:Int),RX w k cs d->0<=m->m<=15 ->
  Calls Tryz.prog 162 #[.agg cs.toArray,zd U m] w fun e w'=>e=zh (zd U (m - A4 k d m))/\Ov w w':=by
 intro k
 induction k with
 | zero=>intro cs d w m h;exact h.elim
 | succ k ih=>
  intro cs d w m h m0 m1
  obtain ⟨kd,n,v,ds,rfl,rfl,hkd,hn,hlen,ao,cap,rfl,hc⟩:=h
  have HC:=Aa hc
  have IH:=Aa ih
  have HL:ds.length<=9223372036854775807:=hlen
  have hspec:A4 (k+1) (xD kd n ds) m=AO (A4 k) m ds 1:=rfl
  rw [hspec]
  have hbel:Ov w (w.alloc (zf #[zd U kd,zd U n,O ao ds.length cap] 94)):=bA w _
  clear hc ih hspec hkd hn hlen
  show Calls Tryz.prog 162 #[zg #[zd U kd,zd U n,O ao ds.length cap],zd U m] w _
  go_enter Tryz.func162,Tryz.ntmps162
  go_wp2_with fail
  go_loopw [1,12] (fun c i wr=>∃ (j:Nat) (t:Int),j<=ds.length/\i=zd U j/\c=zd U (m - t)/\1<=t/\t<=m+1/\AO (A4 k) m ds 1=AO (A4 k) m (ds.drop j) t/\Ov w wr) (fun _ i _=>ds.length - (intOf i).toNat)
  case atStart=>exact ⟨0,1,Nat.zero_le _,rfl,rfl,by omega,by omega,rfl,hbel⟩
  case round=>
   clear hbel
   obtain ⟨j,t,hj,rfl,rfl,t1,t2,hp,hB⟩:=hrel
   have HP:=Aa hp
   clear hp
   by_cases hjl:j < ds.length
   ·obtain ⟨b,off,rfl,hcl⟩:=HC.o (by rintro rfl;simp at hjl)
    obtain ⟨cs,hl3,hcs,hr⟩:=hcl j ds[j] (List.getElem?_eq_getElem hjl)
    obtain ⟨ao',cap',hcse⟩:=hr.form
    have hnext:=fun h=>DE (f:=A4 k) (m:=m) (n:=t) hjl h
    have hle:=fun h=>Dl k ds[j] (m - t) h
    obtain ⟨dj,hdj⟩:=nm (ds[j])
    rw [<-hdj] at hnext hle hr hcse
    obtain ⟨kj,hkj⟩:=nm (Ap dj)
    obtain ⟨nj,hnj⟩:=nm (AA dj)
    obtain ⟨lj,hlj⟩:=nm ((Ar dj).length)
    rw [<-hkj,<-hnj,<-hlj] at hcse
    subst hcse
    have q0:wr.cell? ⟨b,off+j*3,none⟩=_:=Ab hB _ _ (hcs 0 _ rfl)
    have q1:=Ab hB _ _ (hcs 1 _ rfl)
    have q2:=Ab hB _ _ (hcs 2 _ rfl)
    have hba:Ov wr (wr.alloc (zf #[zd U kj,zd U nj,O ao' lj cap'] 94)):=bA wr _
    have hBa:Ov w (wr.alloc (zf #[zd U kj,zd U nj,O ao' lj cap'] 94)):=hB.trans (hba.mono hB.size)
    by_cases htm:t<=m
    ·have hnext:=hnext htm
     have hle:=hle (by omega)
     have hcall:=IH.o _ dj _ (m - t) (hr.over hBa) (by omega) (by omega)
     obtain ⟨r,hre⟩:=nm (A4 k dj (m - t))
     rw [<-hre] at hcall hnext hle
     have HCALL:=Aa hcall
     have HN:=Aa hnext
     clear hcall hnext hre hkj hnj hlj hr hcs hcl hl3 hdj
     go_wp2_with fail
     refine (HCALL.o).mono ?_
     rintro e w1 ⟨rfl,hb1⟩
     have hB':Ov w w1:=hBa.trans (hb1.mono hBa.size)
     clear q0 q1 q2 hB hb1 HCALL hba hBa
     go_wp2_with fail
     exact ⟨⟨j+1,t+r,by omega,by go_num,by go_num,by omega,by omega,by rw [HP.o,HN.o],hB'⟩,by simp [intOf];omega⟩
    ·have hd:=DF (A4 k) m (ds.drop j) t (by omega)
     have HD:=Aa hd
     have hneg:m - t < 0:=by omega
     clear hd hnext hle hr hcs hcl hl3 hdj hkj hnj hlj htm
     go_wp2_with fail
     go_ret
     exact ⟨by rw [HP.o,HD.o];rfl,hBa⟩
   ·have hd:AO (A4 k) m (ds.drop j) t=t:=by rw [List.drop_eq_nil_of_le (by omega)];rfl
    have HD:=Aa hd
    clear hd
    go_wp2_with fail
    go_ret
    exact ⟨by rw [HP.o,HD.o];rfl,hB⟩
def CL (k:Int):Int:=if k=1\/k=2 then 0 else 2
theorem Fa (k:Int) (w:World):Calls Tryz.prog 209 #[zd U k] w fun e w'=>e=zh (zd U (CL k))/\w'=w:=by
 by_cases h1:k=1
 ·subst h1
  go_enter Tryz.func209,Tryz.ntmps209
  go_wp2
  go_ret
  exact ⟨rfl,rfl⟩
 ·by_cases h2:k=2
  ·subst h2
   go_enter Tryz.func209,Tryz.ntmps209
   go_wp2
   go_ret
   exact ⟨rfl,rfl⟩
  ·have b1:(k == 1)=false:=by simpa using h1
   have b2:(k == 2)=false:=by simpa using h2
   go_enter Tryz.func209,Tryz.ntmps209
   go_wp2
   go_ret
   exact ⟨by simp [CL,h1,h2],rfl⟩
theorem DC (vars:Int):∀ (l m:List D),AW vars (l++m)=if AW vars l=0 then AW vars m else AW vars l
 | [],m=>by simp [AW]
 | a::l,m=>by
  rw [List.cons_append,AW,AW]
  split
  ·exact DC vars l m
  ·rfl
def Em (vars:Int) (k:Nat):List D->Int
 | []=>0
 | a::l=>if AW vars (AB k a)=0 then Em vars k l else AW vars (AB k a)
theorem EK (vars:Int) (k:Nat):∀ l:List D,Em vars k l=AW vars (l.flatMap (AB k))
 | []=>rfl
 | a::l=>by rw [Em,List.flatMap_cons,DC,EK vars k l]
theorem G5 {vars:Int} {k:Nat} {l:List D} {j:Nat} (hj:j < l.length):Em vars k (l.drop j)=if AW vars (AB k l[j])=0 then Em vars k (l.drop (j+1)) else AW vars (AB k l[j]):=by
 rw [List.drop_eq_getElem_cons hj]
 rfl
theorem IM (vars kd n:Int) (dl cap:Nat) (ao:Option Addr) (w:World) (v0:0<=vars) (v1:vars<=9223372036854775807) (HL:dl<=9223372036854775807) (hkd:Bn kd) (hn:Bn n) (hE:Be vars kd n dl≠0) :
  Calls Tryz.prog 163 #[zg #[zd U kd,zd U n,O ao dl cap],zd U vars] w fun e w'=>e=zh (zd U (Be vars kd n dl))/\Ov w w':=by
 have hbel:Ov w (w.alloc (zf #[zd U kd,zd U n,O ao dl cap] 94)):=bA w _
 have KA:=Aa fun W=>Fa kd W
 obtain ⟨kl,ku⟩:=hkd
 obtain ⟨nl,nu⟩:=hn
 by_cases c1:kd < 1\/7 < kd
 ·have hr:Be vars kd n dl=7:=by unfold Be;rw [if_pos (by omega)]
  rw [hr]
  clear hr hE
  rcases c1 with c1 | c1
  ·go_enter Tryz.func163,Tryz.ntmps163
   go_wp2_with fail
   go_ret
   exact ⟨rfl,hbel⟩
  ·have c0:¬ kd < 1:=by omega
   go_enter Tryz.func163,Tryz.ntmps163
   go_wp2_with fail
   go_ret
   exact ⟨rfl,hbel⟩
 ·have c2:1<=kd:=by omega
  have c3:kd<=7:=by omega
  clear c1
  obtain ⟨e0,e1,e2⟩:=rc3 (Ay w [zd U kd,zd U n,O ao dl cap] 94)
  by_cases c4:(dl:Int)=CL kd
  ·by_cases c5:kd=1
   ·subst c5
    have c6:dl=0:=by simpa [CL] using c4
    subst c6
    have ka:CL 1=0:=rfl
    rw [ka] at KA
    have hr:Be vars 1 n 0=3/\(n < -9999999\/9999999 < n):=by
     unfold Be at hE ⊢
     rw [if_neg (by omega),if_neg (by omega)] at hE ⊢
     by_cases q:n < -9999999\/9999999 < n
     ·exact ⟨by rw [if_pos (by omega)],q⟩
     ·rw [if_neg (by omega),if_neg (by omega)] at hE
      exact absurd rfl hE
    obtain ⟨hr,c5⟩:=hr
    rw [hr]
    clear hr hE c4 ka
    rcases c5 with c5 | c5
    ·go_enter Tryz.func163,Tryz.ntmps163
     go_wp2_with fail
     go_region_held3 (fun W=>W.cell? ⟨w.heap.size,0,none⟩=some (zd U 1)/\W.cell? ⟨w.heap.size,1,none⟩=some (zd U n)/\W.cell? ⟨w.heap.size,2,none⟩=some (O ao 0 cap)/\Ov w W) (first | assumption | exact ⟨e0,e1,e2,below_drewN hbel 1⟩ | fail) (first | (go_at_call 209;refine (KA.o _).mono ?_;rintro e wp ⟨rfl,rfl⟩))
     obtain ⟨g0,g1,g2,hB⟩:=(by assumption:_/\_/\_/\Below _ _ _)
     go_wp2_with fail
     go_ret
     exact ⟨rfl,hB⟩
    ·have c6:¬ n < -9999999:=by omega
     go_enter Tryz.func163,Tryz.ntmps163
     go_wp2_with fail
     go_region_held3 (fun W=>W.cell? ⟨w.heap.size,0,none⟩=some (zd U 1)/\W.cell? ⟨w.heap.size,1,none⟩=some (zd U n)/\W.cell? ⟨w.heap.size,2,none⟩=some (O ao 0 cap)/\Ov w W) (first | assumption | exact ⟨e0,e1,e2,below_drewN hbel 1⟩ | fail) (first | (go_at_call 209;refine (KA.o _).mono ?_;rintro e wp ⟨rfl,rfl⟩))
     obtain ⟨g0,g1,g2,hB⟩:=(by assumption:_/\_/\_/\Below _ _ _)
     go_wp2_with fail
     go_ret
     exact ⟨rfl,hB⟩
   ·by_cases c7:kd=2
    ·subst c7
     have c6:dl=0:=by simpa [CL] using c4
     subst c6
     have ka:CL 2=0:=rfl
     rw [ka] at KA
     have hr:Be vars 2 n 0=5/\(n < 0\/vars<=n):=by
      unfold Be at hE ⊢
      rw [if_neg (by omega),if_neg (by omega),if_neg (by omega)] at hE ⊢
      by_cases q:n < 0\/vars<=n
      ·exact ⟨by rw [if_pos (by omega)],q⟩
      ·rw [if_neg (by omega)] at hE
       exact absurd rfl hE
     obtain ⟨hr,c5⟩:=hr
     rw [hr]
     clear hr hE c4 ka
     rcases c5 with c5 | c5
     ·go_enter Tryz.func163,Tryz.ntmps163
      go_wp2_with fail
      go_region_held3 (fun W=>W.cell? ⟨w.heap.size,0,none⟩=some (zd U 2)/\W.cell? ⟨w.heap.size,1,none⟩=some (zd U n)/\W.cell? ⟨w.heap.size,2,none⟩=some (O ao 0 cap)/\Ov w W) (first | assumption | exact ⟨e0,e1,e2,below_drewN hbel 1⟩ | fail) (first | (go_at_call 209;refine (KA.o _).mono ?_;rintro e wp ⟨rfl,rfl⟩))
      obtain ⟨g0,g1,g2,hB⟩:=(by assumption:_/\_/\_/\Below _ _ _)
      go_wp2_with fail
      go_ret
      exact ⟨rfl,hB⟩
     ·have c6:¬ n < 0:=by omega
      go_enter Tryz.func163,Tryz.ntmps163
      go_wp2_with fail
      go_region_held3 (fun W=>W.cell? ⟨w.heap.size,0,none⟩=some (zd U 2)/\W.cell? ⟨w.heap.size,1,none⟩=some (zd U n)/\W.cell? ⟨w.heap.size,2,none⟩=some (O ao 0 cap)/\Ov w W) (first | assumption | exact ⟨e0,e1,e2,below_drewN hbel 1⟩ | fail) (first | (go_at_call 209;refine (KA.o _).mono ?_;rintro e wp ⟨rfl,rfl⟩))
      obtain ⟨g0,g1,g2,hB⟩:=(by assumption:_/\_/\_/\Below _ _ _)
      go_wp2_with fail
      go_ret
      exact ⟨rfl,hB⟩
    ·have ka:CL kd=2:=by unfold CL;rw [if_neg (by omega)]
     rw [ka] at KA c4
     have c8:dl=2:=by omega
     subst c8
     have hr:Be vars kd n 2=3/\n≠0:=by
      unfold Be at hE ⊢
      rw [if_neg (by omega),if_neg (by omega)] at hE ⊢
      by_cases q:n=0
      ·rw [if_neg (by omega),if_neg (by omega)] at hE
       exact absurd rfl hE
      ·exact ⟨by rw [if_pos (by omega)],q⟩
     obtain ⟨hr,c9⟩:=hr
     rw [hr]
     clear hr hE c4 ka
     go_enter Tryz.func163,Tryz.ntmps163
     go_wp2_with fail
     go_region_held3 (fun W=>W.cell? ⟨w.heap.size,0,none⟩=some (zd U kd)/\W.cell? ⟨w.heap.size,1,none⟩=some (zd U n)/\W.cell? ⟨w.heap.size,2,none⟩=some (O ao 2 cap)/\Ov w W) (first | assumption | exact ⟨e0,e1,e2,below_drewN hbel 1⟩ | fail) (first | (go_at_call 209;refine (KA.o _).mono ?_;rintro e wp ⟨rfl,rfl⟩))
     obtain ⟨g0,g1,g2,hB⟩:=(by assumption:_/\_/\_/\Below _ _ _)
     go_wp2_with fail
     go_ret
     exact ⟨rfl,hB⟩
  ·have hr:Be vars kd n dl=1:=by
    unfold Be
    unfold CL at c4
    rw [if_neg (by omega)]
    split at c4
    ·rw [if_pos (by omega)]
    ·rw [if_pos (by omega)]
   rw [hr]
   clear hr hE
   go_enter Tryz.func163,Tryz.ntmps163
   go_wp2_with fail
   go_region_held3 (fun W=>W.cell? ⟨w.heap.size,0,none⟩=some (zd U kd)/\W.cell? ⟨w.heap.size,1,none⟩=some (zd U n)/\W.cell? ⟨w.heap.size,2,none⟩=some (O ao dl cap)/\Ov w W) (first | assumption | exact ⟨e0,e1,e2,below_drewN hbel 1⟩ | fail) (first | (go_at_call 209;refine (KA.o _).mono ?_;rintro e wp ⟨rfl,rfl⟩))
   obtain ⟨g0,g1,g2,hB⟩:=(by assumption:_/\_/\_/\Below _ _ _)
   go_wp2_with fail
   go_ret
   exact ⟨rfl,hB⟩
theorem IL (vars kd n:Int) (cap:Nat) (ao:Option Addr) (w:World) (v0:0<=vars) (v1:vars<=9223372036854775807) (hE:Be vars kd n 0=0) :
  Calls Tryz.prog 163 #[zg #[zd U kd,zd U n,O ao 0 cap],zd U vars] w fun e w'=>e=zh (zd U 0)/\Ov w w':=by
 have KA:=Aa fun W=>Fa kd W
 rcases Dv hE with ⟨rfl,c1,c2⟩ | ⟨rfl,c1,c2⟩ | ⟨_,_,c3⟩
 ·have hbel:Ov w (w.alloc (zf #[zd U 1,zd U n,O ao 0 cap] 94)):=bA w _
  obtain ⟨e0,e1,e2⟩:=rc3 (Ay w [zd U 1,zd U n,O ao 0 cap] 94)
  have ka:CL 1=0:=rfl
  rw [ka] at KA
  clear hE ka
  have c3:¬ n < -9999999:=by omega
  have c4:¬ 9999999 < n:=by omega
  go_enter Tryz.func163,Tryz.ntmps163
  go_wp2_with fail
  go_region_held3 (fun W=>W.cell? ⟨w.heap.size,0,none⟩=some (zd U 1)/\W.cell? ⟨w.heap.size,1,none⟩=some (zd U n)/\W.cell? ⟨w.heap.size,2,none⟩=some (O ao 0 cap)/\Ov w W) (first | assumption | exact ⟨e0,e1,e2,below_drewN hbel 1⟩ | fail) (first | (go_at_call 209;refine (KA.o _).mono ?_;rintro e wp ⟨rfl,rfl⟩))
  obtain ⟨g0,g1,g2,hB⟩:=(by assumption:_/\_/\_/\Below _ _ _)
  go_wp2_with fail
  go_loopw [67] (fun i wr=>i=zd U 0/\Ov w wr) (fun _ _=>0)
  case atStart=>exact ⟨rfl,hB⟩
  case round=>
   obtain ⟨rfl,hB2⟩:=hrel
   go_wp2_with fail
   go_ret
   exact ⟨rfl,hB2⟩
 ·have hbel:Ov w (w.alloc (zf #[zd U 2,zd U n,O ao 0 cap] 94)):=bA w _
  obtain ⟨e0,e1,e2⟩:=rc3 (Ay w [zd U 2,zd U n,O ao 0 cap] 94)
  have ka:CL 2=0:=rfl
  rw [ka] at KA
  clear hE ka
  have c3:¬ n < 0:=by omega
  have c4:¬ vars<=n:=by omega
  go_enter Tryz.func163,Tryz.ntmps163
  go_wp2_with fail
  go_region_held3 (fun W=>W.cell? ⟨w.heap.size,0,none⟩=some (zd U 2)/\W.cell? ⟨w.heap.size,1,none⟩=some (zd U n)/\W.cell? ⟨w.heap.size,2,none⟩=some (O ao 0 cap)/\Ov w W) (first | assumption | exact ⟨e0,e1,e2,below_drewN hbel 1⟩ | fail) (first | (go_at_call 209;refine (KA.o _).mono ?_;rintro e wp ⟨rfl,rfl⟩))
  obtain ⟨g0,g1,g2,hB⟩:=(by assumption:_/\_/\_/\Below _ _ _)
  go_wp2_with fail
  go_loopw [67] (fun i wr=>i=zd U 0/\Ov w wr) (fun _ _=>0)
  case atStart=>exact ⟨rfl,hB⟩
  case round=>
   obtain ⟨rfl,hB2⟩:=hrel
   go_wp2_with fail
   go_ret
   exact ⟨rfl,hB2⟩
 ·omega
theorem Jz (vars:Int) (v0:0<=vars) (v1:vars<=9223372036854775807):∀ (k:Nat) (cs:List Value) (d:D) (w:World),RX w k cs d ->
  Calls Tryz.prog 163 #[.agg cs.toArray,zd U vars] w fun e w'=>e=zh (zd U (AW vars (AB k d)))/\Ov w w':=by
 intro k
 induction k with
 | zero=>intro cs d w h;exact h.elim
 | succ k ih=>
  intro cs d w h
  obtain ⟨kd,n,v,ds,rfl,rfl,hkd,hn,hlen,ao,cap,rfl,hc⟩:=h
  have hspec:AW vars (AB (k+1) (xD kd n ds))=if Be vars kd n ds.length=0 then Em vars k ds else Be vars kd n ds.length:=by
   rw [EK]
   rfl
  rw [hspec]
  show Calls Tryz.prog 163 #[zg #[zd U kd,zd U n,O ao ds.length cap],zd U vars] w _
  by_cases hE:Be vars kd n ds.length=0
  ·rw [if_pos hE]
   have hz:=Dv hE
   cases ds with
   | nil=>exact IL vars kd n cap ao w v0 v1 hE
   | cons d0 dr=>
    have hk3:3<=kd/\kd<=7/\(d0::dr).length=2/\n=0:=by
     rcases hz with ⟨rfl,_,_⟩ | ⟨rfl,_,_⟩ | ⟨z1,z2,z3⟩
     ·exfalso
      unfold Be at hE
      rw [if_neg (by omega),if_pos (by simp)] at hE
      omega
     ·exfalso
      unfold Be at hE
      rw [if_neg (by omega),if_pos (by simp)] at hE
      omega
     ·refine ⟨z1,z2,z3,?_⟩
      rw [z3] at hE
      unfold Be at hE
      rw [if_neg (by omega),if_neg (by omega)] at hE
      by_cases q:n=0
      ·exact q
      ·rw [if_pos (by omega)] at hE
       omega
    obtain ⟨k1,k2,z3,rfl⟩:=hk3
    obtain ⟨ds,hds⟩:=nm (d0::dr)
    rw [<-hds] at hc z3 ⊢
    rw [z3]
    have HC:=Aa hc
    have IH:=Aa ih
    have KA:=Aa fun W=>Fa kd W
    have ka:CL kd=2:=by unfold CL;rw [if_neg (by omega)]
    rw [ka] at KA
    have hbel:Ov w (w.alloc (zf #[zd U kd,zd U 0,O ao 2 cap] 94)):=bA w _
    obtain ⟨e0,e1,e2⟩:=rc3 (Ay w [zd U kd,zd U 0,O ao 2 cap] 94)
    have n1:kd≠1:=by omega
    have n2:kd≠2:=by omega
    obtain ⟨R,hR⟩:=nm (Em vars k ds)
    have HR:=Aa hR
    have HZ:=Aa z3
    rw [<-hR]
    clear hc ih hspec hE hz hlen hkd hn ka hds z3 hR
    go_enter Tryz.func163,Tryz.ntmps163
    go_wp2_with fail
    go_region_held3 (fun W=>W.cell? ⟨w.heap.size,0,none⟩=some (zd U kd)/\W.cell? ⟨w.heap.size,1,none⟩=some (zd U 0)/\W.cell? ⟨w.heap.size,2,none⟩=some (O ao 2 cap)/\Ov w W) (first | assumption | exact ⟨e0,e1,e2,below_drewN hbel 1⟩ | fail) (first | (go_at_call 209;refine (KA.o _).mono ?_;rintro e wp ⟨rfl,rfl⟩))
    obtain ⟨g0,g1,g2,hB⟩:=(by assumption:_/\_/\_/\Below _ _ _)
    go_wp2_with fail
    go_loopw [67] (fun i wr=>∃ (j:Nat),j<=2/\i=zd U j/\R=Em vars k (ds.drop j)/\Ov w wr) (fun i _=>2 - (intOf i).toNat)
    case atStart=>exact ⟨0,Nat.zero_le _,rfl,HR.o,hB⟩
    case round=>
     clear hB g0 g1 g2
     obtain ⟨j,hj,rfl,hp,hB⟩:=hrel
     have HP:=Aa hp
     clear hp
     by_cases hjl:j < 2
     ·have hjd:j < ds.length:=by rw [HZ.o];exact hjl
      obtain ⟨b,off,rfl,hcl⟩:=HC.o (by rintro rfl;simp at hjd)
      obtain ⟨cs,hl3,hcs,hr⟩:=hcl j ds[j] (List.getElem?_eq_getElem hjd)
      obtain ⟨ao',cap',hcse⟩:=hr.form
      have hnext:=G5 (vars:=vars) (k:=k) hjd
      obtain ⟨dj,hdj⟩:=nm (ds[j])
      rw [<-hdj] at hnext hr hcse
      obtain ⟨kj,hkj⟩:=nm (Ap dj)
      obtain ⟨nj,hnj⟩:=nm (AA dj)
      obtain ⟨lj,hlj⟩:=nm ((Ar dj).length)
      rw [<-hkj,<-hnj,<-hlj] at hcse
      subst hcse
      have q0:wr.cell? ⟨b,off+j*3,none⟩=_:=Ab hB _ _ (hcs 0 _ rfl)
      have q1:=Ab hB _ _ (hcs 1 _ rfl)
      have q2:=Ab hB _ _ (hcs 2 _ rfl)
      have hba:Ov wr (wr.alloc (zf #[zd U kj,zd U nj,O ao' lj cap'] 94)):=bA wr _
      have hBa:Ov w (wr.alloc (zf #[zd U kj,zd U nj,O ao' lj cap'] 94)):=hB.trans (hba.mono hB.size)
      have hcall:=IH.o _ dj _ (hr.over hBa)
      obtain ⟨r,hre⟩:=nm (AW vars (AB k dj))
      rw [<-hre] at hcall hnext
      have HCALL:=Aa hcall
      have HN:=Aa hnext
      clear hcall hnext hre hkj hnj hlj hr hcs hcl hl3 hdj hjd
      by_cases hr0:r=0
      ·subst hr0
       go_wp2_with fail
       refine (HCALL.o).mono ?_
       rintro e w1 ⟨rfl,hb1⟩
       have hB':Ov w w1:=hBa.trans (hb1.mono hBa.size)
       clear q0 q1 q2 hB hb1 HCALL hba hBa
       go_wp2_with fail
       exact ⟨⟨j+1,by omega,by go_num,by rw [HP.o,HN.o];rfl,hB'⟩,by simp [intOf];omega⟩
      ·have hd:R=r:=by rw [HP.o,HN.o,if_neg hr0]
       subst hd
       clear HP HN HR
       go_wp2_with fail
       refine (HCALL.o).mono ?_
       rintro e w1 ⟨rfl,hb1⟩
       have hB':Ov w w1:=hBa.trans (hb1.mono hBa.size)
       clear q0 q1 q2 hB hb1 HCALL hba hBa
       go_wp2_with fail
       go_ret
       exact ⟨rfl,hB'⟩
     ·have hd:R=0:=by
       rw [HP.o,List.drop_eq_nil_of_le (by rw [HZ.o];omega)]
       rfl
      subst hd
      clear HP HR
      go_wp2_with fail
      go_ret
      exact ⟨rfl,hB⟩
  ·rw [if_neg hE]
   exact IM vars kd n ds.length cap ao w v0 v1 hlen hkd hn hE
theorem check_any (k:Nat) (cs:List Value) (d) (w:World) (vars:Int) (v0:0<=vars) (v1:vars<=9223372036854775807) (h:RX w k cs d) :
  Calls Tryz.prog 102 #[.agg cs.toArray,zd U vars] w fun e w'=>e=zh (zd U (Am vars k d))/\Ov w w':=by
 have K1:=Aa fun W hB=>JS k cs d W 15 (h.over hB) (by omega) (by omega)
 have K2:=Aa fun W hB=>Jz vars v0 v1 k cs d W (h.over hB)
 obtain ⟨ao,cap,rfl⟩:=h.form
 obtain ⟨kd,hkd⟩:=nm (Ap d)
 obtain ⟨n,hn⟩:=nm (AA d)
 obtain ⟨dl,hdl⟩:=nm ((Ar d).length)
 rw [<-hkd,<-hn,<-hdl] at K1 K2 ⊢
 clear hkd hn hdl
 obtain ⟨p,hp⟩:=nm (A4 k d 15)
 have hspec:Am vars k d=if 15 < p then 2 else AW vars (AB k d):=by rw [hp];rfl
 rw [<-hp] at K1
 have hple:=Dl k d 15 (by omega)
 rw [<-hp] at hple
 obtain ⟨z,hz⟩:=nm (15 - p)
 rw [<-hz] at K1
 clear hp
 obtain ⟨e0,e1,e2⟩:=rc3 (Ay w [zd U kd,zd U n,O ao dl cap] 94)
 have hbel:Ov w (w.alloc (zf #[zd U kd,zd U n,O ao dl cap] 94)):=bA w _
 by_cases hq:15 < p
 ·rw [hspec,if_pos hq]
  have hneg:z < 0:=by omega
  clear hspec K2 hq hz hple
  show Calls Tryz.prog 102 #[zg #[zd U kd,zd U n,O ao dl cap],zd U vars] w _
  go_enter Tryz.func102,Tryz.ntmps102
  go_wp2_with fail
  refine (K1.o _ hbel).mono ?_
  rintro e w1 ⟨rfl,hb1⟩
  have hB1:Ov w w1:=hbel.trans (hb1.mono hbel.size)
  clear hb1 K1
  go_wp2_with fail
  go_ret
  exact ⟨rfl,hB1⟩
 ·rw [hspec,if_neg hq]
  have hneg:¬ z < 0:=by omega
  obtain ⟨R,hR⟩:=nm (AW vars (AB k d))
  rw [<-hR] at K2 ⊢
  clear hspec hq hR hz hple
  show Calls Tryz.prog 102 #[zg #[zd U kd,zd U n,O ao dl cap],zd U vars] w _
  go_enter Tryz.func102,Tryz.ntmps102
  go_wp2_with fail
  refine (K1.o _ hbel).mono ?_
  rintro e w1 ⟨rfl,hb1⟩
  have hB1:Ov w w1:=hbel.trans (hb1.mono hbel.size)
  obtain ⟨g0,g1,g2⟩:=co3 hb1 e0 e1 e2
  clear hb1 K1 e0 e1 e2
  go_wp2_with fail
  refine (K2.o _ hB1).mono ?_
  rintro e w2 ⟨rfl,hb2⟩
  have hB2:Ov w w2:=hB1.trans (hb2.mono hB1.size)
  clear hb2 K2
  go_wp2_with fail
  go_ret
  exact ⟨rfl,hB2⟩
theorem Dq (b:Bool) (w:World):Calls Tryz.prog 230 #[ze b] w fun e w'=>e=zh (zd U (if b then 1 else 0))/\w'=w:=by
 cases b
 ·go_enter Tryz.func230,Tryz.ntmps230
  go_wp2
  go_ret
  exact ⟨rfl,rfl⟩
 ·go_enter Tryz.func230,Tryz.ntmps230
  go_wp2
  go_ret
  exact ⟨rfl,rfl⟩
theorem Jm (z:Int):wrap64 (RowKit.wrap32 z)=wrap32 z:=by
 have h:=Dj z
 have e:RowKit.wrap32 z=wrap32 z:=by
  simp only [RowKit.wrap32,wrap32]
 rw [e]
 simp only [wrap64]
 omega
theorem G6 (k a b:Int) (ha:I32 a) (hb:I32 b) (hk:3<=k/\k<=7) (w:World):Calls Tryz.prog 191 #[zd U k,zd U a,zd U b] w fun e w'=>e=zh (zd U (opX k a b))/\w'=w:=by
 obtain ⟨a1,a2⟩:=ha
 obtain ⟨b1,b2⟩:=hb
 rcases (by omega:k=3\/k=4\/k=5\/k=6\/k=7) with rfl | rfl | rfl | rfl | rfl
 ·go_enter Tryz.func191,Tryz.ntmps191
  go_wp2_with fail
  go_ret
  refine ⟨?_,rfl⟩
  show Ending.returned (Value.int IntKind.i64 (wrap64 (RowKit.wrap32 (a+b))))=_
  rw [Jm]
  rfl
 ·go_enter Tryz.func191,Tryz.ntmps191
  go_wp2_with fail
  go_ret
  refine ⟨?_,rfl⟩
  show Ending.returned (Value.int IntKind.i64 (wrap64 (RowKit.wrap32 (a - b))))=_
  rw [Jm]
  rfl
 ·go_enter Tryz.func191,Tryz.ntmps191
  go_wp2_with fail
  go_ret
  refine ⟨?_,rfl⟩
  show Ending.returned (Value.int IntKind.i64 (wrap64 (RowKit.wrap32 (a*b))))=_
  rw [Jm]
  rfl
 ·by_cases h:a < b
  ·have KO:=Aa fun W=>Dq true W
   go_enter Tryz.func191,Tryz.ntmps191
   go_wp2_with fail
   refine (KO.o _).mono ?_
   rintro e w1 ⟨rfl,rfl⟩
   go_wp2_with fail
   go_ret
   exact ⟨by simp [opX,h],rfl⟩
  ·have KO:=Aa fun W=>Dq false W
   go_enter Tryz.func191,Tryz.ntmps191
   go_wp2_with fail
   refine (KO.o _).mono ?_
   rintro e w1 ⟨rfl,rfl⟩
   go_wp2_with fail
   go_ret
   exact ⟨by simp [opX,h],rfl⟩
 ·by_cases h:a=b
  ·have KO:=Aa fun W=>Dq true W
   have hb:(a == b)=true:=by simpa using h
   go_enter Tryz.func191,Tryz.ntmps191
   go_wp2_with fail
   try rw [hb]
   refine (KO.o _).mono ?_
   rintro e w1 ⟨rfl,rfl⟩
   go_wp2_with fail
   go_ret
   exact ⟨by simp [opX,h],rfl⟩
  ·have KO:=Aa fun W=>Dq false W
   have hb:(a == b)=false:=by simpa using h
   go_enter Tryz.func191,Tryz.ntmps191
   go_wp2_with fail
   try rw [hb]
   refine (KO.o _).mono ?_
   rintro e w1 ⟨rfl,rfl⟩
   go_wp2_with fail
   go_ret
   exact ⟨by simp [opX,h],rfl⟩
theorem Ft (cs:List Value) (d) (k:Nat) (w:World) (vv:Value) (vs) (h:RX w (k+1) cs d) (hi:Aq w vv vs) (hk:(Ap d=1)\/(Ap d=2/\0<=AA d/\AA d < vs.length)) :
  Calls Tryz.prog 126 #[.agg cs.toArray,vv] w fun e w'=>e=zh (zd U (Aw vs (k+1) d))/\Ov w w':=by
 obtain ⟨kd,n,v,ds,rfl,rfl,hkd,hn,hlen,ao,cap,rfl,hc⟩:=h
 simp only [EU,H6] at hk
 obtain ⟨va,vc,rfl,hvc⟩:=hi
 have hbel:Ov w (w.alloc (zf #[zd U kd,zd U n,O ao ds.length cap] 94)):=bA w _
 show Calls Tryz.prog 126 #[zg #[zd U kd,zd U n,O ao ds.length cap],O va vs.length vc] w _
 rcases hk with rfl | ⟨rfl,n0,n1⟩
 ·have hs:Aw vs (k+1) (xD 1 n ds)=n:=rfl
  rw [hs]
  clear hs hc hvc hlen hkd
  go_enter Tryz.func126,Tryz.ntmps126
  go_wp2_with fail
  go_ret
  exact ⟨rfl,hbel⟩
 ·have hl:n.toNat < vs.length:=by omega
  have hs:Aw vs (k+1) (xD 2 n ds)=vs[n.toNat]:=by
   show vs.getD n.toNat 0=_
   rw [List.getD_eq_getElem?_getD,List.getElem?_eq_getElem hl]
   rfl
  obtain ⟨b,off,rfl,hel⟩:=hvc (by rintro rfl;simp at hl)
  have c:=hel _ hl
  obtain ⟨j,rfl⟩:∃ j:Nat,n=j:=⟨n.toNat,by omega⟩
  rw [hs]
  simp only [Int.toNat_natCast] at c hl ⊢
  obtain ⟨r,hr⟩:=nm (vs[j])
  rw [<-hr] at c ⊢
  have c':=Ab hbel _ _ c
  clear hs hc hvc hlen hkd hel hr
  go_enter Tryz.func126,Tryz.ntmps126
  go_wp2_with fail
  go_ret
  exact ⟨rfl,hbel⟩
theorem IG (kd n:Int) (b off cap:Nat) (xk xn yk yn:Int) (xa ya:Option Addr) (xl yl xc yc:Nat) (vv:Value) (w:World) (a c:Int) (ha:I32 a) (hc:I32 c) (hkd:3<=kd/\kd<=7)
  (q0:w.cell? ⟨b,off,none⟩=some (zd U xk)) (q1:w.cell? ⟨b,off+1,none⟩=some (zd U xn)) (q2:w.cell? ⟨b,off+2,none⟩=some (O xa xl xc))
  (r0:w.cell? ⟨b,off+3,none⟩=some (zd U yk)) (r1:w.cell? ⟨b,off+3+1,none⟩=some (zd U yn)) (r2:w.cell? ⟨b,off+3+2,none⟩=some (O ya yl yc))
  (KX:Hx (∀ W,Ov w W->Calls Tryz.prog 126 #[zg #[zd U xk,zd U xn,O xa xl xc],vv] W fun e w'=>e=zh (zd U a)/\Ov W w'))
  (KY:Hx (∀ W,Ov w W->Calls Tryz.prog 126 #[zg #[zd U yk,zd U yn,O ya yl yc],vv] W fun e w'=>e=zh (zd U c)/\Ov W w')) :
  Calls Tryz.prog 126 #[zg #[zd U kd,zd U n,O (some ⟨b,off,none⟩) 2 cap],vv] w fun e w'=>e=zh (zd U (opX kd a c))/\Ov w w':=by
 have hbel:Ov w (w.alloc (zf #[zd U kd,zd U n,O (some ⟨b,off,none⟩) 2 cap] 94)):=bA w _
 obtain ⟨q0',q1',q2',r0',r1',r2'⟩:=co6 hbel q0 q1 q2 r0 r1 r2
 have zr:=Ay w [zd U kd,zd U n,O (some ⟨b,off,none⟩) 2 cap] 94
 have e0:=zr 0 _ rfl
 have e2:=zr 2 _ rfl
 clear zr
 have hk1:kd≠1:=by omega
 have hk2:kd≠2:=by omega
 clear q0 q1 q2 r0 r1 r2
 have KR:=Aa fun W=>G6 kd a c ha hc hkd W
 go_enter Tryz.func126,Tryz.ntmps126
 go_wp2_with fail
 go_region_held3 (fun W=>W.cell? ⟨w.heap.size,0,none⟩=some (zd U kd)/\W.cell? ⟨w.heap.size,2,none⟩=some (O (some ⟨b,off,none⟩) 2 cap)/\W.cell? ⟨b,off,none⟩=some (zd U xk)/\W.cell? ⟨b,off+1,none⟩=some (zd U xn)/\W.cell? ⟨b,off+2,none⟩=some (O xa xl xc)/\W.cell? ⟨b,off+3,none⟩=some (zd U yk)/\W.cell? ⟨b,off+3+1,none⟩=some (zd U yn)/\W.cell? ⟨b,off+3+2,none⟩=some (O ya yl yc)/\Ov w W) (first | assumption | exact ⟨e0,e2,q0',q1',q2',r0',r1',r2',below_drewN hbel 1⟩ | exact L2 (by assumption) hbp | exact L2 (by assumption) hbq | fail) (first | (go_at_call_of 126 (Value.agg #[zd U xk,zd U xn,O xa xl xc]);refine (KX.o _ (by assumption:_/\_/\_/\_/\_/\_/\_/\_/\Below _ _ _).2.2.2.2.2.2.2.2).mono ?_;rintro e wp ⟨rfl,hbp⟩) | (go_at_call_of 126 (Value.agg #[zd U yk,zd U yn,O ya yl yc]);refine (KY.o _ (by assumption:_/\_/\_/\_/\_/\_/\_/\_/\Below _ _ _).2.2.2.2.2.2.2.2).mono ?_;rintro e wq ⟨rfl,hbq⟩) | (go_at_call 191;refine (KR.o _).mono ?_;rintro e wz ⟨rfl,rfl⟩))
 obtain ⟨-,-,-,-,-,-,-,-,hB⟩:=(by assumption:_/\_/\_/\_/\_/\_/\_/\_/\Below _ _ _)
 clear q0' q1' q2' r0' r1' r2' e0 e2 hbel KX KY KR
 go_wp2_with fail
 go_ret
 exact ⟨rfl,hB⟩
theorem Gi (vs:List Int) (hv:∀ x∈vs,I32 x):∀ (k:Nat) (cs:List Value) (d:D) (w:World) (vv:Value),RX w k cs d->okX vs.length k d->Aq w vv vs ->
  Calls Tryz.prog 126 #[.agg cs.toArray,vv] w fun e w'=>e=zh (zd U (Aw vs k d))/\Ov w w':=by
 intro k
 induction k with
 | zero=>intro cs d w vv h;exact h.elim
 | succ k ih=>
  intro cs d w vv h ho hi
  rcases ho with ⟨h1,-,-⟩ | ⟨h1,h2,h3⟩ | ⟨h1,h2,x,y,hxy,hx,hy⟩
  ·exact Ft cs d k w vv vs h hi (Or.inl h1)
  ·exact Ft cs d k w vv vs h hi (Or.inr ⟨h1,h2,h3⟩)
  ·obtain ⟨kd,n,v,ds,rfl,rfl,hkd,hn,hlen,ao,cap,rfl,hc⟩:=h
   simp only [EU,GQ] at h1 h2 hxy
   subst hxy
   obtain ⟨b,off,rfl,hel⟩:=hc (by simp)
   obtain ⟨xs,-,hxc,hxr⟩:=hel 0 x rfl
   obtain ⟨ys,-,hyc,hyr⟩:=hel 1 y rfl
   obtain ⟨xa,xcap,hxs⟩:=hxr.form
   obtain ⟨ya,ycap,hys⟩:=hyr.form
   subst hxs
   subst hys
   have hs:Aw vs (k+1) (xD kd n [x,y])=opX kd (Aw vs k x) (Aw vs k y):=by
    show (if kd=1 then n else if kd=2 then vs.getD n.toNat 0 else opX kd (Aw vs k x) (Aw vs k y))=_
    rw [if_neg (by omega),if_neg (by omega)]
   rw [hs]
   obtain ⟨q0,q1,q2⟩:=rc3 hxc
   obtain ⟨r0,r1,r2⟩:=rc3 hyc
   simp only [Nat.zero_mul,Nat.one_mul,Nat.add_zero] at q0 q1 q2 r0 r1 r2
   exact IG kd n b off cap _ _ _ _ _ _ _ _ _ _ vv w _ _ (DQ hv k x hx) (DQ hv k y hy) ⟨h1,h2⟩ q0 q1 q2 r0 r1 r2
    (Aa fun W hB=>ih _ x W vv (hxr.over hB) hx (hi.over hB)) (Aa fun W hB=>ih _ y W vv (hyr.over hB) hy (hi.over hB))
theorem FU (x:Int) (w:World):Calls Tryz.prog 125 #[zd U x] w fun e w'=>e=zh (ze (!Cs x))/\w'=w:=by
 by_cases h1:x < -2147483648
 ·go_enter Tryz.func125,Tryz.ntmps125
  go_wp2
  go_ret
  exact ⟨by simp [Cs];omega,rfl⟩
 ·by_cases h2:2147483647 < x
  ·go_enter Tryz.func125,Tryz.ntmps125
   go_wp2
   go_ret
   exact ⟨by simp [Cs];omega,rfl⟩
  ·go_enter Tryz.func125,Tryz.ntmps125
   go_wp2
   go_ret
   exact ⟨by simp [Cs];omega,rfl⟩
theorem MH (args:Array Value) (w:World):(callFunc 125 args).run Tryz.prog w=.ok (.enter 125 args) w:=by simp [go_sem]
theorem Ff (vs) (v:Value) (w:World) (hv:Aq w v vs) (hl:vs.length<=9223372036854775807) :
  Calls Tryz.prog 190 #[v,.func (.func 125) #[] #[]] w fun e w'=>∃ r:Int,e=zh (zd U r)/\decide (0<=r)=!vs.all Cs/\w'=w:=by
 obtain ⟨ao,cap,rfl,hcc⟩:=hv
 have HCC:=Aa hcc
 have HC10:=MH
 clear hcc
 go_enter Tryz.func190,Tryz.ntmps190
 go_wp2_with fail
 go_loopw [8] (fun i wr=>∃ k:Nat,k<=vs.length/\i=zd U k/\(vs.take k).all Cs=true/\wr=w) (fun i _=>vs.length - (intOf i).toNat)
 case atStart=>exact ⟨0,Nat.zero_le _,rfl,rfl,rfl⟩
 case round=>
  obtain ⟨k,hk,rfl,hall,rfl⟩:=hrel
  have HA:=Aa hall
  clear hall
  by_cases hkl:k < vs.length
  ·obtain ⟨b,off,rfl,hcl⟩:=HCC.o (by rintro rfl;simp at hkl)
   have q0:=hcl k hkl
   have hst:Cs vs[k]=false->vs.all Cs=false:=fun h=>by rw [List.all_eq_false];exact ⟨vs[k],List.getElem_mem hkl,by simp [h]⟩
   have hnx:Cs vs[k]=true->(vs.take (k+1)).all Cs=true:=fun h=>by rw [List.take_succ_eq_append_getElem hkl,List.all_append,HA.o];simp [h]
   obtain ⟨x,hx⟩:=nm (vs[k])
   rw [<-hx] at q0 hst hnx
   have hcall:=FU x wr
   obtain ⟨r,hr⟩:=nm (Cs x)
   rw [<-hr] at hcall hst hnx
   have HCALL:=Aa hcall
   have HST:=Aa hst
   have HNX:=Aa hnx
   clear hcall hst hnx hr hx hcl HA
   cases r with
   | true=>
    go_wp2_with fail
    refine (HCALL.o).mono ?_
    rintro e w2 ⟨rfl,rfl⟩
    go_wp2_with fail
    exact ⟨⟨k+1,by omega,by go_num,HNX.o (by first | rfl | trivial),by first | rfl | trivial⟩,by simp [intOf];omega⟩
   | false=>
    go_wp2_with fail
    refine (HCALL.o).mono ?_
    rintro e w2 ⟨rfl,rfl⟩
    go_wp2_with fail
    go_ret
    refine ⟨(k:Int),by first | rfl | trivial,?_,by first | rfl | trivial⟩
    rw [HST.o (by first | rfl | trivial)]
    simp
  ·have ha:=HA.o
   rw [List.take_of_length_le (by omega)] at ha
   have HD:=Aa ha
   clear ha HA
   go_wp2_with fail
   go_ret
   refine ⟨-1,by first | rfl | trivial,?_,by first | rfl | trivial⟩
   rw [HD.o]
   rfl
theorem CV (vs) (v:Value) (w:World) (hv:Aq w v vs) (hl:vs.length<=9223372036854775807) :
  Calls Tryz.prog 124 #[v,.func (.func 125) #[] #[]] w fun e w'=>e=zh (ze (!vs.all Cs))/\w'=w:=by
 have HI:=Aa (Ff vs v w hv hl)
 clear hv
 obtain ⟨u,hu⟩:=nm v
 go_enter Tryz.func124,Tryz.ntmps124
 go_wp2_with fail
 refine (HI.o).mono ?_
 rintro e w1 ⟨r,rfl,hr,rfl⟩
 have HR:=Aa hr
 clear hr HI
 go_wp2_with fail
 go_ret
 exact ⟨by rw [<-HR.o];rfl,by first | rfl | trivial⟩
def F1 (vs:List Int) (k:Nat) (d:D):Int:=if Cd vs k d=0 then Aw vs k d else 0
theorem J9 (k:Nat) (cs:List Value) (d) (w:World) (vv:Value) (vs) (h:RX w k cs d) (hv:Aq w vv vs) (hl:vs.length<=9223372036854775807) :
  Calls Tryz.prog 67 #[.agg cs.toArray,vv] w fun e w'=>e=zh (zj #[zd U (F1 vs k d),zd U (Cd vs k d)])/\Ov w w':=by
 have K1:=Aa fun W hB=>check_any k cs d W (vs.length:Int) (by omega) (by omega) (h.over hB)
 have K2:=Aa fun W hB=>CV vs vv W (hv.over hB) hl
 have K3:=Aa fun (h0:Cd vs k d=0) W hB=>Gi vs (D1 h h0).2 k cs d W vv (h.over hB) (D1 h h0).1 (hv.over hB)
 obtain ⟨ao,cap,rfl⟩:=h.form
 obtain ⟨kd,hkd⟩:=nm (Ap d)
 obtain ⟨n,hn⟩:=nm (AA d)
 obtain ⟨dl,hdl⟩:=nm ((Ar d).length)
 rw [<-hkd,<-hn,<-hdl] at K1 K3 ⊢
 clear hkd hn hdl
 obtain ⟨va,vc,rfl,hvc⟩:=hv
 clear hvc
 obtain ⟨c,hc⟩:=nm (Am vs.length k d)
 obtain ⟨A,hA⟩:=nm (vs.all Cs)
 have hev:Cd vs k d=if c=0 then (if A=true then 0 else 3) else c:=by rw [hc,hA];rfl
 have hvl:F1 vs k d=if Cd vs k d=0 then Aw vs k d else 0:=rfl
 rw [<-hc] at K1
 rw [<-hA] at K2
 rw [hvl]
 clear hc hA hvl
 obtain ⟨e0,e1,e2⟩:=rc3 (Ay w [zd U kd,zd U n,O ao dl cap] 94)
 have hbel:Ov w (w.alloc (zf #[zd U kd,zd U n,O ao dl cap] 94)):=bA w _
 show Calls Tryz.prog 67 #[zg #[zd U kd,zd U n,O ao dl cap],O va vs.length vc] w _
 by_cases h0:c=0
 ·subst h0
  cases A with
  | true=>
   have hz:Cd vs k d=0:=by rw [hev];rfl
   have K3':=Aa (K3.o hz)
   obtain ⟨r,hr⟩:=nm (Aw vs k d)
   rw [hz,if_pos rfl,<-hr]
   rw [<-hr] at K3'
   clear K3 hev hz hr h
   go_enter Tryz.func67,Tryz.ntmps67
   go_wp2_with fail
   refine (K1.o _ hbel).mono ?_
   rintro e w1 ⟨rfl,hb1⟩
   have hB1:Ov w w1:=hbel.trans (hb1.mono hbel.size)
   obtain ⟨g0,g1,g2⟩:=co3 hb1 e0 e1 e2
   clear hb1 K1 e0 e1 e2 hbel
   go_wp2_with fail
   refine (K2.o _ hB1).mono ?_
   rintro e w2 ⟨rfl,rfl⟩
   go_wp2_with fail
   refine (K3'.o _ hB1).mono ?_
   rintro e w3 ⟨rfl,hb3⟩
   have hB3:Ov w w3:=hB1.trans (hb3.mono hB1.size)
   clear hb3 K2 K3'
   go_wp2_with fail
   go_ret2
   exact ⟨by first | rfl | trivial,hB3⟩
  | false=>
   have hz:Cd vs k d=3:=by rw [hev];rfl
   rw [hz]
   clear K3 hev hz h
   go_enter Tryz.func67,Tryz.ntmps67
   go_wp2_with fail
   refine (K1.o _ hbel).mono ?_
   rintro e w1 ⟨rfl,hb1⟩
   have hB1:Ov w w1:=hbel.trans (hb1.mono hbel.size)
   clear hb1 K1 e0 e1 e2 hbel
   go_wp2_with fail
   refine (K2.o _ hB1).mono ?_
   rintro e w2 ⟨rfl,rfl⟩
   go_wp2_with fail
   go_ret2
   exact ⟨by first | rfl | trivial,hB1⟩
 ·have hz:Cd vs k d=c:=by rw [hev,if_neg h0]
  rw [hz,if_neg h0]
  clear K3 K2 hev hz h
  go_enter Tryz.func67,Tryz.ntmps67
  go_wp2_with fail
  refine (K1.o _ hbel).mono ?_
  rintro e w1 ⟨rfl,hb1⟩
  have hB1:Ov w w1:=hbel.trans (hb1.mono hbel.size)
  clear hb1 K1 e0 e1 e2 hbel
  go_wp2_with fail
  go_ret2
  exact ⟨by first | rfl | trivial,hB1⟩
theorem IX (at' why:Int) (w:World):Calls Tryz.prog 215 #[zd U at',ze true,zd U why] w fun e w'=>e=zh (zj #[])/\w'=w:=by
 go_enter Tryz.func215,Tryz.ntmps215
 go_wp2_with fail
 go_end0
 exact ⟨rfl,rfl⟩
theorem AH (why:Int) (w:World):Calls Tryz.prog 172 #[ze true,zd U why] w fun e w'=>e=zh (zj #[])/\w'=w:=by
 have K:=Aa fun W=>IX 0 why W
 go_enter Tryz.func172,Tryz.ntmps172
 go_wp2_with fail
 refine (K.o _).mono ?_
 rintro e w1 ⟨rfl,rfl⟩
 go_wp2_with fail
 go_end0
 exact ⟨rfl,rfl⟩
theorem Lb (w:World):Calls Tryz.prog 171 #[zd U 0] w fun e w'=>e=zh (zj #[])/\w'=w:=by
 have K:=Aa fun W=>AH 0 W
 go_enter Tryz.func171,Tryz.ntmps171
 go_wp2_with fail
 refine (K.o _).mono ?_
 rintro e w1 ⟨rfl,rfl⟩
 go_wp2_with fail
 go_end0
 exact ⟨rfl,rfl⟩
theorem Ax (x m:Int) (w:World):Calls Tryz.prog 173 #[zd U x,zd U m] w fun e w'=>e=zh (ze (decide (0<=x/\x < m)))/\w'=w:=by
 by_cases h1:0<=x
 ·by_cases h2:x < m
  ·go_enter Tryz.func173,Tryz.ntmps173
   go_wp2
   go_ret
   exact ⟨by simp;omega,rfl⟩
  ·go_enter Tryz.func173,Tryz.ntmps173
   go_wp2
   go_ret
   exact ⟨by simp;omega,rfl⟩
 ·go_enter Tryz.func173,Tryz.ntmps173
  go_wp2
  go_ret
  exact ⟨by simp;omega,rfl⟩
theorem Ag {w0 w1 w2:World} (h:Ov w0 w1) (h2:Ov w1 w2):Ov w0 w2:=h.trans (h2.mono h.size)
def Ci:List Value:=[zd U 3,zd U 0,zd U 0,zd U 0,zd U 0,O none 0 0,O none 0 0,O none 0 0,O none 0 0,zd U 4,zd U 0,zd U 0,zd U 2,zd U 0,O none 0 0,O none 0 0,O none 0 0,O none 0 0]
def Ad (cs:List Value) (w:World) (b:Nat):Prop:=∀ j u,cs[j]? = some u->w.cell? ⟨b,j,none⟩=some u
theorem Ad.over {cs:List Value} {w w':World} {b:Nat} (h:Ad cs w b) (hB:Ov w w'):Ad cs w' b:=fun j u hu=>Ab hB _ _ (h j u hu)
abbrev D8 (bi bo bv bm:Nat):Value:=zg #[zd U 1,O none 0 0,O none 0 0,O (some ⟨bi,0,none⟩) 1 1,O (some ⟨bo,0,none⟩) 1 1,O (some ⟨bv,0,none⟩) 1 1,O none 0 0,O (some ⟨bm,0,none⟩) 2 2]
abbrev CZ (bi bo bv bm:Nat) (t:Nat):Obj:=zf #[zd U 1,O none 0 0,O none 0 0,O (some ⟨bi,0,none⟩) 1 1,O (some ⟨bo,0,none⟩) 1 1,O (some ⟨bv,0,none⟩) 1 1,O none 0 0,O (some ⟨bm,0,none⟩) 2 2] t
theorem Tryz.infoL:(Tryz.prog.info? 39).map (fun i=>(i.zero,i.size,i.bytes))=some (some (zg #[O none 0 0,O none 0 0]),2,48):=by kernel_rfl
abbrev G4 (bi bo bv bm:Nat):List Value:=[zd U 1,O none 0 0,O none 0 0,O (some ⟨bi,0,none⟩) 1 1,O (some ⟨bo,0,none⟩) 1 1,O (some ⟨bv,0,none⟩) 1 1,O none 0 0,O (some ⟨bm,0,none⟩) 2 2]
theorem Ad.new (cs:List Value) (t:Nat) (w:World):Ad cs (w.alloc (.cells cs.toArray t)) w.heap.size:=fun j u hu=>by
 rw [Lib.cell_of_heap (heap_alloc_new w _)]
 simpa using hu
structure Fb (bi bo bv bm:Nat) (w:World):Prop where
 ins:Ad [O none 0 0,O none 0 0] w bi
 outs:Ad [O none 0 0,O none 0 0] w bo
 vars:Ad [ze false,O none 0 0,O none 0 0] w bv
 main:Ad Ci w bm
theorem Fb.over {bi bo bv bm:Nat} {w w':World} (h:Fb bi bo bv bm w) (hB:Ov w w'):Fb bi bo bv bm w':=
 ⟨h.ins.over hB,h.outs.over hB,h.vars.over hB,h.main.over hB⟩
theorem E8 (p q:Addr) (w:World) :
  CallsD Tryz.prog 170 #[zi (some p),zi (some q)] .returning w fun e u' w'=>e=zh (zj #[])/\u'=.returning/\w'=w:=by
 refine callsD_of_wpS Tryz.func170 rfl fun c₀ cs hu=>?_
 apply wpS_seq
 apply wpS_region
 simp [wpOpsS,go_sem,recoverD,hu,Tryz.ntmps170,Exit.thenS]
 refine wpS_of_wp ?_
 change Code.wp Tryz.prog _ _ { tmps:=#[zi (some p),zi (some q),.nilIface,undef,.nilIface,undef,undef,undef,undef,undef,undef,undef,undef],defers:=[] } w
 go_wp2
 cases c₀
 simp_all [bodyPostS,results,Tryz.results170]
end Go.Proofs.YtfffpjkcfnekaaaGreat.Ex
