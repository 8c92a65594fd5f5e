/- The document's own check of an expression. -/
import Derived.Test.YtfffpjkcfnekaaaGreatF01
set_option linter.unusedVariables false
set_option maxHeartbeats 8000000
set_option maxRecDepth 100000
namespace Go.Proofs.YtfffpjkcfnekaaaGreat.Ex
open Go.RowKit
open Go.Value renaming slice -> O, int -> U, bool -> zg, agg -> zh, pointer -> zj, tuple -> zm
open Go.IntKind renaming i64 -> zd
open Go.Obj renaming cells -> ze
open Go.Ending renaming returned -> zk
def CS (vars k n:Int) (l:Nat):Int:=
 if ¬ (1<=k/\k<=7) then 7 else if k<=2/\l≠0\/2 < k/\l≠2 then 1 else if k=1/\¬ (-9999999<=n/\n<=9999999)\/2 < k/\n≠0 then 3 else if k=2/\¬ (0<=n/\n<=vars - 1) then 5 else 0
def BN (vars:Int):List D->Int
 | []=>0
 | d::l=>if CS vars (AI d) (Bc d) (AH d).length=0 then BN vars l else CS vars (AI d) (Bc d) (AH d).length
def A2 (vars:Int) (k:Nat) (d:D):Int:=if 15 < BS k d 15 then 2 else BN vars (Bn k d)
theorem ET (f:D->Int->Int) (g:D->List D) (hf:∀ d m,0<=m->f d m<=m->((g d).length:Int)<=f d m) (m:Int):∀ (l:List D) (n:Int),Bv f m l n<=m->((l.flatMap g).length:Int)+n<=Bv f m l n
 | [],n,_=>by simp [Bv]
 | a::l,n,h=>by
  rw [Bv] at h ⊢
  split at h
  ·rename_i hn
   rw [if_pos hn]
   have h1:=ET f g hf m l _ h
   have h2:(((a::l).flatMap g).length:Int)=((g a).length:Int)+((l.flatMap g).length:Int):=by simp
   have h3:=hf a (m - n) (by omega) (by omega)
   omega
  ·omega
theorem GE:∀ (k:Nat) (d:D) (m:Int),0<=m->BS k d m<=m->((Bn k d).length:Int)<=BS k d m
 | 0,_,m,_,h=>by simp [Bn,BS]
 | k+1,d,m,h0,h=>by
  have h1:=ET (BS k) (Bn k) (GE k) m (AH d) 1 h
  have h2:((Bn (k+1) d).length:Int)=(((AH d).flatMap (Bn k)).length:Int)+1:=by simp [Bn]
  rw [h2]
  exact h1
end Go.Proofs.YtfffpjkcfnekaaaGreat.Ex
