/- The document's own check of an expression. -/
import Derived.Test.YtfffpjkcfnekaaaGreatG01
set_option linter.unusedVariables false
set_option maxHeartbeats 8000000
set_option maxRecDepth 100000
namespace Go.Proofs.YtfffpjkcfnekaaaGreat.Ex
open Go.RowKit
open Go.Value renaming slice -> O, int -> zd, bool -> ze, agg -> zg, pointer -> zi, tuple -> zj
open Go.IntKind renaming i64 -> U
open Go.Obj renaming cells -> zf
open Go.Ending renaming returned -> zh
def BX (vars k n:Int) (l:Nat):Int:=
 if ¬ (1<=k/\k<=7) then 7 else if k<=2/\l≠0\/2 < k/\l≠2 then 1 else if k=1/\¬ (-9999999<=n/\n<=9999999)\/2 < k/\n≠0 then 3 else if k=2/\¬ (0<=n/\n<=vars - 1) then 5 else 0
def Bg (vars:Int):List D->Int
 | []=>0
 | d::l=>if BX vars (Au d) (AG d) (Ax d).length=0 then Bg vars l else BX vars (Au d) (AG d) (Ax d).length
def Al (vars:Int) (k:Nat) (d:D):Int:=if 15 < Bq k d 15 then 2 else Bg vars (AJ k d)
theorem DK (f:D->Int->Int) (g:D->List D) (hf:∀ d m,0<=m->f d m<=m->((g d).length:Int)<=f d m) (m:Int):∀ (l:List D) (n:Int),AU f m l n<=m->((l.flatMap g).length:Int)+n<=AU f m l n
 | [],n,_=>by simp [AU]
 | a::l,n,h=>by
  rw [AU] at h ⊢
  split at h
  ·rename_i hn
   rw [if_pos hn]
   have h1:=DK f g hf m l _ h
   have h2:(((a::l).flatMap g).length:Int)=((g a).length:Int)+((l.flatMap g).length:Int):=by simp
   have h3:=hf a (m - n) (by omega) (by omega)
   omega
  ·omega
theorem Fa:∀ (k:Nat) (d:D) (m:Int),0<=m->Bq k d m<=m->((AJ k d).length:Int)<=Bq k d m
 | 0,_,m,_,h=>by simp [AJ,Bq]
 | k+1,d,m,h0,h=>by
  have h1:=DK (Bq k) (AJ k) (Fa k) m (Ax d) 1 h
  have h2:((AJ (k+1) d).length:Int)=(((Ax d).flatMap (AJ k)).length:Int)+1:=by simp [AJ]
  rw [h2]
  exact h1
end Go.Proofs.YtfffpjkcfnekaaaGreat.Ex
