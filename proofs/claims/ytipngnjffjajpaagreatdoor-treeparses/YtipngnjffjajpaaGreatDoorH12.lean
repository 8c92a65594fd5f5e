/- The reader goes on: plain. -/
import Derived.Test.YtipngnjffjajpaaGreatDoorH11
set_option linter.unusedVariables false
set_option maxHeartbeats 8000000
set_option maxRecDepth 100000
namespace Go.Proofs.YtipngnjffjajpaaGreatDoor.Tx
open Go.RowKit
open Go.Value renaming int -> M, slice -> U, bool -> zc, pointer -> zd, agg -> zf, tuple -> zh
open Go.IntKind renaming i64 -> O
open Go.Obj renaming cells -> ze
open Go.Ending renaming returned -> zg
theorem AE {α β:Type} {r:Res α} {f:α->Nat->Res β} {b:β} {n1:Nat} (h:Aw r f=.inl (b,n1)):∃ a n,r=.inl (a,n)/\f a n=.inl (b,n1):=by
 obtain ⟨m,hr⟩ | ⟨a,n,hr⟩:=Ak r
 ·rw [hr] at h;cases h
 ·rw [hr,Am] at h;exact ⟨a,n,hr,h⟩
theorem CL {α:Type} {a b:α} {n m:Nat} (h:(Sum.inl (a,n):Res α)=.inl (b,m)):n=m:=by
 injection h with h;injection h
section
variable {ts:List Tok} {en:Nat}
theorem C6 {n:Nat} {d:D} {n1:Nat} (h:pX ts en n=.inl (d,n1)):n+1<=n1:=(DT 61 0 n d n1 h).2
theorem EB {s:D} {n:Nat} {d:D} {n1:Nat} (h:Hs ts s n=.inl (d,n1)):n+1<=n1:=by
 obtain ⟨a,m,c,b⟩:=AE h;have:=Be c;have:=CL b;omega
theorem FL {at_:Int} {n:Nat} {d:D} {n1:Nat} (h:CO ts en at_ n=.inl (d,n1)):n+1<=n1:=by
 obtain ⟨x,r,g,h⟩:=AE h;obtain ⟨u,m,f,h⟩:=AE h;obtain ⟨e,k,c,h⟩:=AE h;have:=Bf g;have:=Be f;have:=C6 c;split at h
 ·obtain ⟨l,j,b,h⟩:=AE h
  obtain ⟨u,i,a,h⟩:=AE h;have:=DS (fun _ _ _ h=>Nat.le_of_lt (C6 h)) _ _ _ _ _ _ b;have:=Be a;have:=CL h;omega
 ·have:=CL h;omega
theorem Cu {ss:Nat->Res (List D)} (hs:∀ n l n1,ss n=.inl (l,n1)->n<=n1) {n:Nat} {l:List D} {n1:Nat} (h:AZ ts ss n=.inl (l,n1)):n+1<=n1:=by
 obtain ⟨u,i,c,h⟩:=AE h;obtain ⟨x,g,b,h⟩:=AE h;obtain ⟨u,f,a,h⟩:=AE h;have:=Be c;have:=hs _ _ _ b;have:=Be a;have:=CL h;omega
theorem EV {blk:Nat->Res (List D)} (hb:∀ n l n1,blk n=.inl (l,n1)->n<=n1) {n:Nat} {d:D} {n1:Nat} (h:BA ts en blk n=.inl (d,n1)):n+1<=n1:=by
 unfold BA at h;split at h
 ·obtain ⟨e,c,a,h⟩:=AE h
  obtain ⟨f,g,b,h⟩:=AE h;have:=C6 a;have:=hb _ _ _ b;split at h
  ·obtain ⟨k,j,i,h⟩:=AE h
   have:=hb _ _ _ i;have:=CL h;omega
  ·have:=CL h;omega
 split at h
 ·obtain ⟨e,c,a,h⟩:=AE h
  obtain ⟨f,g,b,h⟩:=AE h;have:=C6 a;have:=hb _ _ _ b;have:=CL h;omega
 split at h
 ·obtain ⟨e,c,a,h⟩:=AE h
  obtain ⟨f,g,b,h⟩:=AE h;have:=Bf a;have:=Bf b;have:=EB h;omega
 split at h
 ·obtain ⟨e,c,a,h⟩:=AE h
  obtain ⟨f,g,b,h⟩:=AE h;have:=Bf a;have:=C6 b;have:=EB h;omega
 split at h
 ·obtain ⟨e,c,a,h⟩:=AE h
  obtain ⟨f,g,b,h⟩:=AE h;have:=Bf a;have:=C6 b;have:=EB h;omega
 split at h
 ·obtain ⟨e,c,a,h⟩:=AE h
  obtain ⟨f,g,b,h⟩:=AE h;have:=Bf a;have:=C6 b;have:=EB h;omega
 ·obtain ⟨e,c,a,h⟩:=AE h
  have:=FL a;have:=EB h;omega
theorem B7:∀ (f:Nat) (acc:List D) (n:Nat) (l:List D) (n1:Nat),AL ts en f acc n=.inl (l,n1)->n<=n1
 | 0,acc,n,l,n1,h=>by cases h
 | 1,acc,n,l,n1,h=>by
  unfold AL at h;split at h
  ·exact Nat.le_of_eq (CL h)
  ·cases h
 | f+2,acc,n,l,n1,h=>by
  unfold AL at h;split at h
  ·exact Nat.le_of_eq (CL h)
  ·obtain ⟨s,m1,h1,h⟩:=AE h
   have:=EV (fun n l n1 h=>Nat.le_of_lt (Cu (fun n l n1 h=>B7 f [] n l n1 h) h)) h1;have:=B7 (f+1) _ _ _ _ h;omega
theorem CR {f n:Nat} {d:D} {n1:Nat} (h:BQ ts en f n=.inl (d,n1)):n+1<=n1:=by
 cases f with
 | zero=>cases h
 | succ f=>exact EV (fun n l n1 h=>Nat.le_of_lt (Cu (fun n l n1 h=>B7 f [] n l n1 h) h)) h
end
end Go.Proofs.YtipngnjffjajpaaGreatDoor.Tx
