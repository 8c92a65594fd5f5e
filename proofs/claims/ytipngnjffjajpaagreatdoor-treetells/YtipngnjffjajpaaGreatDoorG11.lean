/- The reader goes on: plain. -/
import Derived.Test.YtipngnjffjajpaaGreatDoorG10
namespace Go.Proofs.YtipngnjffjajpaaGreatDoor.Tx
open Go.RowKit
set_option linter.unusedVariables false
theorem bindR_ok {α β : Type} {r : Res α} {f : α→Nat→Res β} {b : β} {n1 : Nat} (h : bindR r f = .inl (b,n1)) : ∃ a n,r = .inl (a,n)∧f a n = .inl (b,n1):=by
  obtain ⟨m,hr⟩ | ⟨a,n,hr⟩:=res_cases r
  · rw [hr] at h; cases h
  · rw [hr,bindR_inl] at h; exact ⟨a,n,hr,h⟩
theorem inl_at {α : Type} {a b : α} {n m : Nat} (h : (Sum.inl (a,n) : Res α) = .inl (b,m)) : n = m:=by
  injection h with h; injection h
section
variable {ts : List Tok} {en : Nat}
theorem pX_lt {n : Nat} {d : D} {n1 : Nat} (h : pX ts en n = .inl (d,n1)) : n + 1≤n1:=(pE_few 61 0 n d n1 h).2
theorem pEnd_lt {s : D} {n : Nat} {d : D} {n1 : Nat} (h : pEnd ts s n = .inl (d,n1)) : n + 1≤n1:=by
  obtain ⟨a,m,h1,h2⟩:=bindR_ok h
  have:=pTake_lt h1; have:=inl_at h2; omega
theorem pBecome_lt {at_ : Int} {n : Nat} {d : D} {n1 : Nat} (h : pBecome ts en at_ n = .inl (d,n1)) : n + 1≤n1:=by
  obtain ⟨x,m1,h1,h⟩:=bindR_ok h
  obtain ⟨u,m2,h2,h⟩:=bindR_ok h
  obtain ⟨e,m3,h3,h⟩:=bindR_ok h
  have:=pName_lt h1; have:=pTake_lt h2; have:=pX_lt h3
  split at h
  · obtain ⟨l,m4,h4,h⟩:=bindR_ok h
    obtain ⟨u,m5,h5,h⟩:=bindR_ok h
    have:=pEach_le (fun _ _ _ h => Nat.le_of_lt (pX_lt h)) _ _ _ _ _ _ h4
    have:=pTake_lt h5; have:=inl_at h; omega
  · have:=inl_at h; omega
theorem pBlock_lt {ss : Nat→Res (List D)} (hs : ∀ n l n1,ss n = .inl (l,n1)→n≤n1) {n : Nat} {l : List D} {n1 : Nat} (h : pBlock ts ss n = .inl (l,n1)) : n + 1≤n1:=by
  obtain ⟨u,m1,h1,h⟩:=bindR_ok h
  obtain ⟨x,m2,h2,h⟩:=bindR_ok h
  obtain ⟨u,m3,h3,h⟩:=bindR_ok h
  have:=pTake_lt h1; have:=hs _ _ _ h2; have:=pTake_lt h3; have:=inl_at h; omega
theorem pStmt1_lt {blk : Nat→Res (List D)} (hb : ∀ n l n1,blk n = .inl (l,n1)→n≤n1) {n : Nat} {d : D} {n1 : Nat} (h : pStmt1 ts en blk n = .inl (d,n1)) : n + 1≤n1:=by
  unfold pStmt1 at h
  split at h
  · obtain ⟨e,m1,h1,h⟩:=bindR_ok h
    obtain ⟨th,m2,h2,h⟩:=bindR_ok h
    have:=pX_lt h1; have:=hb _ _ _ h2
    split at h
    · obtain ⟨el,m3,h3,h⟩:=bindR_ok h
      have:=hb _ _ _ h3; have:=inl_at h; omega
    · have:=inl_at h; omega
  split at h
  · obtain ⟨e,m1,h1,h⟩:=bindR_ok h
    obtain ⟨th,m2,h2,h⟩:=bindR_ok h
    have:=pX_lt h1; have:=hb _ _ _ h2; have:=inl_at h; omega
  split at h
  · obtain ⟨e,m1,h1,h⟩:=bindR_ok h
    obtain ⟨th,m2,h2,h⟩:=bindR_ok h
    have:=pName_lt h1; have:=pName_lt h2; have:=pEnd_lt h; omega
  split at h
  · obtain ⟨e,m1,h1,h⟩:=bindR_ok h
    obtain ⟨th,m2,h2,h⟩:=bindR_ok h
    have:=pName_lt h1; have:=pX_lt h2; have:=pEnd_lt h; omega
  split at h
  · obtain ⟨e,m1,h1,h⟩:=bindR_ok h
    obtain ⟨th,m2,h2,h⟩:=bindR_ok h
    have:=pName_lt h1; have:=pX_lt h2; have:=pEnd_lt h; omega
  split at h
  · obtain ⟨e,m1,h1,h⟩:=bindR_ok h
    obtain ⟨th,m2,h2,h⟩:=bindR_ok h
    have:=pName_lt h1; have:=pX_lt h2; have:=pEnd_lt h; omega
  · obtain ⟨e,m1,h1,h⟩:=bindR_ok h
    have:=pBecome_lt h1; have:=pEnd_lt h; omega
theorem pStmts_le : ∀ (f : Nat) (acc : List D) (n : Nat) (l : List D) (n1 : Nat),pStmts ts en f acc n = .inl (l,n1)→n≤n1
  | 0,acc,n,l,n1,h => by cases h
  | 1,acc,n,l,n1,h => by
    unfold pStmts at h
    split at h
    · exact Nat.le_of_eq (inl_at h)
    · cases h
  | f + 2,acc,n,l,n1,h => by
    unfold pStmts at h
    split at h
    · exact Nat.le_of_eq (inl_at h)
    · obtain ⟨s,m1,h1,h⟩:=bindR_ok h
      have:=pStmt1_lt (fun n l n1 h => Nat.le_of_lt (pBlock_lt (fun n l n1 h => pStmts_le f [] n l n1 h) h)) h1
      have:=pStmts_le (f + 1) _ _ _ _ h
      omega
theorem pStmt_lt {f n : Nat} {d : D} {n1 : Nat} (h : pStmt ts en f n = .inl (d,n1)) : n + 1≤n1:=by
  cases f with
  | zero => cases h
  | succ f => exact pStmt1_lt (fun n l n1 h => Nat.le_of_lt (pBlock_lt (fun n l n1 h => pStmts_le f [] n l n1 h) h)) h
end
end Go.Proofs.YtipngnjffjajpaaGreatDoor.Tx
