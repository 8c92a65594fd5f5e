/- The reader of package tree reads whatever expression. -/
import Derived.Test.YtipngnjffjajpaaGreatDoorG05
import Derived.Maps.AppendAt
namespace Go.Proofs.YtipngnjffjajpaaGreatDoor
open Go.RowKit
set_option linter.unusedVariables false
theorem expr_any (rb : Nat) (tv : Value) (ts : List Tok) (hall : ts.all isAlone = true) (en : Nat) : ∀ (f deep n : Nat) (w : World),61≤f + deep→deep≤60→St rb tv ts en n w →
    Calls Tryz.prog 133 #[.pointer (some ⟨rb,0,none⟩),.int .i64 (deep : Int)] w (PostE rb tv ts en f w (pE ts en f deep n)):=by
  intro f
  induction f with
  | zero => intro deep n w h1 h2; omega
  | succ f ih =>
    intro deep n w hf hd h
    by_cases hk : (peekT ts n).kind = 2
    · exact expr_number rb tv ts hall en n f deep w h hk
    unfold pE
    rw [if_neg hk]
    cases hm : isT ts n [45] with
    | true =>
      rw [if_pos rfl]
      cases hz : isT ts (n + 1) [48] with
      | true => exact expr_minus_zero rb tv ts hall en n f deep w h hk hm hz
      | false =>
        rw [if_neg (by simp)]
        by_cases hq : (peekT ts (n + 1)).kind = 2
        · rw [if_pos hq]
          exact expr_minus rb tv ts hall en n f deep w h hk hm hz hq
        · rw [if_neg hq]
          exact expr_minus_no rb tv ts hall en n f deep w h hk hm hz hq
    | false =>
      rw [if_neg (by simp)]
      cases hN : isNameT (peekT ts n) with
      | true =>
        rw [if_pos rfl]
        exact expr_name rb tv ts hall en n f deep w h hk hm hN
      | false =>
        rw [if_neg (by simp)]
        by_cases hd6 : deep < 60
        · cases ho : isT ts n [40] with
          | false =>
            rw [if_neg (by simp)]
            exact expr_none rb tv ts hall en n f deep w h hk hm hN hd6 ho
          | true =>
            rw [if_pos ⟨hd6,rfl⟩]
            have HIH : Hid (∀ n w,St rb tv ts en n w→Calls Tryz.prog 133 #[.pointer (some ⟨rb,0,none⟩),.int .i64 ((deep : Int) + 1)] w (PostE rb tv ts en f w (pE ts en f (deep + 1) n))) :=
              hide fun n w hs => by
                have:=ih (deep + 1) n w (by omega) (by omega) hs
                rw [Int.natCast_add] at this
                exact this
            cases h1 : pE ts en f (deep + 1) (n + 1) with
            | inr m => exact open_fail1 rb tv ts hall en n f deep w h hk hm hN hd6 ho HIH m h1
            | inl p1 =>
              obtain ⟨da,n1⟩:=p1
              by_cases hop : opKind (peekT ts n1).text.data.toList = 0
              · simp only [if_pos hop]
                exact open_noop rb tv ts hall en n f deep w h hk hm hN hd6 ho HIH da n1 h1 hop
              · simp only [if_neg hop]
                cases h2 : pE ts en f (deep + 1) (n1 + 1) with
                | inr m => exact open_fail2 rb tv ts hall en n f deep w h hk hm hN hd6 ho HIH da n1 m h1 hop h2
                | inl p2 =>
                  obtain ⟨db,n2⟩:=p2
                  cases hc : isT ts n2 [41] with
                  | false =>
                    simp only [hc,Bool.false_eq_true,if_false]
                    exact open_noclose rb tv ts hall en n f deep w h hk hm hN hd6 ho HIH da db n1 n2 h1 hop h2 hc
                  | true =>
                    simp only [hc,if_true]
                    exact open_ok rb tv ts hall en n f deep w h hk hm hN hd6 ho HIH da db n1 n2 h1 hop h2 hc
        · rw [if_neg (by simp [hd6])]
          exact expr_deep rb tv ts hall en n f deep w h hk hm hN hd6 hd
end Go.Proofs.YtipngnjffjajpaaGreatDoor
namespace Go.Proofs.YtipngnjffjajpaaGreatDoor.Tx
open Go.RowKit
set_option linter.unusedVariables false
theorem hide {p : Prop} (h : p) : Hx p:=h
abbrev RowAt (cs : List Value) (w : World) (b : Nat) : Prop:=∀ (j : Nat) (u : Value),cs[j]? = some u→w.cell? ⟨b,j,none⟩ = some u
theorem RowAt.over {cs : List Value} {w w' : World} {b : Nat} (h : RowAt cs w b) (hb : Ov w w') : RowAt cs w' b:=fun j u hu => ce1 hb (h j u hu)
theorem over_trans {w0 w1 w2 : World} (h : Ov w0 w1) (h2 : Ov w1 w2) : Ov w0 w2:=h.trans (h2.mono h.size)
theorem own_over {W W' : World} {B e s : Nat} {v : Value} {k : Nat} {xs : List Value} (h : W.ownsRow B e s v k xs) (hb : Ov W W') : W'.ownsRow B e s v k xs:=by
  obtain ⟨h1,h2⟩:=h
  refine ⟨h1,?_⟩
  rcases h2 with h2 | ⟨g,cap,cur,hv,hg,hh,r⟩
  · exact Or.inl h2
  · refine Or.inr ⟨g,cap,cur,hv,hg,?_,r⟩
    rw [hb.block g (Array.getElem?_eq_some_iff.1 hh).1]
    exact hh
theorem own_lt {W : World} {B e s : Nat} {v : Value} {k : Nat} {xs : List Value} (h : W.ownsRow B e s v k xs) {g : Nat} (hg : v.ownBlock = some g) : B≤g∧g < W.heap.size:=by
  rcases h.2 with ⟨rfl,_⟩ | ⟨g',cap,cur,rfl,hg',hh,_⟩
  · cases hg
  · simp [Value.ownBlock] at hg
    subst hg
    exact ⟨hg',(Array.getElem?_eq_some_iff.1 hh).1⟩
theorem grow_set {w : World} {r n j : Nat} {u : Value} : w.grownBy ((w.drewN n).setCell ⟨r,j,none⟩ u) (some r):=by
  have h:=Below.heap_setCell (w.drewN n) ⟨r,j,none⟩ u
  refine ⟨rfl,rfl,rfl,by simp [World.setCell],fun k hk hne => ?_⟩
  rw [h k (fun e => hne (by rw [e]))]
  rfl
theorem grow_set1 {w : World} {r j : Nat} {u : Value} : w.grownBy (w.setCell ⟨r,j,none⟩ u) (some r):=grow_set (n:=0)
theorem own_form {w : World} {B e s : Nat} {v : Value} {n : Nat} {xs : List Value} (h : w.ownsRow B e s v n xs) : ∃ a n c,v = .slice a n c:=by
  obtain ⟨h1,⟨h,_⟩ | ⟨g,cap,cur,h2,h3,h4⟩⟩:=h
  · exact ⟨_,_,_,h⟩
  · exact ⟨_,_,_,h2⟩
theorem own_len {W : World} {B e s n : Nat} {a : Option Addr} {k c : Nat} {xs : List Value} (h : W.ownsRow B e s (.slice a k c) n xs) : k = n:=by
  rcases h.2 with ⟨h,h2⟩ | ⟨g,cap,cur,h,hb,hh,-⟩
  · injection h with h1 h2' h3
    omega
  · injection h with h1 h2 h3
theorem step_appJ {ops : Array Oper} {o : Oper} {a : Act} {W : World} {K : Act→World→Prop} {Q : Exit→Act→World→Prop} {E : Prop} (hg : o.guard = none) (s x : Operand) (t : TypeId) (hop : o.op = Op.call { callee:=Callee.builtin Builtin.append,args:=#[s,x],argTypes:=#[t,t] }) (v u v' : Value) (W' : World) (hs : a.eval s = v) (hx : a.eval x = u)
    (hr : (Builtin.append_ #[t,t] o.type #[v,u]).run Tryz.prog W = .ok v' W') (h : K (a.put o.dst v') W') : if Region.wanted o (yielded ops a.tmps) = true then Oper.wp Tryz.prog o a W K Q else E:=by
  have hw : Region.wanted o (yielded ops a.tmps) = true:=by simp [Region.wanted,hg]
  rw [if_pos hw]
  unfold Oper.wp execOp
  simp only [hop,resolve,invoke,builtin,Sem.run_bind,Sem.run_pure,Result.andThen_ok,List.map_toArray,List.map_cons,List.map_nil,hs,hx,hr]
  exact h
/-- what hangs on the blocks from B on alone, and not on the row g. -/
def Off (B : Nat) (g : Option Nat) (w : World) (P : World→Prop) : Prop:=∀ W : World,(∀ k,B≤k→k < w.heap.size→some k≠g→W.heap[k]? = w.heap[k]?)→P W
section
variable {B B' : Nat} {g : Option Nat} {w w' : World} {P P' : World→Prop} {v v' : Value}
theorem Off.imp (h : Off B g w P) (f : ∀ W,P W→P' W) : Off B g w P':=fun W hW => f W (h W hW)
theorem Off.over (h : Off B g w P) (hb : Ov w w') : Off B g w' P:=fun W hW => h W fun k h1 h2 h3 => (hW k h1 (Nat.lt_of_lt_of_le h2 hb.size) h3).trans (hb.block k h2)
theorem Off.base (h : Off B g w P) (hb : B'≤B) : Off B' g w P:=fun W hW => h W fun k h1 h2 h3 => hW k (Nat.le_trans hb h1) h2 h3
theorem Off.row (h : Off B v.ownBlock w P) (hg : w.grownBy w' v.ownBlock) (hv : v'.ownBlock = v.ownBlock∨v'.ownBlock = some w.heap.size) : Off B v'.ownBlock w' P:=fun W hW => h W fun k h1 h2 h3 =>
  (hW k h1 (Nat.lt_of_lt_of_le h2 hg.size) (by
    rcases hv with e | e
    · rw [e]; exact h3
    · rw [e]; intro q; injection q with q; omega)).trans (hg.block k h2 h3)
theorem Off.weak (h : Off B none w P) (hb : B'≤B) (hg : ∀ k,g = some k→k < B) : Off B' g w P:=fun W hW => h W fun k h1 h2 _ => hW k (Nat.le_trans hb h1) h2 (fun e => by have:=hg k e.symm; omega)
theorem Off.set {b j : Nat} {u : Value} (h : Off B g w P) (hb : b < B) : Off B g (w.setCell ⟨b,j,none⟩ u) P:=fun W hW => h W fun k h1 h2 h3 =>
  (hW k h1 (by simpa [World.setCell] using h2) h3).trans ((grow_set1 (w:=w) (r:=b) (j:=j) (u:=u)).block k h2 (fun e => by injection e with e; omega))
end
/-- a row of one's own, each of whose parts is so. -/
def Cop (B T s : Nat) (P : Nat→List Value→World→Prop) (n : Nat) (v : Value) (w : World) : Prop :=
  ∃ xs,w.ownsRow B T s v n xs∧∀ i,i < n→∃ cs : List Value,cs.length = s∧(∀ j u,cs[j]? = some u→xs[i * s + j]? = some u)∧Off B v.ownBlock w (P i cs)
section
variable {B T s n : Nat} {P : Nat→List Value→World→Prop} {v v' : Value} {w w' w2 : World}
theorem Cop.nil : Cop B T s P 0 (.slice none 0 0) w:=⟨[],World.ownsRow_nil w B T s,fun i hi => absurd hi (Nat.not_lt_zero _)⟩
theorem Cop.over (h : Cop B T s P n v w) (hb : Ov w w') : Cop B T s P n v w':=by
  obtain ⟨xs,ho,he⟩:=h
  refine ⟨xs,own_over ho hb,fun i hi => ?_⟩
  obtain ⟨cs,h1,h2,h3⟩:=he i hi
  exact ⟨cs,h1,h2,h3.over hb⟩
theorem Cop.set {b j : Nat} {u : Value} (h : Cop B T s P n v w) (hb : b < B) : Cop B T s P n v (w.setCell ⟨b,j,none⟩ u):=by
  obtain ⟨xs,ho,he⟩:=h
  refine ⟨xs,ho.kept grow_set1 (Or.inr (fun e => by have:=(own_lt ho e).1; omega)),fun i hi => ?_⟩
  obtain ⟨cs,h1,h2,h3⟩:=he i hi
  exact ⟨cs,h1,h2,h3.set hb⟩
/-- one part more: it was made behind the row. -/
theorem Cop.add {xs cs : List Value} {B1 : Nat} (ho : w.ownsRow B T s v n xs) (he : ∀ i,i < n→∃ cs : List Value,cs.length = s∧(∀ j u,cs[j]? = some u→xs[i * s + j]? = some u)∧Off B v.ownBlock w (P i cs))
    (hl : cs.length = s) (hn : Off B1 none w (P n cs)) (hB : B≤B1) (hrow : ∀ k,v.ownBlock = some k→k < B1) (ho' : w2.ownsRow B T s v' (n + 1) (xs ++ cs)) (hg : w.grownBy w2 v.ownBlock) (hat : v'.ownBlock = v.ownBlock∨v'.ownBlock = some w.heap.size) : Cop B T s P (n + 1) v' w2:=by
  refine ⟨xs ++ cs,ho',fun i hi => ?_⟩
  by_cases h : i < n
  · obtain ⟨ds,h1,h2,h3⟩:=he i h
    refine ⟨ds,h1,fun j u hu => ?_,h3.row hg hat⟩
    have:=h2 j u hu
    rw [List.getElem?_append_left (List.getElem?_eq_some_iff.1 this).1]
    exact this
  · obtain rfl : i = n:=by omega
    refine ⟨cs,hl,fun j u hu => ?_,(hn.weak hB hrow).row hg hat⟩
    rw [List.getElem?_append_right (by rw [ho.1]; omega),ho.1,Nat.add_sub_cancel_left]
    exact hu
/-- the cells of the row's parts. -/
theorem Cop.cells (h : Cop B T s P n v w) (hs : 0 < s) : ∃ (a : Option Addr) (c : Nat),v = .slice a n c∧Off B none w (fun W => (n≠0→∃ b,a = some ⟨b,0,none⟩∧∀ i,i < n→∃ cs : List Value,cs.length = s∧(∀ j u,cs[j]? = some u→W.cell? ⟨b,i * s + j,none⟩ = some u)∧P i cs W)):=by
  obtain ⟨xs,ho,he⟩:=h
  rcases ho.2 with ⟨hv,h0⟩ | ⟨g,cap,cur,hv,hb,hg,h1,h2,h3,h4⟩
  · exact ⟨none,0,by rw [hv,h0],fun W _ hne => absurd h0 hne⟩
  · refine ⟨some ⟨g,0,none⟩,cap,hv,fun W hW hne => ⟨g,rfl,fun i hi => ?_⟩⟩
    obtain ⟨cs,q1,q2,q3⟩:=he i hi
    refine ⟨cs,q1,fun j u hu => ?_,q3 W fun k k1 k2 _ => hW k k1 k2 (by simp)⟩
    have hlt : g < w.heap.size:=(Array.getElem?_eq_some_iff.1 hg).1
    have hx:=q2 j u hu
    have hblk : W.heap[g]? = w.heap[g]?:=hW g hb hlt (by simp)
    rw [World.cell?_of_block (a:=⟨g,i * s + j,none⟩) hblk,Lib.cell_of_heap hg]
    have hlx : i * s + j < n * s:=by rw [← ho.1]; exact (List.getElem?_eq_some_iff.1 hx).1
    rw [← h4,List.getElem?_take,if_pos hlx] at hx
    simpa using hx
end
section
variable {B rb : Nat} {g : Option Nat} {w w' : World} {P : World→Prop}
/-- a reader's block alone has changed. -/
theorem Off.keep (h : Off B g w P) (hg : w.grownBy w' (some rb)) (hb : rb < B) : Off B g w' P:=fun W hW => h W fun k h1 h2 h3 => (hW k h1 (Nat.lt_of_lt_of_le h2 hg.size) h3).trans (hg.block k h2 (fun e => by injection e with e; omega))
theorem Cop.keep {T s n : Nat} {P : Nat→List Value→World→Prop} {v : Value} (h : Cop B T s P n v w) (hg : w.grownBy w' (some rb)) (hb : rb < B) : Cop B T s P n v w':=by
  obtain ⟨xs,ho,he⟩:=h
  refine ⟨xs,ho.kept hg (Or.inr (fun e => by have:=(own_lt ho e).1; omega)),fun i hi => ?_⟩
  obtain ⟨cs,h1,h2,h3⟩:=he i hi
  exact ⟨cs,h1,h2,h3.keep hg hb⟩
end
/-- something and where the reader stands behind it, or where it gave up. -/
abbrev Res (α : Type):=Sum (α × Nat) Nat
def bindR {α β : Type} (r : Res α) (f : α→Nat→Res β) : Res β :=
  match r with
  | .inl (a,n) => f a n
  | .inr m => .inr m
theorem bindR_inl {α β : Type} {a : α} {n : Nat} {f : α→Nat→Res β} : bindR (.inl (a,n)) f = f a n:=rfl
def polD (at_ : Int) (o : ByteArray) (wr : Bool) (ns : List ByteArray) : D:=.agg [dI at_,dS o,dB wr,dL (ns.map dS)]
def stD (kd at_ : Int) (a b : ByteArray) (e : D) (args th el : List D) : D:=.agg [dI kd,dI at_,dS a,dS b,e,dL args,dL th,dL el]
def deD (kd at_ : Int) (a b : ByteArray) (gv : Bool) (lb : List D) (ps : List ByteArray) (body : List D) (r : D) : D:=.agg [dI kd,dI at_,dS a,dS b,dB gv,dL lb,dL (ps.map dS),dL body,r]
def noE : D:=eD 0 0 0 ⟨#[]⟩ []
def noS : ByteArray:=⟨#[]⟩
/-- kind and name of an expression. -/
def eKind : D→Int
  | .agg (.lit (.int _ k) :: _) => k
  | _ => 0
def eName : D→List UInt8
  | .agg (_ :: _ :: _ :: .lit (.string x) :: _) => x
  | _ => []
section
variable (ts : List Tok) (en : Nat)
def pTake (x : List UInt8) (n : Nat) : Res Unit:=if isT ts n x = true then .inl ((),n + 1) else .inr n
def pName (n : Nat) : Res ByteArray:=if isNameT (peekT ts n) = true then .inl ((peekT ts n).text,n + 1) else .inr n
/-- things with a sign between. -/
def pEach {α : Type} (sep : List UInt8) (one : Nat→Res α) : Nat→Bool→List α→Nat→Res (List α)
  | 0,_,acc,n => .inl (acc,n)
  | f + 1,sm,acc,n => if sm = true then bindR (one n) fun a n1 => if isT ts n1 sep = true then pEach sep one f true (acc ++ [a]) (n1 + 1) else .inl (acc ++ [a],n1) else .inl (acc,n)
def pNames (sm : Bool) (n : Nat) : Res (List ByteArray):=pEach ts [44] (pName ts) (ts.length + 1) sm [] n
def pPolicy (n : Nat) : Res D :=
  bindR (pName ts n) fun o n1 =>
    if isT ts n1 [33] = true then bindR (pNames ts (isNameT (peekT ts (n1 + 1))) (n1 + 1)) fun ns n2 => .inl (polD (posn ts en n) o true ns,n2)
    else bindR (pTake ts [58] n1) fun _ n2 => bindR (pNames ts (isNameT (peekT ts n2)) n2) fun ns n3 => .inl (polD (posn ts en n) o false ns,n3)
def pLabel (n : Nat) : Res (List D) :=
  bindR (pTake ts [123] n) fun _ n1 => bindR (pEach ts [59] (pPolicy ts en) (ts.length + 1) (!isT ts n1 [125]) [] n1) fun l n2 => bindR (pTake ts [125] n2) fun _ n3 => .inl (l,n3)
/-- an expression in no brackets. -/
def pX (n : Nat) : Res D:=pE ts en 61 0 n
/-- a command's end. -/
def pEnd (s : D) (n : Nat) : Res D:=bindR (pTake ts [59] n) fun _ n1 => .inl (s,n1)
/-- what a variable becomes. -/
def pBecome (at_ : Int) (n : Nat) : Res D :=
  bindR (pName ts n) fun x n1 => bindR (pTake ts [61] n1) fun _ n2 => bindR (pX ts en n2) fun e n3 =>
    if eKind e = 2∧isT ts n3 [40] = true then
      bindR (pEach ts [44] (pX ts en) (ts.length + 1) (!isT ts (n3 + 1) [41]) [] (n3 + 1)) fun l n4 => bindR (pTake ts [41] n4) fun _ n5 => .inl (stD 2 at_ x ⟨(eName e).toArray⟩ noE l [] [],n5)
    else .inl (stD 1 at_ x noS e [] [] [],n3)
def pBlock (ss : Nat→Res (List D)) (n : Nat) : Res (List D):=bindR (pTake ts [123] n) fun _ n1 => bindR (ss n1) fun l n2 => bindR (pTake ts [125] n2) fun _ n3 => .inl (l,n3)
/-- a command, what stands in it told by another one. -/
def pStmt1 (blk : Nat→Res (List D)) (n : Nat) : Res D :=
  if isT ts n [105,102] = true then bindR (pX ts en (n + 1)) fun e n1 => bindR (blk n1) fun th n2 =>
    if isT ts n2 [101,108,115,101] = true then bindR (blk (n2 + 1)) fun el n3 => .inl (stD 7 (posn ts en n) noS noS e [] th el,n3) else .inl (stD 7 (posn ts en n) noS noS e [] th [],n2)
  else if isT ts n [119,104,105,108,101] = true then bindR (pX ts en (n + 1)) fun e n1 => bindR (blk n1) fun th n2 => .inl (stD 8 (posn ts en n) noS noS e [] th [],n2)
  else if isT ts n [103,101,116] = true then bindR (pName ts (n + 1)) fun a n1 => bindR (pName ts n1) fun b n2 => pEnd ts (stD 3 (posn ts en n) a b noE [] [] []) n2
  else if isT ts n [112,117,116] = true then bindR (pName ts (n + 1)) fun b n1 => bindR (pX ts en n1) fun e n2 => pEnd ts (stD 4 (posn ts en n) noS b e [] [] []) n2
  else if isT ts n [114,101,118,101,97,108] = true then bindR (pName ts (n + 1)) fun a n1 => bindR (pX ts en n1) fun e n2 => pEnd ts (stD 5 (posn ts en n) a noS e [] [] []) n2
  else if isT ts n [116,114,117,115,116] = true then bindR (pName ts (n + 1)) fun a n1 => bindR (pX ts en n1) fun e n2 => pEnd ts (stD 6 (posn ts en n) a noS e [] [] []) n2
  else bindR (pBecome ts en (posn ts en n) n) fun s n1 => pEnd ts s n1
/-- commands one behind the other. -/
def pStmts : Nat→List D→Nat→Res (List D)
  | 0,acc,n => .inr n
  | 1,acc,n => if isT ts n [125] = true∨isT ts n [114,101,116,117,114,110] = true then .inl (acc,n) else .inr n
  | f + 2,acc,n => if isT ts n [125] = true∨isT ts n [114,101,116,117,114,110] = true then .inl (acc,n) else bindR (pStmt1 ts en (pBlock ts (fun n => pStmts f [] n)) n) fun s n1 => pStmts (f + 1) (acc ++ [s]) n1
def pStmt : Nat→Nat→Res D
  | 0,n => .inr n
  | f + 1,n => pStmt1 ts en (pBlock ts (fun n => pStmts ts en f [] n)) n
theorem pStmts_succ (f : Nat) (acc : List D) (n : Nat) : pStmts ts en (f + 1) acc n = if isT ts n [125] = true∨isT ts n [114,101,116,117,114,110] = true then .inl (acc,n) else bindR (pStmt ts en f n) fun s n1 => pStmts ts en f (acc ++ [s]) n1:=by
  cases f <;> rfl
/-- a function, from what stands behind its name on. -/
def pFunc (at_ : Int) (name : ByteArray) (n : Nat) : Res D :=
  bindR (pTake ts [40] n) fun _ n1 => bindR (pNames ts (!isT ts n1 [41]) n1) fun ps n2 => bindR (pTake ts [41] n2) fun _ n3 => bindR (pTake ts [123] n3) fun _ n4 =>
    bindR (pStmts ts en (2 * ts.length + 3) [] n4) fun body n5 => bindR (pTake ts [114,101,116,117,114,110] n5) fun _ n6 => bindR (pX ts en n6) fun r n7 => bindR (pTake ts [59] n7) fun _ n8 => bindR (pTake ts [125] n8) fun _ n9 =>
      .inl (deD 7 at_ name noS false [] ps body r,n9)
/-- a declaration's label, if it has one, and its end. -/
def pGiven (kd at_ : Int) (name oth : ByteArray) (gv : Bool) (n : Nat) : Res D :=
  if gv = true then bindR (pLabel ts en n) fun lb n1 => bindR (pTake ts [59] n1) fun _ n2 => .inl (deD kd at_ name oth true lb [] [] noE,n2)
  else bindR (pTake ts [59] n) fun _ n1 => .inl (deD kd at_ name oth false [] [] [] noE,n1)
def pDecl (n : Nat) : Res D :=
  if dKind (peekT ts n).text.data.toList = 0 then .inr n
  else bindR (pName ts (n + 1)) fun a n1 =>
    if dKind (peekT ts n).text.data.toList = 2 then bindR (pName ts n1) fun b n2 => pGiven ts en 2 (posn ts en n) a b false n2
    else if dKind (peekT ts n).text.data.toList = 4∨dKind (peekT ts n).text.data.toList = 5 then pGiven ts en (dKind (peekT ts n).text.data.toList) (posn ts en n) a noS true n1
    else if dKind (peekT ts n).text.data.toList = 6 then pGiven ts en 6 (posn ts en n) a noS (isT ts n1 [123]) n1
    else if dKind (peekT ts n).text.data.toList = 7 then pFunc ts en (posn ts en n) a n1
    else pGiven ts en (dKind (peekT ts n).text.data.toList) (posn ts en n) a noS false n1
def pDecls : Nat→List D→Nat→Res (List D)
  | 0,acc,n => .inr n
  | f + 1,acc,n => if isT ts n [109,97,105,110] = true then .inl (acc,n) else bindR (pDecl ts en n) fun d n1 => pDecls f (acc ++ [d]) n1
/-- a text's tree: declarations, and commands. -/
def pTree : Res (List D × List D) :=
  bindR (pDecls ts en (ts.length + 1) [] 0) fun ds n => bindR (pTake ts [109,97,105,110] n) fun _ n1 => bindR (pBlock ts (pStmts ts en (2 * ts.length + 3) []) n1) fun l n2 => if n2 < ts.length then .inr n2 else .inl ((ds,l),n2)
end
/-- how a call of the reader's ends. -/
def PostC (ts : List Tok) (en : Nat) {β : Type} (res : Res β) (K : β→Nat→Ending→World→Prop) (G : World→Prop) (e : Ending) (w' : World) : Prop :=
  match res with
  | .inl (b,n) => K b n e w'
  | .inr m => e = gaveUpAt (posn ts en m)∧G w'
/-- where the reader stands; whether there is more. -/
def nOf (rb : Nat) (w : World) : Nat:=match w.cell? ⟨rb,1,none⟩ with | some (.int _ n) => n.toNat | _ => 0
def bOf : Value→Nat | .bool true => 1 | _ => 0
theorem nOf_st {rb : Nat} {tv : Value} {ts : List Tok} {en n : Nat} {w : World} (h : St rb tv ts en n w) : nOf rb w = n:=by
  unfold nOf
  rw [h.cells.2.1]
  simp
section
variable {rb : Nat} {tv : Value} {ts : List Tok} {en : Nat}
theorem takes_c (x : ByteArray) (hx : x.data.toList≠[]) (n : Nat) (w : World) (h : St rb tv ts en n w) :
    Calls Tryz.prog 98 #[.pointer (some ⟨rb,0,none⟩),.string x] w fun e w' => e = .returned (.bool (isT ts n x.data.toList))∧w.grownBy w' (some rb)∧St rb tv ts en (if isT ts n x.data.toList = true then n + 1 else n) w':=by
  cases hq : isT ts n x.data.toList with
  | true => exact (takes_yes rb tv ts en n x w h hq (isT_lt hq hx)).mono fun e w' ⟨h1,h2,h3⟩ => ⟨h1,h2,by simpa using h3⟩
  | false => exact (takes_no rb tv ts en n x w h hq).mono fun e w' ⟨h1,h2⟩ => ⟨h1,grownBy_below h2,by simpa using h.below h2⟩
theorem take_c (x : ByteArray) (hx : x.data.toList≠[]) (n : Nat) (w : World) (h : St rb tv ts en n w) :
    Calls Tryz.prog 53 #[.pointer (some ⟨rb,0,none⟩),.string x] w (PostC ts en (pTake ts x.data.toList n) (fun _ n1 e w' => e = .returned (.tuple #[])∧w.grownBy w' (some rb)∧St rb tv ts en n1 w') (fun w' => w.grownBy w' (some rb))):=by
  unfold pTake
  cases hq : isT ts n x.data.toList with
  | true => exact (take_yes rb tv ts en n x w h hq (isT_lt hq hx)).mono fun e w' h1 => h1
  | false => exact (take_no rb tv ts en n x w h hq).mono fun e w' ⟨h1,h2⟩ => ⟨h1,grownBy_below h2⟩
theorem name_c (n : Nat) (w : World) (h : St rb tv ts en n w) :
    Calls Tryz.prog 95 #[.pointer (some ⟨rb,0,none⟩)] w (PostC ts en (pName ts n) (fun x n1 e w' => e = .returned (.string x)∧w.grownBy w' (some rb)∧St rb tv ts en n1 w') (fun w' => w.grownBy w' (some rb))):=by
  unfold pName
  cases hq : isNameT (peekT ts n) with
  | true => exact (name_yes rb tv ts en n w h hq).mono fun e w' h1 => h1
  | false => exact (name_no rb tv ts en n w h hq).mono fun e w' ⟨h1,h2⟩ => ⟨h1,grownBy_below h2⟩
set_option maxHeartbeats 2000000 in
set_option maxRecDepth 100000 in
/-- things with a sign between, whatever they are. -/
theorem each_c {α : Type} (F : FuncId) (cap : List Value) (hC : ∀ (args : Array Value) (w : World),(callFunc F args).run Tryz.prog w = .ok (.enter F args) w) (sep : ByteArray) (hsep : sep.data.toList≠[]) (one : Nat→Res α) (J : List α→Nat→World→Prop) (G : World→Prop)
    (hJ : ∀ acc n w,J acc n w→St rb tv ts en n w) (hm : ∀ n a n1,one n = .inl (a,n1)→n≤n1) (hJt : ∀ acc n n' w w',J acc n w→n≤n'→w.grownBy w' (some rb)→St rb tv ts en n' w'→J acc n' w')
    (h1 : ∀ acc n w,J acc n w→Calls Tryz.prog F cap.toArray w (PostC ts en (one n) (fun a n1 e w' => e = .returned (.tuple #[])∧J (acc ++ [a]) n1 w') G)) (sm : Bool) (n : Nat) (w : World) (hw : J [] n w) :
    Calls Tryz.prog 134 #[.pointer (some ⟨rb,0,none⟩),.bool sm,.string sep,.func (.func F) #[] cap.toArray] w (PostC ts en (pEach ts sep.data.toList one (ts.length + 1) sm [] n) (fun l n1 e w' => e = .returned (.tuple #[])∧J l n1 w') G):=by
  obtain ⟨res,hres⟩:=nm (pEach ts sep.data.toList one (ts.length + 1) sm [] n)
  rw [← hres]
  have HR:=hide hres
  have HJ:=hide hJ
  have HM:=hide hm
  have HT:=hide hJt
  have H1:=hide h1
  have HW:=hide hw
  have HS:=hide hsep
  clear hres hJ hm hJt h1 hw hsep
  go_enter Tryz.func134,Tryz.ntmps134
  go_wp2_with fail
  go_loopw [1] (fun b wr => ∃ (bb : Bool) (acc : List α) (n f : Nat),b = .bool bb∧J acc n wr∧pEach ts sep.data.toList one f bb acc n = res∧ts.length - n < f) (fun b wr => 2 * (ts.length - nOf rb wr) + bOf b)
  case atStart => exact ⟨sm,[],n,ts.length + 1,rfl,HW.o,HR.o.symm,by omega⟩
  case round =>
    obtain ⟨bb,acc,n,f,rfl,hj,hf,hlt⟩:=hrel
    obtain ⟨f,rfl⟩ : ∃ f',f = f' + 1:=⟨f - 1,by omega⟩
    have hst:=HJ.o _ _ _ hj
    cases bb with
    | false =>
      have hr : res = .inl (acc,n):=by rw [← hf]; rfl
      have HE:=hide hj
      have HRR:=hide hr
      clear hf hlt hst hj hr
      go_wp2_with fail
      go_end0
      rw [HRR.o]
      exact ⟨rfl,HE.o⟩
    | true =>
      have hf2 : bindR (one n) (fun a n1 => if isT ts n1 sep.data.toList = true then pEach ts sep.data.toList one f true (acc ++ [a]) (n1 + 1) else .inl (acc ++ [a],n1)) = res:=hf
      have HN:=hide (nOf_st hst)
      have hnl:=hst.2.1
      have KO:=hide (H1.o acc n wr hj)
      have HF2:=hide hf2
      have HLT:=hide (And.intro hlt hnl)
      clear hf hf2 hst hj hlt hnl
      go_wp2_with fail
      refine KO.o.mono ?_
      rintro e w1 hp
      cases ho : one n with
      | inr m =>
        rw [ho] at hp
        obtain ⟨rfl,hg⟩:=hp
        have hr : res = .inr m:=by rw [← HF2.o,ho]; rfl
        have HRR:=hide hr
        have HG:=hide hg
        clear hr hg ho
        unfold gaveUpAt
        go_wp2_with fail
        refine ⟨rfl,?_⟩
        rw [HRR.o]
        exact ⟨rfl,HG.o⟩
      | inl p =>
        obtain ⟨a,n1⟩:=p
        rw [ho] at hp
        obtain ⟨rfl,hj1⟩:=hp
        have hle:=HM.o _ _ _ ho
        have hst1:=HJ.o _ _ _ hj1
        have hnl1:=hst1.2.1
        have KT:=hide (takes_c sep HS.o n1 w1 hst1)
        have hr0:=HF2.o
        rw [ho,bindR_inl] at hr0
        have HR0:=hide hr0
        have HJ1:=hide hj1
        have HLE:=hide (And.intro hle hnl1)
        clear hr0 hj1 hle hnl1 ho hst1
        go_wp2_with fail
        refine KT.o.mono ?_
        rintro e w2 ⟨rfl,hg2,hst2⟩
        obtain ⟨q,hq⟩:=nm (isT ts n1 sep.data.toList)
        rw [← hq] at hst2 ⊢
        have HQ:=hide hq
        have HST2:=hide hst2
        have HG2:=hide hg2
        have HN2:=hide (nOf_st hst2)
        clear hq hst2 hg2
        go_wp2_with fail
        have hl:=HLE.o
        have hl2:=HLT.o
        have hn0:=HN.o
        have hn2:=HN2.o
        cases q with
        | true =>
          have hlt1 : n1 < ts.length:=isT_lt HQ.o.symm HS.o
          refine ⟨⟨true,acc ++ [a],n1 + 1,f,rfl,HT.o _ _ _ _ _ HJ1.o (by omega) HG2.o (by simpa using HST2.o),?_,by omega⟩,?_⟩
          · have:=HR0.o
            rw [← HQ.o] at this
            simpa using this
          · simp at hn2
            simp [bOf]
            omega
        | false =>
          refine ⟨⟨false,acc ++ [a],n1,f + 1,rfl,HT.o _ _ _ _ _ HJ1.o (Nat.le_refl _) HG2.o (by simpa using HST2.o),?_,by omega⟩,?_⟩
          · have:=HR0.o
            rw [← HQ.o] at this
            rw [← show (Sum.inl (acc ++ [a],n1) : Res (List α)) = res by simpa using this]
            rfl
          · simp at hn2
            simp [bOf]
            omega
end
theorem Tryz.infoStr : (Tryz.prog.info? 9).map (fun i => (i.zero,i.size,i.bytes)) = some (some (.string ⟨#[]⟩),1,16):=by kernel_rfl
theorem res_cases {α : Type} : ∀ r : Res α,(∃ m,r = .inr m)∨∃ a n,r = .inl (a,n)
  | .inr m => Or.inl ⟨m,rfl⟩
  | .inl (a,n) => Or.inr ⟨a,n,rfl⟩
/-- a list in a box of its own (lb), the reader's pointer in another one (xb). -/
structure Gro {α : Type} (w0 : World) (rb : Nat) (tv : Value) (ts : List Tok) (en n0 lb xb T s : Nat) (R : World→List Value→α→Prop) (acc : List α) (n : Nat) (w : World) : Prop where
  st0 : St rb tv ts en n0 w0
  st : St rb tv ts en n w
  gr : w0.grownBy w (some rb)
  l0 : w0.heap.size≤lb
  l1 : lb < w0.heap.size + 2
  x0 : w0.heap.size≤xb
  x1 : xb < w0.heap.size + 2
  ne : lb≠xb
  sz : w0.heap.size + 2≤w.heap.size
  xc : w.cell? ⟨xb,0,none⟩ = some (.pointer (some ⟨rb,0,none⟩))
  fz : ∀ j,w.frozen? ⟨lb,j,none⟩ = false
  few : acc.length≤n
  row : ∃ v,w.cell? ⟨lb,0,none⟩ = some v∧Cop (w0.heap.size + 2) T s (fun i cs W => ∀ x,acc[i]? = some x→R W cs x) acc.length v w
section
variable {α : Type} {w0 : World} {rb : Nat} {tv : Value} {ts : List Tok} {en n0 lb xb T s : Nat} {R : World→List Value→α→Prop} {acc : List α} {n n1 : Nat} {w w1 W2 W3 : World} {v v2 : Value} {xs cs : List Value} {a : α}
theorem Gro.rlt (h : Gro w0 rb tv ts en n0 lb xb T s R acc n w) : rb < w0.heap.size:=h.st0.lt
/-- the reader has gone on. -/
theorem Gro.move (h : Gro w0 rb tv ts en n0 lb xb T s R acc n w) (hn : n≤n1) (hg : w.grownBy w1 (some rb)) (hs : St rb tv ts en n1 w1) : Gro w0 rb tv ts en n0 lb xb T s R acc n1 w1:=by
  obtain ⟨v,hv,hc⟩:=h.row
  have hr:=h.rlt
  have h0:=h.l0
  have h2:=h.x0
  have hlr : some lb≠some rb:=fun e => by injection e with e; omega
  have hxr : some xb≠some rb:=fun e => by injection e with e; omega
  refine ⟨h.st0,hs,grownBy_trans h.gr hg,h.l0,h.l1,h.x0,h.x1,h.ne,Nat.le_trans h.sz hg.size,hg.cell h.xc hxr,fun j => ?_,Nat.le_trans h.few hn,v,hg.cell hv hlr,hc.keep hg (by omega)⟩
  rw [World.frozen?_of_block (a:=⟨lb,j,none⟩) (hg.block lb (bL hv) hlr)]
  exact h.fz j
/-- the row as it lies when one more comes to it. -/
theorem Gro.app (h : Gro w0 rb tv ts en n0 lb xb T s R acc n w) (hv : w.cell? ⟨lb,0,none⟩ = some v) (hg : w.grownBy w1 (some rb)) (hb : Ov w1 W2) : ∃ xs,W2.ownsRow (w0.heap.size + 2) T s v acc.length xs∧(∀ i,i < acc.length→∃ cs : List Value,cs.length = s∧(∀ j u,cs[j]? = some u→xs[i * s + j]? = some u)∧Off (w0.heap.size + 2) v.ownBlock W2 (fun W => ∀ x,acc[i]? = some x→R W cs x))∧∀ k,v.ownBlock = some k→k < w.heap.size:=by
  obtain ⟨v',hv',hc⟩:=h.row
  rw [hv] at hv'
  injection hv' with hv'
  subst hv'
  have hr:=h.rlt
  obtain ⟨xs,h1,h2⟩:=(hc.keep hg (by omega)).over hb
  obtain ⟨ys,h3,-⟩:=hc
  exact ⟨xs,h1,h2,fun k hk => (own_lt h3 hk).2⟩
/-- one more. -/
theorem Gro.add (h : Gro w0 rb tv ts en n0 lb xb T s R acc n w) (hv : w.cell? ⟨lb,0,none⟩ = some v) (hg : w.grownBy w1 (some rb)) (hs : St rb tv ts en n1 w1) (hn : n + 1≤n1) (hb : Ov w1 W2)
    (hown : W2.ownsRow (w0.heap.size + 2) T s v acc.length xs) (hel : ∀ i,i < acc.length→∃ cs : List Value,cs.length = s∧(∀ j u,cs[j]? = some u→xs[i * s + j]? = some u)∧Off (w0.heap.size + 2) v.ownBlock W2 (fun W => ∀ x,acc[i]? = some x→R W cs x)) (hrow : ∀ k,v.ownBlock = some k→k < w.heap.size)
    (hl : cs.length = s) (hoff : Off w.heap.size none w1 (fun W => R W cs a)) (hown3 : W3.ownsRow (w0.heap.size + 2) T s v2 (acc.length + 1) (xs ++ cs)) (hgr : W2.grownBy W3 v.ownBlock) (hat : v2.ownBlock = v.ownBlock∨v2.ownBlock = some W2.heap.size) :
    Gro w0 rb tv ts en n0 lb xb T s R (acc ++ [a]) n1 (W3.setCell ⟨lb,0,none⟩ v2)∧W3.cell? ⟨lb,0,none⟩ = some v∧W3.cell? ⟨xb,0,none⟩ = some (.pointer (some ⟨rb,0,none⟩))∧W3.frozen? ⟨lb,0,none⟩ = false:=by
  have hr:=h.rlt
  have h0:=h.l0
  have h1:=h.l1
  have h2:=h.x0
  have h3:=h.x1
  have hsz:=h.sz
  have hlr : some lb≠some rb:=fun e => by injection e with e; omega
  have hxr : some xb≠some rb:=fun e => by injection e with e; omega
  have hnb : ∀ k,k < w0.heap.size + 2→some k≠v.ownBlock:=fun k hk e => by have:=(own_lt hown e.symm).1; omega
  have l1:=ce1 hb (hg.cell hv hlr)
  have x1:=ce1 hb (hg.cell h.xc hxr)
  have f1 : ∀ j,W2.frozen? ⟨lb,j,none⟩ = false:=fun j => by
    rw [World.frozen?_of_block (a:=⟨lb,j,none⟩) (hb.block lb (Nat.lt_of_lt_of_le (bL hv) hg.size)),World.frozen?_of_block (a:=⟨lb,j,none⟩) (hg.block lb (bL hv) hlr)]
    exact h.fz j
  have l3 : W3.cell? ⟨lb,0,none⟩ = some v:=(World.cell?_of_block (a:=⟨lb,0,none⟩) (hgr.block lb (bL l1) (hnb lb h1))).trans l1
  have x3 : W3.cell? ⟨xb,0,none⟩ = some (.pointer (some ⟨rb,0,none⟩)):=(World.cell?_of_block (a:=⟨xb,0,none⟩) (hgr.block xb (bL x1) (hnb xb h3))).trans x1
  have f3 : ∀ j,W3.frozen? ⟨lb,j,none⟩ = false:=fun j => (World.frozen?_of_block (a:=⟨lb,j,none⟩) (hgr.block lb (bL l1) (hnb lb h1))).trans (f1 j)
  have hg2 : w0.grownBy W2 (some rb):=grownBy_trans (grownBy_trans h.gr hg) (grownBy_below hb)
  have hg3 : w0.grownBy W3 (some rb):=⟨hgr.os.trans hg2.os,hgr.tape.trans hg2.tape,hgr.output.trans hg2.output,Nat.le_trans hg2.size hgr.size,fun k hk hne => (hgr.block k (Nat.lt_of_lt_of_le hk hg2.size) (hnb k (by omega))).trans (hg2.block k hk hne)⟩
  have hs4 : (W3.setCell ⟨lb,0,none⟩ v2).heap.size = W3.heap.size:=by simp [World.setCell]
  have hg4 : w0.grownBy (W3.setCell ⟨lb,0,none⟩ v2) (some rb):=grownBy_setCell hg3 h0 v2
  have hrb : (W3.setCell ⟨lb,0,none⟩ v2).heap[rb]? = w1.heap[rb]?:=by
    rw [Below.heap_setCell _ _ _ _ (by show rb≠lb; omega),hgr.block rb (Nat.lt_of_lt_of_le hr hg2.size) (hnb rb (by omega)),hb.block rb hs.lt]
  have hst4 : St rb tv ts en n1 (W3.setCell ⟨lb,0,none⟩ v2):=h.st0.keep hg4 (by rw [hrb]; exact hs.1) hs.2.1
  have hcop : Cop (w0.heap.size + 2) T s (fun i cs W => ∀ x,(acc ++ [a])[i]? = some x→R W cs x) (acc.length + 1) v2 W3:=Cop.add (B1:=w.heap.size) hown (fun i hi => by
      obtain ⟨ds,q1,q2,q3⟩:=hel i hi
      exact ⟨ds,q1,q2,q3.imp fun W hW x hx => hW x (by rw [List.getElem?_append_left hi] at hx; exact hx)⟩) hl ((hoff.over hb).imp fun W hW x hx => by
        rw [List.getElem?_append_right (Nat.le_refl _),Nat.sub_self] at hx
        injection hx with hx
        rw [← hx]; exact hW) hsz hrow hown3 hgr hat
  refine ⟨⟨h.st0,hst4,hg4,h0,h1,h2,h3,h.ne,by rw [hs4]; exact Nat.le_trans hsz (Nat.le_trans hg.size (Nat.le_trans hb.size hgr.size)),?_,fun j => ?_,?_,v2,?_,?_⟩,l3,x3,f3 0⟩
  · have:=(grow_set1 (w:=W3) (r:=lb) (j:=0) (u:=v2)).cell x3 (fun e => by injection e with e; exact h.ne e.symm)
    exact this
  · have : (W3.setCell ⟨lb,0,none⟩ v2).frozen? ⟨lb,j,none⟩ = W3.frozen? ⟨lb,j,none⟩:=by simp [go_sem]
    rw [this]; exact f3 j
  · have:=h.few
    simp
    omega
  · exact World.cell?_setCell_same' _ _ _ (by rw [l3]; rfl)
  · rw [List.length_append]
    exact hcop.set (by omega)
end
set_option maxHeartbeats 4000000 in
set_option maxRecDepth 100000 in
theorem namesOne {w0 : World} {rb : Nat} {tv : Value} {ts : List Tok} {en n0 lb xb : Nat} (acc : List ByteArray) (n : Nat) (w : World) (h : Gro w0 rb tv ts en n0 lb xb 9 1 (fun _ cs x => cs = [Value.string x]) acc n w) :
    Calls Tryz.prog 154 #[.pointer (some ⟨lb,0,none⟩),.pointer (some ⟨xb,0,none⟩)] w (PostC ts en (pName ts n) (fun a n1 e w' => e = .returned (.tuple #[])∧Gro w0 rb tv ts en n0 lb xb 9 1 (fun _ cs x => cs = [Value.string x]) (acc ++ [a]) n1 w') (fun w' => w0.grownBy w' (some rb))):=by
  obtain ⟨i0,hi,hz0,hz1,hz2⟩:=info_parts Tryz.infoStr
  obtain ⟨v,l0,-⟩:=h.row
  have x0:=h.xc
  have HGRO:=hide h
  have HL:=hide l0
  have KN : Hx (∀ X,St rb tv ts en n X→_):=fun X hX => name_c n X hX
  have HM : Hx (∀ n a n1,pName ts n = .inl (a,n1)→n + 1≤n1):=fun n a n1 h => by
    unfold pName at h
    split at h
    · injection h with h; injection h with _ h; omega
    · cases h
  clear h
  go_enter Tryz.func154,Tryz.ntmps154
  go_wp2_with fail
  refine gS (fun Wz => Wz.cell? ⟨xb,0,none⟩ = some (.pointer (some ⟨rb,0,none⟩))) (ce1 (bD w) x0) fun hHeld => ?_
  have HW0 : Hx (Ov w w.drew):=bD w
  have l00:=ce1 (bD w) l0
  generalize w.drew = W at hHeld l00 HW0 ⊢
  refine kT 1 ?_
  refine rdB 0 2 rfl (fun K hK => ?_) rfl fun K hK => ?_
  · go_simp
    refine xK hK (hHeld) fun hHeld => ?_
    clear hK K
    refine rdA 2 rfl fun K hK => ?_
    have HDD : Hx (Ov w W):=HW0.o
    go_simp
    refine (KN.o _ (HGRO.o.st.below HDD.o)).mono ?_
    rintro e w1 hp
    obtain ⟨m,ho⟩ | ⟨a,n1,ho⟩:=res_cases (pName ts n)
    · rw [ho] at hp
      obtain ⟨rfl,hg⟩:=hp
      have HG:=hide (grownBy_trans (grownBy_trans HGRO.o.gr (grownBy_below HDD.o)) hg)
      have HO:=hide ho
      clear hg ho hK hHeld
      unfold gaveUpAt
      go_simp
      refine ⟨rfl,?_⟩
      rw [HO.o]
      exact ⟨rfl,HG.o⟩
    rw [ho] at hp
    obtain ⟨rfl,hg1,hst1⟩:=hp
    have HOFF : Hx (Off w.heap.size none w1 (fun W => [Value.string a] = [Value.string a])):=fun W _ => rfl
    have HO:=hide ho
    have hgw : w.grownBy w1 (some rb):=grownBy_trans (grownBy_below HDD.o) hg1
    have HG1:=hide hgw
    have HST1:=hide hst1
    have hlr : some lb≠some rb:=fun e => by injection e with e; have:=HGRO.o.rlt; have:=HGRO.o.l0; omega
    have hxr : some xb≠some rb:=fun e => by injection e with e; have:=HGRO.o.rlt; have:=HGRO.o.x0; omega
    have l1 : w1.cell? ⟨lb,0,none⟩ = some v:=hgw.cell HL.o hlr
    have x1 : w1.cell? ⟨xb,0,none⟩ = some (.pointer (some ⟨rb,0,none⟩)):=hgw.cell HGRO.o.xc hxr
    clear ho hg1 hst1 hgw hlr hxr hHeld
    go_simp
    refine xK hK (x1) fun hHeld => ?_
    clear hK K
    refine rdA 3 rfl fun K hK => ?_
    obtain ⟨W2,hW2⟩:=nm (w1.alloc (.cells #[.string a] 9))
    have hb2 : Ov w1 W2:=by rw [hW2]; exact bA _ _
    have HN2 : Hx (RowAt [.string a] W2 w1.heap.size):=by show RowAt _ _ _; rw [hW2]; exact al10 w1 [.string a] 9
    have l2:=ce1 hb2 l1
    have x2:=ce1 hb2 x1
    have HB2:=hide hb2
    go_simp
    rw [← hW2]
    clear hW2 hb2
    refine xK hK (x2) fun hHeld => ?_
    clear hK K
    refine rdA 4 rfl fun K hK => ?_
    obtain ⟨xs,hown,hel,hrow⟩:=HGRO.o.app HL.o HG1.o HB2.o
    have hs2 : w0.heap.size + 2≤W2.heap.size:=Nat.le_trans HGRO.o.sz (Nat.le_trans HG1.o.size HB2.o.size)
    have hfw : acc.length≤6000:=Nat.le_trans HGRO.o.few (Nat.le_trans HGRO.o.st.2.1 HGRO.o.st.2.2.1)
    obtain ⟨v2,W3,hrun,hown3,hgr3,-,hat⟩:=run_append_own_at (P:=Tryz.prog) (w:=W2) (w0.heap.size + 2) 46 46 9 i0 (.string ⟨#[]⟩) 1 16 Tryz.underlying46 hi hz0 hz1 hz2 rfl (by decide) _ _ _ hown ⟨w1.heap.size,0,none⟩ 1 1 [.string a] rfl (fun jj u hu => by rw [Addr.add_lit,Nat.zero_add]; exact HN2.o jj u hu) (by simp [Value.oneCell']) (by unfold maxLen; omega) (by omega) hs2
    obtain ⟨hgro,l3,x3,f3⟩:=HGRO.o.add (a:=a) HL.o HG1.o HST1.o (HM.o _ _ _ HO.o) HB2.o hown hel hrow rfl HOFF.o hown3 hgr3 hat
    have HFIN:=hide hgro
    obtain ⟨va2,vn2,vc2,hv2⟩:=own_form hown3
    subst hv2
    refine step_appJ rfl _ _ _ rfl _ _ _ _ rfl rfl hrun ?_
    clear hrun hown hel hown3 hgr3 hat hgro hrow hfw hs2
    refine xK hK (x3) fun hHeld => ?_
    clear hK K
    refine rdA 5 rfl fun K hK => ?_
    go_simp
    refine xK hK (HFIN.o.xc) fun hHeld => ?_
    clear hK K
    refine gE ?_
    go_wp2_with fail
    go_end0
    rw [HO.o]
    exact ⟨rfl,HFIN.o⟩
  · have HDD : Hx (Ov w W):=HW0.o
    go_simp
    refine (KN.o _ (HGRO.o.st.below HDD.o)).mono ?_
    rintro e w1 hp
    obtain ⟨m,ho⟩ | ⟨a,n1,ho⟩:=res_cases (pName ts n)
    · rw [ho] at hp
      obtain ⟨rfl,hg⟩:=hp
      have HG:=hide (grownBy_trans (grownBy_trans HGRO.o.gr (grownBy_below HDD.o)) hg)
      have HO:=hide ho
      clear hg ho hK hHeld
      unfold gaveUpAt
      go_simp
      refine ⟨rfl,?_⟩
      rw [HO.o]
      exact ⟨rfl,HG.o⟩
    rw [ho] at hp
    obtain ⟨rfl,hg1,hst1⟩:=hp
    have HOFF : Hx (Off w.heap.size none w1 (fun W => [Value.string a] = [Value.string a])):=fun W _ => rfl
    have HO:=hide ho
    have hgw : w.grownBy w1 (some rb):=grownBy_trans (grownBy_below HDD.o) hg1
    have HG1:=hide hgw
    have HST1:=hide hst1
    have hlr : some lb≠some rb:=fun e => by injection e with e; have:=HGRO.o.rlt; have:=HGRO.o.l0; omega
    have hxr : some xb≠some rb:=fun e => by injection e with e; have:=HGRO.o.rlt; have:=HGRO.o.x0; omega
    have l1 : w1.cell? ⟨lb,0,none⟩ = some v:=hgw.cell HL.o hlr
    have x1 : w1.cell? ⟨xb,0,none⟩ = some (.pointer (some ⟨rb,0,none⟩)):=hgw.cell HGRO.o.xc hxr
    clear ho hg1 hst1 hgw hlr hxr hHeld
    go_simp
    refine xK hK (x1) fun hHeld => ?_
    clear hK K
    refine rdB 0 3 rfl (fun K hK => ?_) rfl fun K hK => ?_
    · go_simp
      refine xK hK (hHeld) fun hHeld => ?_
      clear hK K
      refine rdA 3 rfl fun K hK => ?_
      obtain ⟨W2,hW2⟩:=nm (w1.alloc (.cells #[.string a] 9))
      have hb2 : Ov w1 W2:=by rw [hW2]; exact bA _ _
      have HN2 : Hx (RowAt [.string a] W2 w1.heap.size):=by show RowAt _ _ _; rw [hW2]; exact al10 w1 [.string a] 9
      have l2:=ce1 hb2 l1
      have x2:=ce1 hb2 x1
      have HB2:=hide hb2
      go_simp
      rw [← hW2]
      clear hW2 hb2
      refine xK hK (x2) fun hHeld => ?_
      clear hK K
      refine rdA 4 rfl fun K hK => ?_
      obtain ⟨xs,hown,hel,hrow⟩:=HGRO.o.app HL.o HG1.o HB2.o
      have hs2 : w0.heap.size + 2≤W2.heap.size:=Nat.le_trans HGRO.o.sz (Nat.le_trans HG1.o.size HB2.o.size)
      have hfw : acc.length≤6000:=Nat.le_trans HGRO.o.few (Nat.le_trans HGRO.o.st.2.1 HGRO.o.st.2.2.1)
      obtain ⟨v2,W3,hrun,hown3,hgr3,-,hat⟩:=run_append_own_at (P:=Tryz.prog) (w:=W2) (w0.heap.size + 2) 46 46 9 i0 (.string ⟨#[]⟩) 1 16 Tryz.underlying46 hi hz0 hz1 hz2 rfl (by decide) _ _ _ hown ⟨w1.heap.size,0,none⟩ 1 1 [.string a] rfl (fun jj u hu => by rw [Addr.add_lit,Nat.zero_add]; exact HN2.o jj u hu) (by simp [Value.oneCell']) (by unfold maxLen; omega) (by omega) hs2
      obtain ⟨hgro,l3,x3,f3⟩:=HGRO.o.add (a:=a) HL.o HG1.o HST1.o (HM.o _ _ _ HO.o) HB2.o hown hel hrow rfl HOFF.o hown3 hgr3 hat
      have HFIN:=hide hgro
      obtain ⟨va2,vn2,vc2,hv2⟩:=own_form hown3
      subst hv2
      refine step_appJ rfl _ _ _ rfl _ _ _ _ rfl rfl hrun ?_
      clear hrun hown hel hown3 hgr3 hat hgro hrow hfw hs2
      refine xK hK (x3) fun hHeld => ?_
      clear hK K
      refine rdA 5 rfl fun K hK => ?_
      go_simp
      refine xK hK (HFIN.o.xc) fun hHeld => ?_
      clear hK K
      refine gE ?_
      go_wp2_with fail
      go_end0
      rw [HO.o]
      exact ⟨rfl,HFIN.o⟩
    · obtain ⟨W2,hW2⟩:=nm (w1.alloc (.cells #[.string a] 9))
      have hb2 : Ov w1 W2:=by rw [hW2]; exact bA _ _
      have HN2 : Hx (RowAt [.string a] W2 w1.heap.size):=by show RowAt _ _ _; rw [hW2]; exact al10 w1 [.string a] 9
      have l2:=ce1 hb2 l1
      have x2:=ce1 hb2 x1
      have HB2:=hide hb2
      go_simp
      rw [← hW2]
      clear hW2 hb2
      refine xK hK (x2) fun hHeld => ?_
      clear hK K
      refine rdA 0 rfl fun K hK => ?_
      go_simp
      refine xK hK (hHeld) fun hHeld => ?_
      clear hK K
      refine rdA 4 rfl fun K hK => ?_
      obtain ⟨xs,hown,hel,hrow⟩:=HGRO.o.app HL.o HG1.o HB2.o
      have hs2 : w0.heap.size + 2≤W2.heap.size:=Nat.le_trans HGRO.o.sz (Nat.le_trans HG1.o.size HB2.o.size)
      have hfw : acc.length≤6000:=Nat.le_trans HGRO.o.few (Nat.le_trans HGRO.o.st.2.1 HGRO.o.st.2.2.1)
      obtain ⟨v2,W3,hrun,hown3,hgr3,-,hat⟩:=run_append_own_at (P:=Tryz.prog) (w:=W2) (w0.heap.size + 2) 46 46 9 i0 (.string ⟨#[]⟩) 1 16 Tryz.underlying46 hi hz0 hz1 hz2 rfl (by decide) _ _ _ hown ⟨w1.heap.size,0,none⟩ 1 1 [.string a] rfl (fun jj u hu => by rw [Addr.add_lit,Nat.zero_add]; exact HN2.o jj u hu) (by simp [Value.oneCell']) (by unfold maxLen; omega) (by omega) hs2
      obtain ⟨hgro,l3,x3,f3⟩:=HGRO.o.add (a:=a) HL.o HG1.o HST1.o (HM.o _ _ _ HO.o) HB2.o hown hel hrow rfl HOFF.o hown3 hgr3 hat
      have HFIN:=hide hgro
      obtain ⟨va2,vn2,vc2,hv2⟩:=own_form hown3
      subst hv2
      refine step_appJ rfl _ _ _ rfl _ _ _ _ rfl rfl hrun ?_
      clear hrun hown hel hown3 hgr3 hat hgro hrow hfw hs2
      refine xK hK (x3) fun hHeld => ?_
      clear hK K
      refine rdA 5 rfl fun K hK => ?_
      go_simp
      refine xK hK (HFIN.o.xc) fun hHeld => ?_
      clear hK K
      refine gE ?_
      go_wp2_with fail
      go_end0
      rw [HO.o]
      exact ⟨rfl,HFIN.o⟩
/-- a list in memory, each part by itself. -/
def LS {α : Type} (size : Nat) (R : List Value→α→Prop) (w : World) (v : Value) (l : List α) : Prop :=
  l.length≤maxLen∧∃ ao cap,v = .slice ao l.length cap∧(l≠[]→∃ b off,ao = some ⟨b,off,none⟩∧∀ (i : Nat) (a : α),l[i]? = some a→∃ cs : List Value,cs.length = size∧(∀ (j : Nat) (u : Value),cs[j]? = some u→w.cell? ⟨b,off + i * size + j,none⟩ = some u)∧R cs a)
/-- names in memory. -/
abbrev RN (cs : List Value) (a : ByteArray) : Prop:=cs = [Value.string a]
abbrev StrsAt (w : World) (v : Value) (l : List ByteArray) : Prop:=LS 1 RN w v l
theorem LS.nil {α : Type} {size : Nat} {R : List Value→α→Prop} {w : World} {ao : Option Addr} {cap : Nat} : LS size R w (.slice ao 0 cap) []:=⟨Nat.zero_le _,ao,cap,rfl,fun h => absurd rfl h⟩
theorem Cop.ls {α : Type} {B T s : Nat} {R : World→List Value→α→Prop} {l : List α} {v : Value} {w : World} (h : Cop B T s (fun i cs W => ∀ x,l[i]? = some x→R W cs x) l.length v w) (hs : 0 < s) (hl : l.length≤1000000) : ∃ a c,v = .slice a l.length c∧Off B none w (fun W => LS s (R W) W (.slice a l.length c) l):=by
  obtain ⟨a,c,hv,ho⟩:=h.cells hs
  refine ⟨a,c,hv,fun W hW => ⟨by unfold maxLen; omega,a,c,rfl,fun hne => ?_⟩⟩
  obtain ⟨b,hb,he⟩:=ho W hW (fun e => hne (List.eq_nil_of_length_eq_zero e))
  refine ⟨b,0,hb,fun i x hx => ?_⟩
  obtain ⟨cs,h1,h2,h3⟩:=he i (List.getElem?_eq_some_iff.1 hx).1
  exact ⟨cs,h1,fun j u hu => by rw [Nat.zero_add]; exact h2 j u hu,h3 x hx⟩
theorem allocAt (w : World) (o : Obj) : (w.alloc o).heap[w.heap.size]? = some o:=by
  show (w.heap.push o)[w.heap.size]? = some o
  simp
theorem Gro.start {α : Type} {rb : Nat} {tv : Value} {ts : List Tok} {en n T s : Nat} {R : World→List Value→α→Prop} {w : World} (h : St rb tv ts en n w) (S : Nat) :
    Gro w rb tv ts en n (w.heap.size + 1) w.heap.size T s R [] n ((w.alloc (.cells #[.pointer (some ⟨rb,0,none⟩)] 91)).alloc (.cells #[.slice none 0 0] S)):=by
  have hb : Ov w ((w.alloc (.cells #[.pointer (some ⟨rb,0,none⟩)] 91)).alloc (.cells #[.slice none 0 0] S)):=(bA w _).alloc (by simp) _
  refine ⟨h,h.below hb,grownBy_below hb,by omega,by omega,by omega,by omega,by omega,by simp,?_,fun j => ?_,Nat.zero_le _,.slice none 0 0,?_,Cop.nil⟩
  · exact ce1 (bA _ _) (al10 w [.pointer (some ⟨rb,0,none⟩)] 91 0 _ rfl)
  · have hx:=allocAt (w.alloc (.cells #[.pointer (some ⟨rb,0,none⟩)] 91)) (.cells #[.slice none 0 0] S)
    rw [alS] at hx
    exact Lib.frozen_of_heap hx j
  · have:=al10 (w.alloc (.cells #[.pointer (some ⟨rb,0,none⟩)] 91)) [.slice none 0 0] S 0 _ rfl
    rw [alS] at this
    exact this
theorem call154 (args : Array Value) (w : World) : (callFunc 154 args).run Tryz.prog w = .ok (.enter 154 args) w:=by simp [go_sem]
theorem pName_lt {ts : List Tok} {n : Nat} {a : ByteArray} {n1 : Nat} (h : pName ts n = .inl (a,n1)) : n + 1≤n1:=by
  unfold pName at h
  split at h
  · injection h with h; injection h with _ h; omega
  · cases h
set_option maxHeartbeats 2000000 in
set_option maxRecDepth 100000 in
theorem names_c {rb : Nat} {tv : Value} {ts : List Tok} {en : Nat} (sm : Bool) (n : Nat) (w : World) (h : St rb tv ts en n w) :
    Calls Tryz.prog 132 #[.pointer (some ⟨rb,0,none⟩),.bool sm] w (PostC ts en (pNames ts sm n) (fun l n1 e w' => ∃ a c,e = .returned (.slice a l.length c)∧Off w.heap.size none w' (fun W => StrsAt W (.slice a l.length c) l)∧l.length≤6000∧w.grownBy w' (some rb)∧St rb tv ts en n1 w') (fun w' => w.grownBy w' (some rb))):=by
  obtain ⟨V,hV⟩:=nm ((w.alloc (.cells #[.pointer (some ⟨rb,0,none⟩)] 91)).alloc (.cells #[.slice none 0 0] 46))
  have hG : Gro w rb tv ts en n (w.heap.size + 1) w.heap.size 9 1 (fun _ cs x => cs = [Value.string x]) [] n V:=by rw [hV]; exact Gro.start h 46
  have KE:=hide (each_c (rb:=rb) (tv:=tv) (ts:=ts) (en:=en) 154 [.pointer (some ⟨w.heap.size + 1,0,none⟩),.pointer (some ⟨w.heap.size,0,none⟩)] call154 ⟨#[44]⟩ (by decide) (pName ts) (fun acc n2 w' => Gro w rb tv ts en n (w.heap.size + 1) w.heap.size 9 1 (fun _ cs x => cs = [Value.string x]) acc n2 w') (fun w' => w.grownBy w' (some rb)) (fun _ _ _ h => h.st) (fun _ _ _ h => Nat.le_of_lt (pName_lt h)) (fun _ _ _ _ _ h hn hg hs => h.move hn hg hs) (fun acc n w' h => namesOne acc n w' h) sm n V hG)
  obtain ⟨res,hres⟩:=nm (pNames ts sm n)
  rw [← hres]
  have HR:=hide hres
  clear hG h hres
  go_enter Tryz.func132,Tryz.ntmps132
  go_wp2_with fail
  rw [← hV]
  clear hV
  refine KE.o.mono ?_
  rintro e w1 hp
  have hres:=HR.o
  obtain ⟨m,ho⟩ | ⟨l,n1,ho⟩:=res_cases (pNames ts sm n)
  · have hp2 : PostC ts en (pNames ts sm n) _ _ e w1:=hp
    rw [ho] at hp2
    obtain ⟨rfl,hg⟩:=hp2
    have HG:=hide hg
    have HO:=hide (hres.trans ho)
    clear hg ho hres hp
    unfold gaveUpAt
    go_wp2_with fail
    refine ⟨rfl,?_⟩
    rw [HO.o]
    exact ⟨rfl,HG.o⟩
  · have hp2 : PostC ts en (pNames ts sm n) _ _ e w1:=hp
    rw [ho] at hp2
    obtain ⟨rfl,hg⟩:=hp2
    obtain ⟨v,hv,hc⟩:=hg.row
    have hfw : l.length≤6000:=Nat.le_trans hg.few (Nat.le_trans hg.st.2.1 hg.st.2.2.1)
    obtain ⟨a,c,rfl,hoff⟩:=Cop.ls hc (by decide) (by omega)
    have HO:=hide (hres.trans ho)
    have HG:=hide hg
    have HOFF:=hide (hoff.base (B':=w.heap.size) (by omega))
    have HFW:=hide hfw
    obtain ⟨k,hk⟩:=nm l.length
    rw [← hk] at hv
    have HK:=hide hk
    clear ho hg hc hoff hres hp hfw hk
    go_wp2_with fail
    go_ret
    rw [HO.o]
    exact ⟨a,c,by rw [HK.o]; rfl,HOFF.o,HFW.o,HG.o.gr,HG.o.st⟩
/-- parts of a thing of a tree. -/
def gD (i : Nat) : D→D
  | .agg l => l.getD i (.agg [])
  | _ => .agg []
def asI : D→Int
  | .lit (.int _ n) => n
  | _ => 0
def asS : D→List UInt8
  | .lit (.string x) => x
  | _ => []
def asB : D→Bool
  | .lit (.bool b) => b
  | _ => false
def asL : D→List D
  | .slice l _ => l
  | _ => []
abbrev gI (i : Nat) (d : D) : Int:=asI (gD i d)
abbrev gZ (i : Nat) (d : D) : List UInt8:=asS (gD i d)
abbrev gB (i : Nat) (d : D) : Bool:=asB (gD i d)
abbrev gL (i : Nat) (d : D) : List D:=asL (gD i d)
/-- how many parts may still be behind those of an expression; how many there are. -/
def plK : Nat→D→Int→Int
  | 0,_,left => left
  | k + 1,d,left => (gL 4 d).foldl (fun l a => if l < 0 then l else plK k a l) (left - 1)
def poK : Nat→D→Int→Int
  | 0,_,_ => 0
  | k + 1,d,en => (gL 4 d).foldl (fun n a => if n≤en then n + poK k a (en - n) else n) 1
theorem foldl_keep {α β : Type} (f : β→α→β) (P : β→Prop) (h : ∀ b a,P b→P (f b a)) : ∀ (l : List α) (b : β),P b→P (l.foldl f b)
  | [],b,hb => hb
  | a :: l,b,hb => foldl_keep f P h l _ (h b a hb)
theorem foldl_rel {α β γ : Type} (f : β→α→β) (g : γ→α→γ) (P : β→γ→Prop) (h : ∀ b c a,P b c→P (f b a) (g c a)) : ∀ (l : List α) (b : β) (c : γ),P b c→P (l.foldl f b) (l.foldl g c)
  | [],b,c,hb => hb
  | a :: l,b,c,hb => foldl_rel f g P h l _ _ (h b c a hb)
theorem poK_bd : ∀ (k : Nat) (d : D) (en : Int),0≤en→0≤poK k d en∧poK k d en≤en + 1
  | 0,d,en,h => by simp only [poK]; omega
  | k + 1,d,en,h => by
    simp only [poK]
    refine foldl_keep _ (fun n => 0≤n∧n≤en + 1) (fun n a hn => ?_) _ _ (by omega)
    split
    · have:=poK_bd k a (en - n) (by omega)
      omega
    · exact hn
theorem plK_po : ∀ (k : Nat) (d : D) (L : Int),0≤L→plK k d L = L - poK k d L
  | 0,d,L,h => by simp [plK,poK]
  | k + 1,d,L,h => by
    simp only [plK,poK]
    refine foldl_rel _ _ (fun l n => l = L - n) (fun l n a hl => ?_) _ _ _ (by omega)
    subst hl
    by_cases hn : n≤L
    · rw [if_neg (by omega),if_pos hn,plK_po k a (L - n) (by omega)]
      omega
    · rw [if_pos (by omega),if_neg hn]
theorem plK_bd (k : Nat) (d : D) (L : Int) (h : 0≤L) : -1≤plK k d L∧plK k d L≤L:=by
  have h1:=plK_po k d L h
  have h2:=poK_bd k d L h
  omega
/-- an expression has too many parts. -/
def longE (ke : Nat) (d : D) : Bool:=decide (plK ke d 15 < 0)
/-- a command has too much of something, but for the commands in it. -/
def muchS (ke : Nat) (s : D) : Bool:=decide (4 < (gL 5 s).length) || longE ke (gD 4 s) || (gL 5 s).any (longE ke)
/-- how many commands may still be behind these; how many there are. -/
def slF (ke : Nat) (rec : List D→Int→Int) (deep : Int) (st : Int × Bool) (s : D) : Int × Bool :=
  if st.2 = true then st else if st.1 - 1 < 0∨6 < deep∨muchS ke s = true then (-1,true) else (rec (gL 7 s) (rec (gL 6 s) (st.1 - 1)),false)
def slK (ke : Nat) : Nat→List D→Int→Int→Int
  | 0,_,_,left => left
  | k + 1,l,deep,left => (l.foldl (slF ke (fun l left => slK ke k l (deep + 1) left) deep) (left,false)).1
def csF (ke : Nat) (rec : List D→Int) (st : Int × Bool) (s : D) : Int × Bool :=
  if st.2 = true∨50 < st.1 then st else if muchS ke s = true then (51,true) else (st.1 + 1 + rec (gL 6 s) + rec (gL 7 s),false)
def csK (ke : Nat) : Nat→List D→Int→Int
  | 0,_,_ => 0
  | k + 1,l,deep => if l≠[]∧6 < deep then 51 else min 51 (l.foldl (csF ke (fun l => csK ke k l (deep + 1))) (0,false)).1
theorem csK_bd (ke : Nat) : ∀ (k : Nat) (l : List D) (deep : Int),0≤csK ke k l deep∧csK ke k l deep≤51
  | 0,l,deep => by simp only [csK]; omega
  | k + 1,l,deep => by
    simp only [csK]
    split
    · omega
    · have : 0≤(l.foldl (csF ke (fun l => csK ke k l (deep + 1))) (0,false)).1:=by
        refine foldl_keep _ (fun (st : Int × Bool) => 0≤st.1) (fun st s hst => ?_) _ _ (by simp)
        unfold csF
        have h1:=csK_bd ke k (gL 6 s) (deep + 1)
        have h2:=csK_bd ke k (gL 7 s) (deep + 1)
        split
        · exact hst
        split
        · simp
        · dsimp only; omega
      omega
theorem slK_cs (ke : Nat) : ∀ (k : Nat) (l : List D) (deep left : Int),-1≤left→left≤50→slK ke k l deep left = if csK ke k l deep≤left then left - csK ke k l deep else -1
  | 0,l,deep,left,h1,h2 => by
    have e1 : slK ke 0 l deep left = left:=rfl
    have e2 : csK ke 0 l deep = 0:=rfl
    rw [e1,e2]
    by_cases h : 0≤left
    · rw [if_pos h]; omega
    · rw [if_neg h]; omega
  | k + 1,l,deep,left,h1,h2 => by
    have IH:=slK_cs ke k
    have BD:=csK_bd ke k
    generalize hC : csK ke (k + 1) l deep = C
    have hS : slK ke (k + 1) l deep left = (l.foldl (slF ke (fun l left => slK ke k l (deep + 1) left) deep) (left,false)).1:=rfl
    rw [hS]
    clear hS
    replace hC : (if l≠[]∧6 < deep then 51 else min 51 (l.foldl (csF ke (fun l => csK ke k l (deep + 1))) (0,false)).1) = C:=hC
    by_cases hd : l≠[]∧6 < deep
    · rw [if_pos hd] at hC
      rw [if_neg (by omega)]
      clear hC
      obtain ⟨s,r,rfl⟩:=List.exists_cons_of_ne_nil hd.1
      rw [List.foldl_cons]
      have hs : slF ke (fun l left => slK ke k l (deep + 1) left) deep (left,false) s = (-1,true):=by
        unfold slF
        rw [if_neg (by simp),if_pos (Or.inr (Or.inl hd.2))]
      rw [hs]
      have hr:=foldl_keep (slF ke (fun l left => slK ke k l (deep + 1) left) deep) (fun st => st = ((-1,true) : Int × Bool)) (fun st a hst => by unfold slF; rw [hst]; simp) r (-1,true) rfl
      rw [hr]
    · rw [if_neg hd] at hC
      have key : ∀ (m : List D) (st : Int × Bool) (q : Int × Bool),(m = []∨deep≤6)→((st = (left - q.1,false)∧0≤q.1∧q.1≤left∧q.2 = false)∨(st.1 = -1∧left < q.1)) →
          ((m.foldl (slF ke (fun l left => slK ke k l (deep + 1) left) deep) st).1 = left - (m.foldl (csF ke (fun l => csK ke k l (deep + 1))) q).1∧(m.foldl (csF ke (fun l => csK ke k l (deep + 1))) q).1≤left)∨((m.foldl (slF ke (fun l left => slK ke k l (deep + 1) left) deep) st).1 = -1∧left < (m.foldl (csF ke (fun l => csK ke k l (deep + 1))) q).1):=by
        intro m
        induction m with
        | nil =>
          intro st q _ h
          rcases h with ⟨rfl,_,h,_⟩ | h
          · exact Or.inl ⟨rfl,h⟩
          · exact Or.inr h
        | cons s r ih =>
          intro st q hm h
          have hdp : deep≤6:=hm.elim (fun h => by cases h) id
          rw [List.foldl_cons,List.foldl_cons]
          refine ih _ _ (Or.inr hdp) ?_
          have b1:=BD (gL 6 s) (deep + 1)
          have b2:=BD (gL 7 s) (deep + 1)
          rcases h with ⟨rfl,hq0,hq,hq2⟩ | ⟨hst,hq⟩
          · unfold slF csF
            rw [if_neg (by simp),if_neg (show ¬ (q.2 = true∨50 < q.1) by simp [hq2]; omega)]
            by_cases hmu : muchS ke s = true
            · rw [if_pos (Or.inr (Or.inr hmu)),if_pos hmu]
              exact Or.inr ⟨rfl,by show left < 51; omega⟩
            · rw [if_neg hmu]
              by_cases hz : left - q.1 - 1 < 0
              · rw [if_pos (Or.inl hz)]
                exact Or.inr ⟨rfl,by dsimp only; omega⟩
              · rw [if_neg (fun h => h.elim hz (fun h => h.elim (fun h => by omega) hmu))]
                dsimp only
                rw [IH (gL 6 s) (deep + 1) (left - q.1 - 1) (by omega) (by omega)]
                by_cases ht : csK ke k (gL 6 s) (deep + 1)≤left - q.1 - 1
                · rw [if_pos ht,IH (gL 7 s) (deep + 1) _ (by omega) (by omega)]
                  by_cases he : csK ke k (gL 7 s) (deep + 1)≤left - q.1 - 1 - csK ke k (gL 6 s) (deep + 1)
                  · rw [if_pos he]
                    exact Or.inl ⟨by congr 1; omega,by omega,by omega,rfl⟩
                  · rw [if_neg he]
                    exact Or.inr ⟨rfl,by omega⟩
                · rw [if_neg ht,IH (gL 7 s) (deep + 1) _ (by omega) (by omega),if_neg (by omega)]
                  exact Or.inr ⟨rfl,by omega⟩
          · refine Or.inr ⟨?_,?_⟩
            · unfold slF
              split
              · exact hst
              · rw [if_pos (Or.inl (by omega))]
            · unfold csF
              split
              · exact hq
              split
              · show left < 51; omega
              · dsimp only; omega
      have hl : l = []∨deep≤6:=by
        by_cases h : l = []
        · exact Or.inl h
        · exact Or.inr (by
            by_cases h6 : deep≤6
            · exact h6
            · exact absurd ⟨h,by omega⟩ hd)
      have h0 : ((((left,false) : Int × Bool) = (left - ((0,false) : Int × Bool).1,false)∧(0:Int)≤((0,false) : Int × Bool).1∧((0,false) : Int × Bool).1≤left∧((0,false) : Int × Bool).2 = false)∨(((left,false) : Int × Bool).1 = -1∧left < ((0,false) : Int × Bool).1)):=by
        by_cases hz : 0≤left
        · exact Or.inl ⟨by simp,by simp,hz,rfl⟩
        · exact Or.inr ⟨by dsimp only; omega,by dsimp only; omega⟩
      rcases key l (left,false) (0,false) hl h0 with ⟨e,hle⟩ | ⟨e,hlt⟩
      · rw [e,if_pos (by omega)]; omega
      · rw [e,if_neg (by omega)]
/-- a declaration has too much of something, but for its commands. -/
def muchD (ke : Nat) (d : D) : Bool:=decide (4 < (gL 5 d).length) || decide (4 < (gL 6 d).length) || longE ke (gD 8 d) || (gL 5 d).any (fun p => decide (6 < (gL 3 p).length))
/-- a tree has too much of something: as the program asks it, as the document's answer does. -/
def manyP (ke kc : Nat) (ds l : List D) : Bool :=
  decide (30 < ds.length) || ds.any (muchD ke) || decide (slK ke kc l 1 (ds.foldl (fun left d => slK ke kc (gL 7 d) 1 left) 50) < 0)
/-- a name of a tree. -/
def nmS (x : List UInt8) : Bool:=isAlone ⟨1,0,⟨x.toArray⟩⟩ && !wordsL.contains x
def nfS (x : List UInt8) (must : Bool) : Bool:=if must = true then nmS x else x.isEmpty
def noEx (d : D) : Bool:=decide (gI 0 d = 0) && decide (gI 2 d = 0) && (gZ 3 d).isEmpty && (gL 4 d).isEmpty
/-- an expression is fine. -/
def efK : Nat→D→Bool
  | 0,_ => false
  | k + 1,d => decide (1≤gI 0 d) && decide (gI 0 d≤7) && decide ((if gI 0 d = 1 then -9999999 else 0)≤gI 2 d) && decide (gI 2 d≤(if gI 0 d = 1 then 9999999 else 0)) && nfS (gZ 3 d) (decide (gI 0 d = 2)) && decide ((gL 4 d).length = if gI 0 d≤2 then 0 else 2) && (gL 4 d).all (efK k)
def hVar (k : Int) : Bool:=decide (k = 1) || decide (k = 2) || decide (k = 3) || decide (k = 5) || decide (k = 6)
def hOth (k : Int) : Bool:=decide (k = 2) || decide (k = 3) || decide (k = 4)
def hExp (k : Int) : Bool:=decide (k = 1) || decide (k = 4) || decide (k = 5) || decide (k = 6) || decide (k = 7) || decide (k = 8)
def hArg (k : Int) : Bool:=decide (k = 2)
def hThn (k : Int) : Bool:=decide (k = 7) || decide (k = 8)
def hEls (k : Int) : Bool:=decide (k = 7)
def hOk (k : Int) : Bool:=decide (1≤k) && decide (k≤8)
def lfS (l : List D) (may : Bool) (fine : D→Bool) : Bool:=(may || l.isEmpty) && l.all fine
/-- a command is fine. -/
def sfK (ke : Nat) : Nat→D→Bool
  | 0,_ => false
  | k + 1,s => hOk (gI 0 s) && nfS (gZ 2 s) (hVar (gI 0 s)) && nfS (gZ 3 s) (hOth (gI 0 s)) && (if hExp (gI 0 s) = true then efK ke (gD 4 s) else noEx (gD 4 s)) && lfS (gL 5 s) (hArg (gI 0 s)) (efK ke) && lfS (gL 6 s) (hThn (gI 0 s)) (sfK ke k) && lfS (gL 7 s) (hEls (gI 0 s)) (sfK ke k)
def polF (p : D) : Bool:=nmS (gZ 1 p) && (gL 3 p).all (fun x => nmS (asS x))
def labF (d : D) : Bool :=
  if gB 4 d = false∧(gL 5 d)≠[] then false
  else if gI 0 d = 4∨gI 0 d = 5 then gB 4 d && (gL 5 d).all polF
  else if gI 0 d = 6 then (gL 5 d).all polF
  else !gB 4 d
def funF (ke kc : Nat) (d : D) : Bool :=
  if gI 0 d = 7 then (gL 6 d).all (fun x => nmS (asS x)) && (gL 7 d).all (sfK ke kc) && efK ke (gD 8 d)
  else (gL 6 d).isEmpty && (gL 7 d).isEmpty && noEx (gD 8 d)
/-- a declaration is fine. -/
def dfK (ke kc : Nat) (d : D) : Bool:=decide (1≤gI 0 d) && decide (gI 0 d≤7) && nmS (gZ 2 d) && nfS (gZ 3 d) (decide (gI 0 d = 2)) && labF d && funF ke kc d
/-- what is answered of a tree. -/
def ckT (ke kc : Nat) (ds l : List D) : Int:=if manyP ke kc ds l = true then 2 else if (ds.all (dfK ke kc) && l.all (sfK ke kc)) = true then 0 else 1
/-- the parts, told. -/
theorem gEe (kd a n : Int) (x : ByteArray) (ds : List D) : gI 0 (eD kd a n x ds) = kd∧gI 1 (eD kd a n x ds) = a∧gI 2 (eD kd a n x ds) = n∧gZ 3 (eD kd a n x ds) = x.data.toList∧gL 4 (eD kd a n x ds) = ds:=⟨rfl,rfl,rfl,rfl,rfl⟩
theorem gSs (kd a : Int) (x y : ByteArray) (e : D) (l th el : List D) : gI 0 (stD kd a x y e l th el) = kd∧gI 1 (stD kd a x y e l th el) = a∧gZ 2 (stD kd a x y e l th el) = x.data.toList∧gZ 3 (stD kd a x y e l th el) = y.data.toList∧gD 4 (stD kd a x y e l th el) = e∧gL 5 (stD kd a x y e l th el) = l∧gL 6 (stD kd a x y e l th el) = th∧gL 7 (stD kd a x y e l th el) = el:=⟨rfl,rfl,rfl,rfl,rfl,rfl,rfl,rfl⟩
theorem gPp (a : Int) (o : ByteArray) (wr : Bool) (ns : List ByteArray) : gI 0 (polD a o wr ns) = a∧gZ 1 (polD a o wr ns) = o.data.toList∧gB 2 (polD a o wr ns) = wr∧gL 3 (polD a o wr ns) = ns.map dS:=⟨rfl,rfl,rfl,rfl⟩
theorem gDd (kd a : Int) (x y : ByteArray) (gv : Bool) (lb : List D) (ps : List ByteArray) (body : List D) (r : D) : gI 0 (deD kd a x y gv lb ps body r) = kd∧gI 1 (deD kd a x y gv lb ps body r) = a∧gZ 2 (deD kd a x y gv lb ps body r) = x.data.toList∧gZ 3 (deD kd a x y gv lb ps body r) = y.data.toList∧gB 4 (deD kd a x y gv lb ps body r) = gv∧gL 5 (deD kd a x y gv lb ps body r) = lb∧gL 6 (deD kd a x y gv lb ps body r) = ps.map dS∧gL 7 (deD kd a x y gv lb ps body r) = body∧gD 8 (deD kd a x y gv lb ps body r) = r:=⟨rfl,rfl,rfl,rfl,rfl,rfl,rfl,rfl,rfl⟩
theorem asS_dS (x : ByteArray) : asS (dS x) = x.data.toList:=rfl
end Go.Proofs.YtipngnjffjajpaaGreatDoor.Tx
