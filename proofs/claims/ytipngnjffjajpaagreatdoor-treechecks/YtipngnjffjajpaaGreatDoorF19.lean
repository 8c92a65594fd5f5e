/- Plain: what is joined is scanned as it was, and each token that is scanned is alone in its text. -/
import Derived.Test.YtipngnjffjajpaaGreatDoorF18
import Derived.Test.YtipngnjffjajpaaGreatDoorF17
namespace Go.Proofs.YtipngnjffjajpaaGreatDoor
open Go.RowKit
set_option linter.unusedVariables false
/-- the token at the head of bytes: its kind, and how long it is. -/
def tk : List UInt8→Nat × Nat
  | [] => (0,0)
  | c :: m =>
    if isL c = true then (1,((c :: m).takeWhile isN).length)
    else if isD c = true then (2,((c :: m).takeWhile isD).length)
    else if (c :: m).take 2 == [61,61] then (3,2)
    else if isS c = true then (3,1)
    else (0,0)
def te (m : List UInt8) : Nat :=
  if (tk m).1 = 0 then 1
  else if (tk m).1 = 1∧12 < (tk m).2∨(tk m).1 = 2∧7 < (tk m).2 then 2
  else if (tk m).1 = 2∧1 < (tk m).2∧m[0]? = some 48 then 1
  else 0
theorem tokKN_tk (s : ByteArray) (i : Nat) : tokKN s i = ((tk (s.data.toList.drop i)).1,i + (tk (s.data.toList.drop i)).2):=by
  unfold tokKN
  by_cases h : i < s.size
  · rw [dif_pos h]
    have hl : i < s.data.toList.length:=by simpa using h
    have hg : s.data.toList[i] = s[i]:=rfl
    unfold hasEqL spanL
    rw [List.drop_eq_getElem_cons hl,hg]
    simp only [tk]
    split
    · rfl
    · split
      · rfl
      · split
        · rfl
        · split <;> rfl
  · rw [dif_neg h,List.drop_of_length_le (by simp; omega)]
    rfl
theorem tokErr_te (s : ByteArray) (i : Nat) : tokErr s i = te (s.data.toList.drop i):=by
  unfold tokErr te
  rw [tokKN_tk]
  simp only [Nat.add_sub_cancel_left,List.getElem?_drop,Nat.add_zero]
theorem takeWhile_take {p : UInt8→Bool} (l : List UInt8) : (l.take (l.takeWhile p).length).takeWhile p = l.take (l.takeWhile p).length:=by
  have h : l.take (l.takeWhile p).length = l.takeWhile p:=(List.prefix_iff_eq_take.1 (List.takeWhile_prefix p)).symm
  rw [h]
  induction l with
  | nil => rfl
  | cons c l ih =>
    rw [List.takeWhile_cons]
    split
    · rename_i hc
      rw [List.takeWhile_cons,if_pos hc]
      congr 1
      exact ih ((List.prefix_iff_eq_take.1 (List.takeWhile_prefix p)).symm)
    · rfl
/-- cut out, it is what it was. -/
theorem tk_take {m : List UInt8} (h : te m = 0) : tk (m.take (tk m).2) = tk m∧te (m.take (tk m).2) = 0∧(m.take (tk m).2).length = (tk m).2∧0 < (tk m).2:=by
  have key : tk (m.take (tk m).2) = tk m∧(m.take (tk m).2).length = (tk m).2∧0 < (tk m).2∧(m.take (tk m).2)[0]? = m[0]?:=by
    cases m with
    | nil => simp [te,tk] at h
    | cons c m =>
      by_cases hL : isL c = true
      · have e : tk (c :: m) = (1,((c :: m).takeWhile isN).length):=by simp [tk,hL]
        have hw : (c :: m).takeWhile isN = c :: m.takeWhile isN:=by rw [List.takeWhile_cons,if_pos (by simp [isN,hL])]
        have ht : (c :: m).take ((c :: m).takeWhile isN).length = c :: m.take (m.takeWhile isN).length:=by rw [hw]; simp
        rw [e]
        simp only
        refine ⟨?_,?_,by rw [hw]; simp,by rw [ht]; simp⟩
        · have hh:=takeWhile_take (p:=isN) (c :: m)
          rw [ht] at hh ⊢
          simp only [tk,hL,if_true]
          rw [hh,← ht,List.length_take,Nat.min_eq_left (List.takeWhile_prefix _).length_le]
        · rw [List.length_take,Nat.min_eq_left (List.takeWhile_prefix _).length_le]
      have hL' : isL c = false:=by simpa using hL
      by_cases hD : isD c = true
      · have e : tk (c :: m) = (2,((c :: m).takeWhile isD).length):=by simp [tk,hL',hD]
        have hw : (c :: m).takeWhile isD = c :: m.takeWhile isD:=by rw [List.takeWhile_cons,if_pos hD]
        have ht : (c :: m).take ((c :: m).takeWhile isD).length = c :: m.take (m.takeWhile isD).length:=by rw [hw]; simp
        rw [e]
        simp only
        refine ⟨?_,?_,by rw [hw]; simp,by rw [ht]; simp⟩
        · have hh:=takeWhile_take (p:=isD) (c :: m)
          rw [ht] at hh ⊢
          simp only [tk,hL',hD,if_true]
          rw [hh,← ht,List.length_take,Nat.min_eq_left (List.takeWhile_prefix _).length_le]
          rfl
        · rw [List.length_take,Nat.min_eq_left (List.takeWhile_prefix _).length_le]
      have hD' : isD c = false:=by simpa using hD
      by_cases hE : ((c :: m).take 2 == [61,61]) = true
      · have e : tk (c :: m) = (3,2):=by simp only [tk,hL',hD',hE]; rfl
        rw [e]
        simp only
        have h2:=beq_iff_eq.1 hE
        rw [h2]
        refine ⟨by rfl,rfl,by decide,?_⟩
        cases m with
        | nil => simp at h2
        | cons d m => simp at h2; simp [h2.1]
      have hE' : ((c :: m).take 2 == [61,61]) = false:=by simpa using hE
      by_cases hS : isS c = true
      · have e : tk (c :: m) = (3,1):=by simp only [tk,hL',hD',hE',hS]; rfl
        rw [e]
        simp only
        refine ⟨?_,by simp,by decide,by simp⟩
        simp [tk,hL',hD',hS]
      · have hS' : isS c = false:=by simpa using hS
        have e : tk (c :: m) = (0,0):=by simp only [tk,hL',hD',hE',hS']; rfl
        simp [te,e] at h
  obtain ⟨k1,k2,k3,k4⟩:=key
  refine ⟨k1,?_,k2,k3⟩
  rw [← h]
  unfold te
  rw [k1,k4]
theorem isAlone_tk (k a : Int) (x : ByteArray) : isAlone ⟨k,a,x⟩ = true↔x.size≤6000∧te x.data.toList = 0∧((tk x.data.toList).1 : Int) = k∧(tk x.data.toList).2 = x.data.toList.length:=by
  rw [isAlone_iff,tokErr_te,tokKN_tk,List.drop_zero]
  simp only [Nat.zero_add]
  constructor
  · rintro ⟨_,h2,h3,h4,h5⟩
    exact ⟨h2,h3,h4,by rw [h5]; rfl⟩
  · rintro ⟨h2,h3,h4,h5⟩
    have:=(tk_take h3).2.2.2
    refine ⟨?_,h2,h3,h4,by rw [h5]; rfl⟩
    have e : x.data.toList.length = x.size:=rfl
    omega
/-- each token that is scanned is alone in its text. -/
theorem scanned_alone (s : ByteArray) (hs : s.size≤6000) : ∀ (f : Nat) (note : Bool) (i : Nat) (ts : List Tok),scanF s f note i = .inl ts→ts.all isAlone = true:=by
  intro f
  induction f with
  | zero => intro note i ts h; simp only [scanF,Sum.inl.injEq] at h; subst h; rfl
  | succ f ih =>
    intro note i ts h
    simp only [scanF] at h
    split at h
    · split at h
      · rename_i hlt he
        generalize skipL note s.data.toList i = j at hlt he h
        cases hr : scanF s f false (tokKN s j).2 with
        | inl us =>
          rw [hr] at h
          simp only [Sum.inl.injEq] at h
          subst h
          rw [List.all_cons,ih _ _ _ hr,Bool.and_true]
          have hte : te (s.data.toList.drop j) = 0:=by rw [← tokErr_te]; exact he
          obtain ⟨h1,h2,h3,h4⟩:=tk_take hte
          have hx : (s.extract j (tokKN s j).2).data.toList = (s.data.toList.drop j).take (tk (s.data.toList.drop j)).2:=by
            rw [Lib.extract_data,tokKN_tk]
            simp only [Nat.add_sub_cancel_left]
          refine (isAlone_tk _ _ _).2 ⟨?_,?_,?_,?_⟩
          · have:=tokKN_le (s:=s) (i:=j) (by omega)
            rw [ByteArray.size_extract]
            omega
          · rw [hx]; exact h2
          · rw [hx,h1,tokKN_tk]
          · rw [hx,h1,h3]
        | inr x => rw [hr] at h; simp at h
      · simp at h
    · simp only [Sum.inl.injEq] at h; subst h; rfl
end Go.Proofs.YtipngnjffjajpaaGreatDoor
namespace Go.Proofs.YtipngnjffjajpaaGreatDoor.Tx
open Go.RowKit
set_option linter.unusedVariables false
theorem tokAt_of {w : World} {B : Nat} {v : Value} {ts : List Tok} (h : w.ownsRow B 44 3 v ts.length (toksCells ts)) (h6 : ts.length≤6000) : TokAt v ts w:=by
  obtain ⟨h1,⟨h2,h3⟩ | ⟨g,cap,cur,hv,hb,hg,h4⟩⟩:=id h
  · refine ⟨h6,none,0,by rw [h2]; simp [h3],fun hne => ?_⟩
    cases ts with
    | nil => exact absurd rfl hne
    | cons t l => simp at h3
  · subst hv
    exact ⟨h6,some ⟨g,0,none⟩,cap,rfl,fun _ => ⟨g,0,rfl,fun j u hu => by
      have t:=h.cells (g:=g) rfl j u hu
      rw [Addr.add_lit] at t
      exact t⟩⟩
theorem scanToks_alone (s : ByteArray) (hs : s.size≤6000) : (scanToks s).all isAlone = true:=by
  unfold scanToks
  split
  · rename_i ts h
    exact scanned_alone s hs _ _ _ _ h
  · rfl
/-- what was read lies so. -/
theorem XE.z {W : World} : ∀ {k : Nat} {cs : List Value} {d : D},XE W k cs d→SD d→ZE W k cs d
  | 0,cs,d,h,_ => h.elim
  | k + 1,cs,d,h,hs => by
    obtain ⟨kd,a,n,x,v,ds,h1,rfl,h3⟩:=h
    obtain ⟨-,ao,c,rfl,-⟩:=id h3
    obtain ⟨-,-,-,hx,hd⟩:=mem5 hs.of_agg
    exact ⟨kd,a,n,x,ao,c,ds,h1,rfl,small_max hx.of_str,h3.imp fun cs d hm hh => XE.z hh (hd.of_list d hm)⟩
theorem XC.z {W : World} : ∀ {k : Nat} {cs : List Value} {d : D},XC W k cs d→SD d→ZC W 61 k cs d
  | 0,cs,d,h,_ => h.elim
  | k + 1,cs,d,h,hs => by
    obtain ⟨kd,a,x,y,e0,e1,e2,e3,e4,e,vA,args,vT,th,vE,el,h1,rfl,h3,h4,h5,h6⟩:=h
    obtain ⟨-,aA,cA,rfl,-⟩:=id h4
    obtain ⟨-,aT,cT,rfl,-⟩:=id h5
    obtain ⟨-,aE,cE,rfl,-⟩:=id h6
    obtain ⟨-,-,hx,hy,he,hA,hT,hE⟩:=mem8 hs.of_agg
    have hz:=XE.z h3 he
    obtain ⟨k0,k1,k2,k3,q,q1,q2,hk⟩:=hz.cells
    simp only [List.cons.injEq,and_true] at hk
    obtain ⟨rfl,rfl,rfl,rfl,rfl⟩:=hk
    exact ⟨kd,a,x,y,k0,k1,k2,k3,q,q1,q2,e,aA,cA,args,aT,cT,th,aE,cE,el,h1,rfl,small_max hx.of_str,small_max hy.of_str,hz,h4.imp fun cs d hm hh => XE.z hh (hA.of_list d hm),h5.imp fun cs d hm hh => XC.z hh (hT.of_list d hm),h6.imp fun cs d hm hh => XC.z hh (hE.of_list d hm)⟩
theorem strs_z {W : World} {v : Value} {ns : List ByteArray} (h : StrsAt W v ns) (hs : ∀ x∈ns,x.size≤6000) : LS 1 ZN W v ns:=h.imp fun cs x hm hh => ⟨hh,small_max (hs x hm)⟩
theorem XD.z {W : World} {f : Nat} {cs : List Value} {d : D} (h : XD W f cs d) (hs : SD d) : ZD W 61 f cs d:=by
  obtain ⟨kd,a,x,y,gv,vL,lb,vP,ps,vB,body,r0,r1,r2,r3,r4,r,h1,rfl,h3,h4,h5,h6⟩:=h
  obtain ⟨-,aL,cL,rfl,-⟩:=id h3
  obtain ⟨-,aP,cP,rfl,-⟩:=id h4
  obtain ⟨-,aB,cB,rfl,-⟩:=id h5
  obtain ⟨-,-,hx,hy,-,hL,hP,hB,hr⟩:=mem9 hs.of_agg
  have hz:=XE.z h6 hr
  obtain ⟨k0,k1,k2,k3,q,q1,q2,hk⟩:=hz.cells
  simp only [List.cons.injEq,and_true] at hk
  obtain ⟨rfl,rfl,rfl,rfl,rfl⟩:=hk
  refine ⟨kd,a,x,y,gv,aL,cL,lb,aP,cP,ps,aB,cB,body,k0,k1,k2,k3,q,q1,q2,r,h1,rfl,small_max hx.of_str,small_max hy.of_str,h3.imp fun cs d hm hh => ?_,strs_z h4 (SD.of_strs hP.of_list),h5.imp fun cs d hm hh => XC.z hh (hB.of_list d hm),hz⟩
  obtain ⟨a,o,wr,ns,vn,g1,rfl,g3⟩:=hh
  obtain ⟨-,an,cn,rfl,-⟩:=id g3
  obtain ⟨-,ho,-,hn⟩:=mem4 (hL.of_list _ hm).of_agg
  exact ⟨a,o,wr,an,cn,ns,g1,rfl,small_max ho.of_str,strs_z g3 (SD.of_strs hn.of_list)⟩
/-- whatever is read is so. -/
def OkR {α : Type} (P : α→Prop) (r : Res α) : Prop:=∀ a n,r = .inl (a,n)→P a
theorem OkR.inl {α : Type} {P : α→Prop} {a : α} {n : Nat} (h : P a) : OkR P (.inl (a,n)):=fun b m e => by
  injection e with e
  injection e with e1 e2
  exact e1 ▸ h
theorem OkR.inr {α : Type} {P : α→Prop} {m : Nat} : OkR P (.inr m : Res α):=fun b m e => by cases e
theorem OkR.bind {α β : Type} {P : α→Prop} {Q : β→Prop} {r : Res α} {f : α→Nat→Res β} (h : OkR P r) (hf : ∀ a n,P a→OkR Q (f a n)) : OkR Q (bindR r f):=by
  cases r with
  | inr m => exact OkR.inr
  | inl p => obtain ⟨a,n⟩:=p; exact hf a n (h a n rfl)
theorem OkR.ite {α : Type} {P : α→Prop} {c : Prop} [Decidable c] {r s : Res α} (h1 : OkR P r) (h2 : OkR P s) : OkR P (if c then r else s):=by
  split
  · exact h1
  · exact h2
theorem OkR.any {α : Type} (r : Res α) : OkR (fun _ => True) r:=fun _ _ _ => trivial
section
variable (ts : List Tok) (en : Nat)
theorem peek_small (hall : ts.all isAlone = true) (n : Nat) : (peekT ts n).text.size≤6000:=by
  by_cases h : n < ts.length
  · have hm:=peekT_mem (ts:=ts) h
    exact isAlone_size (List.all_eq_true.1 hall _ hm)
  · have : peekT ts n = ⟨0,0,⟨#[]⟩⟩:=by unfold peekT; rw [List.getElem?_eq_none (by omega)]
    rw [this]; exact Nat.zero_le _
theorem pName_ok (hall : ts.all isAlone = true) (n : Nat) : OkR (fun x => x.size≤6000) (pName ts n):=OkR.ite (OkR.inl (peek_small ts hall n)) OkR.inr
theorem pEach_ok {α : Type} {P : α→Prop} {sep : List UInt8} {one : Nat→Res α} (h : ∀ n,OkR P (one n)) : ∀ (f : Nat) (sm : Bool) (acc : List α) (n : Nat),(∀ a∈acc,P a)→OkR (fun l => ∀ a∈l,P a) (pEach ts sep one f sm acc n)
  | 0,sm,acc,n,ha => OkR.inl ha
  | f + 1,sm,acc,n,ha => by
    unfold pEach
    have hs : ∀ a,P a→∀ b∈acc ++ [a],P b:=fun a hp b hb => by
      rcases List.mem_append.1 hb with h | h
      · exact ha b h
      · rw [List.mem_singleton.1 h]; exact hp
    refine OkR.ite (OkR.bind (h n) fun a n1 hp => OkR.ite (pEach_ok h f _ _ _ (hs a hp)) (OkR.inl (hs a hp))) (OkR.inl ha)
theorem pNames_ok (hall : ts.all isAlone = true) (sm : Bool) (n : Nat) : OkR (fun l => ∀ x∈l,x.size≤6000) (pNames ts sm n):=pEach_ok ts (pName_ok ts hall) _ _ _ _ (by simp)
theorem pPolicy_ok (hall : ts.all isAlone = true) (n : Nat) : OkR SD (pPolicy ts en n) :=
  (pName_ok ts hall n).bind fun o n1 ho => OkR.ite ((pNames_ok ts hall _ _).bind fun ns n2 hn => OkR.inl (SD.p ho hn)) ((OkR.any _).bind fun _ n2 _ => (pNames_ok ts hall _ _).bind fun ns n3 hn => OkR.inl (SD.p ho hn))
theorem pLabel_ok (hall : ts.all isAlone = true) (n : Nat) : OkR (fun l => ∀ a∈l,SD a) (pLabel ts en n) :=
  (OkR.any _).bind fun _ n1 _ => (pEach_ok ts (pPolicy_ok ts en hall) _ _ _ _ (by simp)).bind fun l n2 hl => (OkR.any _).bind fun _ n3 _ => OkR.inl hl
theorem pE_ok (hall : ts.all isAlone = true) : ∀ (f deep n : Nat),OkR SD (pE ts en f deep n)
  | 0,deep,n => OkR.inr
  | f + 1,deep,n => by
    have nil : ∀ (k a m : Int),SD (eD k a m ⟨#[]⟩ []):=fun k a m => SD.e (Nat.zero_le _) (by simp)
    unfold pE
    refine OkR.ite (OkR.inl (nil _ _ _)) (OkR.ite (OkR.ite OkR.inr (OkR.ite (OkR.inl (nil _ _ _)) OkR.inr)) (OkR.ite (OkR.inl (SD.e (peek_small ts hall n) (by simp))) (OkR.ite ?_ OkR.inr)))
    have ha:=pE_ok hall f (deep + 1) (n + 1)
    cases h : pE ts en f (deep + 1) (n + 1) with
    | inr m => exact OkR.inr
    | inl p =>
      obtain ⟨a,n1⟩:=p
      have hsa:=ha a n1 h
      refine OkR.ite OkR.inr ?_
      have hb:=pE_ok hall f (deep + 1) (n1 + 1)
      cases h2 : pE ts en f (deep + 1) (n1 + 1) with
      | inr m => exact OkR.inr
      | inl p =>
        obtain ⟨b,n2⟩:=p
        have hsb:=hb b n2 h2
        refine OkR.ite (OkR.inl (SD.e (Nat.zero_le _) fun y hy => ?_)) OkR.inr
        simp at hy
        rcases hy with rfl | rfl
        · exact hsa
        · exact hsb
theorem pX_ok (hall : ts.all isAlone = true) (n : Nat) : OkR SD (pX ts en n):=pE_ok ts en hall 61 0 n
theorem noS_small : noS.size≤6000:=Nat.zero_le _
theorem noE_ok : SD noE:=SD.e (Nat.zero_le _) (by simp)
theorem eName_small : ∀ (d : D),SD d→(⟨(eName d).toArray⟩ : ByteArray).size≤6000:=fun d h => by
  show (eName d).toArray.size≤6000
  rw [List.size_toArray]
  unfold eName
  split
  · rename_i a b c x r
    have:=h.of_agg (.lit (.string x)) (by simp) 1
    exact this
  · simp
theorem pBecome_ok (hall : ts.all isAlone = true) (at_ : Int) (n : Nat) : OkR SD (pBecome ts en at_ n) :=
  (pName_ok ts hall n).bind fun x n1 hx => (OkR.any _).bind fun _ n2 _ => (pX_ok ts en hall n2).bind fun e n3 he =>
    OkR.ite ((pEach_ok ts (pX_ok ts en hall) _ _ _ _ (by simp)).bind fun l n4 hl => (OkR.any _).bind fun _ n5 _ => OkR.inl (SD.s hx (eName_small e he) noE_ok hl (by simp) (by simp))) (OkR.inl (SD.s hx noS_small he (by simp) (by simp) (by simp)))
theorem pBlock_ok {ss : Nat→Res (List D)} (h : ∀ n,OkR (fun l => ∀ a∈l,SD a) (ss n)) (n : Nat) : OkR (fun l => ∀ a∈l,SD a) (pBlock ts ss n) :=
  (OkR.any _).bind fun _ n1 _ => (h n1).bind fun l n2 hl => (OkR.any _).bind fun _ n3 _ => OkR.inl hl
theorem pEnd_ok {s : D} (h : SD s) (n : Nat) : OkR SD (pEnd ts s n):=(OkR.any _).bind fun _ n1 _ => OkR.inl h
theorem pStmt1_ok (hall : ts.all isAlone = true) {blk : Nat→Res (List D)} (h : ∀ n,OkR (fun l => ∀ a∈l,SD a) (blk n)) (n : Nat) : OkR SD (pStmt1 ts en blk n):=by
  unfold pStmt1
  have z : ∀ a∈([] : List D),SD a:=by simp
  refine OkR.ite ((pX_ok ts en hall _).bind fun e n1 he => (h n1).bind fun th n2 ht => OkR.ite ((h _).bind fun el n3 hl => OkR.inl (SD.s noS_small noS_small he z ht hl)) (OkR.inl (SD.s noS_small noS_small he z ht z))) (OkR.ite ((pX_ok ts en hall _).bind fun e n1 he => (h n1).bind fun th n2 ht => OkR.inl (SD.s noS_small noS_small he z ht z)) (OkR.ite ?_ (OkR.ite ?_ (OkR.ite ?_ (OkR.ite ?_ ?_)))))
  · exact (pName_ok ts hall _).bind fun a n1 ha => (pName_ok ts hall _).bind fun b n2 hb => pEnd_ok ts (SD.s ha hb noE_ok z z z) _
  · exact (pName_ok ts hall _).bind fun a n1 ha => (pX_ok ts en hall _).bind fun e n2 he => pEnd_ok ts (SD.s noS_small ha he z z z) _
  · exact (pName_ok ts hall _).bind fun a n1 ha => (pX_ok ts en hall _).bind fun e n2 he => pEnd_ok ts (SD.s ha noS_small he z z z) _
  · exact (pName_ok ts hall _).bind fun a n1 ha => (pX_ok ts en hall _).bind fun e n2 he => pEnd_ok ts (SD.s ha noS_small he z z z) _
  · exact (pBecome_ok ts en hall _ _).bind fun s n1 hs => pEnd_ok ts hs _
theorem snoc_ok {acc : List D} {s : D} (h : ∀ a∈acc,SD a) (hs : SD s) : ∀ a∈acc ++ [s],SD a:=fun b hb => by
  rcases List.mem_append.1 hb with h1 | h1
  · exact h b h1
  · rw [List.mem_singleton.1 h1]; exact hs
theorem pStmts_ok (hall : ts.all isAlone = true) : ∀ (f : Nat) (acc : List D) (n : Nat),(∀ a∈acc,SD a)→OkR (fun l => ∀ a∈l,SD a) (pStmts ts en f acc n)
  | 0,acc,n,h => OkR.inr
  | 1,acc,n,h => OkR.ite (OkR.inl h) OkR.inr
  | f + 2,acc,n,h => OkR.ite (OkR.inl h) ((pStmt1_ok ts en hall (pBlock_ok ts fun n => pStmts_ok hall f [] n (by simp)) n).bind fun s n1 hs => pStmts_ok hall (f + 1) (acc ++ [s]) n1 (snoc_ok h hs))
theorem pFunc_ok (hall : ts.all isAlone = true) (at_ : Int) (name : ByteArray) (hn : name.size≤6000) (n : Nat) : OkR SD (pFunc ts en at_ name n) :=
  (OkR.any _).bind fun _ n1 _ => (pNames_ok ts hall _ _).bind fun ps n2 hp => (OkR.any _).bind fun _ n3 _ => (OkR.any _).bind fun _ n4 _ => (pStmts_ok ts en hall _ _ _ (by simp)).bind fun body n5 hb => (OkR.any _).bind fun _ n6 _ => (pX_ok ts en hall _).bind fun r n7 hr => (OkR.any _).bind fun _ n8 _ => (OkR.any _).bind fun _ n9 _ => OkR.inl (SD.d hn noS_small (by simp) hp hb hr)
theorem pGiven_ok (hall : ts.all isAlone = true) (kd at_ : Int) (name oth : ByteArray) (hn : name.size≤6000) (ho : oth.size≤6000) (gv : Bool) (n : Nat) : OkR SD (pGiven ts en kd at_ name oth gv n) :=
  OkR.ite ((pLabel_ok ts en hall _).bind fun lb n1 hl => (OkR.any _).bind fun _ n2 _ => OkR.inl (SD.d hn ho hl (by simp) (by simp) noE_ok)) ((OkR.any _).bind fun _ n1 _ => OkR.inl (SD.d hn ho (by simp) (by simp) (by simp) noE_ok))
theorem pDecl_ok (hall : ts.all isAlone = true) (n : Nat) : OkR SD (pDecl ts en n):=by
  unfold pDecl
  refine OkR.ite OkR.inr ((pName_ok ts hall _).bind fun a n1 ha => OkR.ite ((pName_ok ts hall _).bind fun b n2 hb => pGiven_ok ts en hall _ _ _ _ ha hb _ _) (OkR.ite (pGiven_ok ts en hall _ _ _ _ ha noS_small _ _) (OkR.ite (pGiven_ok ts en hall _ _ _ _ ha noS_small _ _) (OkR.ite (pFunc_ok ts en hall _ _ ha _) (pGiven_ok ts en hall _ _ _ _ ha noS_small _ _)))))
theorem pDecls_ok (hall : ts.all isAlone = true) : ∀ (f : Nat) (acc : List D) (n : Nat),(∀ a∈acc,SD a)→OkR (fun l => ∀ a∈l,SD a) (pDecls ts en f acc n)
  | 0,acc,n,h => OkR.inr
  | f + 1,acc,n,h => OkR.ite (OkR.inl h) ((pDecl_ok ts en hall n).bind fun s n1 hs => pDecls_ok hall f (acc ++ [s]) n1 (snoc_ok h hs))
theorem pTree_ok (hall : ts.all isAlone = true) : OkR (fun t => (∀ a∈t.1,SD a)∧∀ a∈t.2,SD a) (pTree ts en) :=
  (pDecls_ok ts en hall _ _ _ (by simp)).bind fun ds n hd => (OkR.any _).bind fun _ n1 _ => (pBlock_ok ts (fun n => pStmts_ok ts en hall _ _ _ (by simp)) n1).bind fun l n2 hl => OkR.ite OkR.inr (OkR.inl ⟨hd,hl⟩)
end
end Go.Proofs.YtipngnjffjajpaaGreatDoor.Tx
