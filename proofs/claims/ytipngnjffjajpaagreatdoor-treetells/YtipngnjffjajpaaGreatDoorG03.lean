/- Plain: the tokens of a text stand in it one behind the other. -/
import Derived.Test.YtipngnjffjajpaaGreatDoorG02
import Derived.Lib.SmallJoins
import Derived.Lib.AtoiErrMem
import Derived.Deep.AppendLies
namespace Go.Proofs.YtipngnjffjajpaaGreatDoor
open Go.RowKit
set_option linter.unusedVariables false
/-- tokens stand in a text from a place on, one behind the other. -/
def Chain (s : ByteArray) : Nat→List Tok→Prop
  | _,[] => True
  | a,t :: ts => ∃ p : Nat,t.pos = p∧a≤p∧0 < t.text.size∧p + t.text.size≤s.size∧t.text = s.extract p (p + t.text.size)∧Chain s (p + t.text.size) ts
theorem chain_scan (s : ByteArray) : ∀ (f : Nat) (note : Bool) (i : Nat) (ts : List Tok),scanF s f note i = .inl ts→Chain s i ts:=by
  intro f
  induction f with
  | zero => intro note i ts h; simp only [scanF,Sum.inl.injEq] at h; subst h; exact trivial
  | succ f ih =>
    intro note i ts h
    simp only [scanF] at h
    split at h
    · rename_i hlt
      split at h
      · rename_i he
        have hend:=tokKN_end he
        cases hr : scanF s f false (tokKN s (skipL note s.data.toList i)).2 with
        | inl us =>
          rw [hr] at h
          simp only [Sum.inl.injEq] at h
          subst h
          have hsz : (s.extract (skipL note s.data.toList i) (tokKN s (skipL note s.data.toList i)).2).size = (tokKN s (skipL note s.data.toList i)).2 - skipL note s.data.toList i:=by
            rw [ByteArray.size_extract,Nat.min_eq_left hend.2]
          have hpe : skipL note s.data.toList i + (s.extract (skipL note s.data.toList i) (tokKN s (skipL note s.data.toList i)).2).size = (tokKN s (skipL note s.data.toList i)).2:=by omega
          refine ⟨skipL note s.data.toList i,rfl,skipL_ge _ _ _,?_,?_,?_,?_⟩
          · show 0 < (s.extract _ _).size
            omega
          · show _ + (s.extract _ _).size≤_
            omega
          · show s.extract _ _ = s.extract _ (_ + (s.extract _ _).size)
            rw [hpe]
          · show Chain s (_ + (s.extract _ _).size) us
            rw [hpe]
            exact ih _ _ _ hr
        | inr x => rw [hr] at h; simp at h
      · simp at h
    · simp only [Sum.inl.injEq] at h; subst h; exact trivial
theorem scanErr_inl {s : ByteArray} (h : scanErr s = 0) (hne : ∀ x,scanS s = .inr x→x.2≠0) : scanS s = .inl (scanToks s):=by
  cases hs : scanS s with
  | inl ts => simp [scanToks,hs]
  | inr x => simp [scanErr,hs] at h; exact absurd h (hne x hs)
theorem scanF_err (s : ByteArray) : ∀ (f : Nat) (note : Bool) (i : Nat) (x : Nat × Nat),scanF s f note i = .inr x→x.2≠0:=by
  intro f
  induction f with
  | zero => intro note i x h; simp [scanF] at h
  | succ f ih =>
    intro note i x h
    simp only [scanF] at h
    split at h
    · split at h
      · cases hr : scanF s f false (tokKN s (skipL note s.data.toList i)).2 with
        | inl us => rw [hr] at h; simp at h
        | inr y => rw [hr] at h; simp only [Sum.inr.injEq] at h; subst h; exact ih _ _ _ hr
      · rename_i he
        simp only [Sum.inr.injEq] at h
        subst h
        exact he
    · simp at h
theorem scan_ok {s : ByteArray} (h : scanErr s = 0) : scanS s = .inl (scanToks s):=scanErr_inl h fun x hx => scanF_err s _ _ _ x hx
theorem hasEqL_iff (s : ByteArray) (a : Nat) (ha : a < s.size) : hasEqL s a = true↔s[a].toNat = 61∧∃ h : a + 1 < s.size,s[a + 1].toNat = 61:=by
  have hl : a < s.data.toList.length:=by simpa using ha
  have hg : s.data.toList[a] = s[a]:=rfl
  unfold hasEqL
  rw [List.drop_eq_getElem_cons hl,hg,beq_iff_eq]
  by_cases h1 : a + 1 < s.size
  · have hl1 : a + 1 < s.data.toList.length:=by simpa using h1
    have hg1 : s.data.toList[a + 1] = s[a + 1]:=rfl
    rw [List.drop_eq_getElem_cons hl1,hg1]
    simp only [List.take_succ_cons,List.take_zero,List.cons.injEq,and_true]
    rw [byte_eq_iff,byte_eq_iff]
    constructor
    · rintro ⟨h2,h3⟩; exact ⟨h2,h1,h3⟩
    · rintro ⟨h2,_,h3⟩; exact ⟨h2,h3⟩
  · rw [List.drop_of_length_le (l:=s.data.toList) (by simp; omega)]
    constructor
    · intro h; simp at h
    · rintro ⟨_,h,_⟩; exact absurd h h1
theorem extract_all (x : ByteArray) : x.extract 0 x.size = x:=by
  apply ByteArray.ext
  simp
theorem first_stop {x : ByteArray} (h0 : 0 < x.size) (hk : ¬ (tokKN x 0).1 = 0) : skipL false x.data.toList 0 = 0:=by
  have hl : 0 < x.data.toList.length:=by simpa using h0
  have hg : x.data.toList[0] = x[0]:=rfl
  have key : ¬ x[0].toNat = 35∧blank x[0] = false:=by
    by_cases h35 : x[0].toNat = 35
    · have e : x[0] = 35:=(byte_eq_iff _ _).2 h35
      exfalso
      apply hk
      have hE : hasEqL x 0 = false:=by
        rw [← Bool.not_eq_true,hasEqL_iff x 0 h0]
        rintro ⟨h,_⟩; omega
      simp [tokKN,h0,e,hE,show isL 35 = false from rfl,show isD 35 = false from rfl,show isS 35 = false from rfl]
    · refine ⟨h35,?_⟩
      rw [← Bool.not_eq_true]
      intro hb
      simp only [blank,decide_eq_true_eq] at hb
      apply hk
      have hE : hasEqL x 0 = false:=by
        rw [← Bool.not_eq_true,hasEqL_iff x 0 h0]
        rintro ⟨h,_⟩; omega
      rcases hb with h | h | h
      · have e : x[0] = 32:=(byte_eq_iff _ _).2 h
        simp [tokKN,h0,e,hE,show isL 32 = false from rfl,show isD 32 = false from rfl,show isS 32 = false from rfl]
      · have e : x[0] = 9:=(byte_eq_iff _ _).2 h
        simp [tokKN,h0,e,hE,show isL 9 = false from rfl,show isD 9 = false from rfl,show isS 9 = false from rfl]
      · have e : x[0] = 10:=(byte_eq_iff _ _).2 h
        simp [tokKN,h0,e,hE,show isL 10 = false from rfl,show isD 10 = false from rfl,show isS 10 = false from rfl]
  exact skipL_stop hl key.1 key.2
theorem tokErr_kind {x : ByteArray} {j : Nat} (h : tokErr x j = 0) : ¬ (tokKN x j).1 = 0:=by
  intro h0
  simp [tokErr,h0] at h
theorem alone_scan {x : ByteArray} (h0 : 0 < x.size) (he : tokErr x 0 = 0) (hn : (tokKN x 0).2 = x.size) : scanS x = .inl [⟨(tokKN x 0).1,0,x⟩]:=by
  have hs:=first_stop h0 (tokErr_kind he)
  unfold scanS
  obtain ⟨m,hm⟩ : ∃ m,x.size = m + 1:=⟨x.size - 1,by omega⟩
  simp only [scanF,hs,h0,he,if_true,hn]
  rw [hm]
  simp only [scanF]
  rw [← hm,skipL_end (by simp)]
  simp only [Nat.lt_irrefl,if_false]
  simp only [tokAt,hn,extract_all]
  rfl
theorem isAlone_iff (k a : Int) (x : ByteArray) : isAlone ⟨k,a,x⟩ = true↔0 < x.size∧x.size≤6000∧tokErr x 0 = 0∧((tokKN x 0).1 : Int) = k∧(tokKN x 0).2 = x.size:=by
  constructor
  · intro h
    simp only [isAlone,Bool.and_eq_true,decide_eq_true_eq] at h
    obtain ⟨⟨h6,he⟩,hm⟩:=h
    have hS:=scan_ok he
    generalize hT : scanToks x = T at hm hS
    match T,hm,hS with
    | [u],hm,hS =>
      simp only [Bool.and_eq_true,beq_iff_eq] at hm
      obtain ⟨hk,ht⟩:=hm
      have hux : u.text = x:=by
        apply ByteArray.ext
        exact Array.toList_inj.1 ht
      obtain ⟨p,hp,_,hpos,hfit,hex,_⟩:=chain_scan x _ _ _ _ hS
      rw [hux] at hpos hfit hex
      have hp0 : p = 0:=by omega
      unfold scanS at hS
      simp only [scanF] at hS
      split at hS
      · rename_i hlt
        split at hS
        · rename_i he0
          have hend:=tokKN_end he0
          generalize hr : scanF x x.size false (tokKN x (skipL false x.data.toList 0)).2 = R at hS
          cases R with
          | inl us =>
            simp only [Sum.inl.injEq,List.cons.injEq] at hS
            obtain ⟨hu,_⟩:=hS
            have hj : skipL false x.data.toList 0 = 0:=by
              have : u.pos = ((skipL false x.data.toList 0 : Nat) : Int):=by rw [← hu]; rfl
              rw [hp,hp0] at this
              omega
            rw [hj] at hu he0 hend
            have hk' : ((tokKN x 0).1 : Int) = k:=by rw [← hk,← hu]; rfl
            have hx' : x.extract 0 (tokKN x 0).2 = x:=by
              have h9 : (tokAt x 0).text = x:=by rw [hu]; exact hux
              exact h9
            have hsz:=congrArg ByteArray.size hx'
            rw [ByteArray.size_extract,Nat.min_eq_left hend.2] at hsz
            exact ⟨hpos,h6,he0,hk',by omega⟩
          | inr y => simp at hS
        · simp at hS
      · simp at hS
  · rintro ⟨h0,h6,he,hk,hn⟩
    have hS:=alone_scan h0 he hn
    have hT : scanToks x = [⟨(tokKN x 0).1,0,x⟩]:=by simp [scanToks,hS]
    have hE : scanErr x = 0:=by simp [scanErr,hS]
    simp [isAlone,h6,hT,hE,hk]
def opKind (l : List UInt8) : Int :=
  if l = [43] then 3 else
  if l = [45] then 4 else
  if l = [42] then 5 else
  if l = [60] then 6 else
  if l = [61,61] then 7 else
  0
set_option maxHeartbeats 2000000 in
set_option maxRecDepth 100000 in
theorem operatorKind_any (x : ByteArray) (w : World) :
    Calls Tryz.prog 168 #[.string x] w fun e w' => e = .returned (.int .i64 (opKind x.data.toList))∧w' = w:=by
  by_cases h0 : x.data.toList = [43]
  · obtain rfl:=ba_of_list h0
    clear h0
    go_enter Tryz.func168,Tryz.ntmps168
    go_wp2
    go_ret
    exact ⟨rfl,rfl⟩
  by_cases h1 : x.data.toList = [45]
  · obtain rfl:=ba_of_list h1
    clear h0 h1
    go_enter Tryz.func168,Tryz.ntmps168
    go_wp2
    go_ret
    exact ⟨rfl,rfl⟩
  by_cases h2 : x.data.toList = [42]
  · obtain rfl:=ba_of_list h2
    clear h0 h1 h2
    go_enter Tryz.func168,Tryz.ntmps168
    go_wp2
    go_ret
    exact ⟨rfl,rfl⟩
  by_cases h3 : x.data.toList = [60]
  · obtain rfl:=ba_of_list h3
    clear h0 h1 h2 h3
    go_enter Tryz.func168,Tryz.ntmps168
    go_wp2
    go_ret
    exact ⟨rfl,rfl⟩
  by_cases h4 : x.data.toList = [61,61]
  · obtain rfl:=ba_of_list h4
    clear h0 h1 h2 h3 h4
    go_enter Tryz.func168,Tryz.ntmps168
    go_wp2
    go_ret
    exact ⟨rfl,rfl⟩
  have hr : opKind x.data.toList = 0:=by simp [opKind,h0,h1,h2,h3,h4]
  have HR:=hide hr
  have b0:=ne_of_list h0
  have b1:=ne_of_list h1
  have b2:=ne_of_list h2
  have b3:=ne_of_list h3
  have b4:=ne_of_list h4
  clear hr h0 h1 h2 h3 h4
  go_enter Tryz.func168,Tryz.ntmps168
  go_wp2
  go_ret
  exact ⟨by rw [HR.out]; rfl,rfl⟩
def dKind (l : List UInt8) : Int :=
  if l = [97,99,116,111,114] then 1 else
  if l = [103,114,97,110,116] then 2 else
  if l = [115,112,101,97,107] then 3 else
  if l = [105,110] then 4 else
  if l = [111,117,116] then 5 else
  if l = [118,97,114] then 6 else
  if l = [102,117,110,99] then 7 else
  0
set_option maxHeartbeats 2000000 in
set_option maxRecDepth 100000 in
theorem declKind_any (x : ByteArray) (w : World) :
    Calls Tryz.prog 94 #[.string x] w fun e w' => e = .returned (.int .i64 (dKind x.data.toList))∧w' = w:=by
  by_cases h0 : x.data.toList = [97,99,116,111,114]
  · obtain rfl:=ba_of_list h0
    clear h0
    go_enter Tryz.func94,Tryz.ntmps94
    go_wp2
    go_ret
    exact ⟨rfl,rfl⟩
  by_cases h1 : x.data.toList = [103,114,97,110,116]
  · obtain rfl:=ba_of_list h1
    clear h0 h1
    go_enter Tryz.func94,Tryz.ntmps94
    go_wp2
    go_ret
    exact ⟨rfl,rfl⟩
  by_cases h2 : x.data.toList = [115,112,101,97,107]
  · obtain rfl:=ba_of_list h2
    clear h0 h1 h2
    go_enter Tryz.func94,Tryz.ntmps94
    go_wp2
    go_ret
    exact ⟨rfl,rfl⟩
  by_cases h3 : x.data.toList = [105,110]
  · obtain rfl:=ba_of_list h3
    clear h0 h1 h2 h3
    go_enter Tryz.func94,Tryz.ntmps94
    go_wp2
    go_ret
    exact ⟨rfl,rfl⟩
  by_cases h4 : x.data.toList = [111,117,116]
  · obtain rfl:=ba_of_list h4
    clear h0 h1 h2 h3 h4
    go_enter Tryz.func94,Tryz.ntmps94
    go_wp2
    go_ret
    exact ⟨rfl,rfl⟩
  by_cases h5 : x.data.toList = [118,97,114]
  · obtain rfl:=ba_of_list h5
    clear h0 h1 h2 h3 h4 h5
    go_enter Tryz.func94,Tryz.ntmps94
    go_wp2
    go_ret
    exact ⟨rfl,rfl⟩
  by_cases h6 : x.data.toList = [102,117,110,99]
  · obtain rfl:=ba_of_list h6
    clear h0 h1 h2 h3 h4 h5 h6
    go_enter Tryz.func94,Tryz.ntmps94
    go_wp2
    go_ret
    exact ⟨rfl,rfl⟩
  have hr : dKind x.data.toList = 0:=by simp [dKind,h0,h1,h2,h3,h4,h5,h6]
  have HR:=hide hr
  have b0:=ne_of_list h0
  have b1:=ne_of_list h1
  have b2:=ne_of_list h2
  have b3:=ne_of_list h3
  have b4:=ne_of_list h4
  have b5:=ne_of_list h5
  have b6:=ne_of_list h6
  clear hr h0 h1 h2 h3 h4 h5 h6
  go_enter Tryz.func94,Tryz.ntmps94
  go_wp2
  go_ret
  exact ⟨by rw [HR.out]; rfl,rfl⟩
theorem opKind_ne (l : List UInt8) (h : ¬ opKind l = 0) : l≠[]:=by
  rintro rfl
  exact h rfl
set_option maxHeartbeats 1000000 in
set_option maxRecDepth 100000 in
theorem operator_yes (rb : Nat) (tv : Value) (ts : List Tok) (en n : Nat) (w : World) (h : St rb tv ts en n w) (hx : ¬ opKind (peekT ts n).text.data.toList = 0) :
    Calls Tryz.prog 156 #[.pointer (some ⟨rb,0,none⟩)] w fun e w' => e = .returned (.int .i64 (opKind (peekT ts n).text.data.toList))∧w.grownBy w' (some rb)∧St rb tv ts en (n + 1) w':=by
  have hn : n < ts.length:=peek_lt (opKind_ne _ hx)
  have h6:=h.2.2.1
  have hp:=peek_any rb tv ts en n w h
  have ho:=operatorKind_any (peekT ts n).text
  obtain ⟨kk,hkk⟩ : ∃ y,y = (peekT ts n).kind:=⟨_,rfl⟩
  obtain ⟨pp,hpp⟩ : ∃ y,y = (peekT ts n).pos:=⟨_,rfl⟩
  obtain ⟨tx,htx⟩ : ∃ y,y = (peekT ts n).text:=⟨_,rfl⟩
  rw [← hkk,← hpp,← htx] at hp
  rw [← htx] at ho hx ⊢
  unfold tokVal at hp
  obtain ⟨ok,hok⟩ : ∃ y,y = opKind tx.data.toList:=⟨_,rfl⟩
  rw [← hok] at ho hx ⊢
  have b0 : (ok == 0) = false:=by simpa using hx
  have HP:=hide hp
  have HO:=hide ho
  have hft:=field_text kk pp tx
  clear hp hkk hpp htx ho hok hx
  go_enter Tryz.func156,Tryz.ntmps156
  go_wp2_with fail
  refine (HP.out).mono ?_
  rintro e w1 ⟨rfl,hb⟩
  go_wp2_with fail
  refine (HO.out _).mono ?_
  rintro e w2 ⟨rfl,rfl⟩
  have h1:=h.below hb
  obtain ⟨c0,c1,c2,f1⟩:=h1.cells
  have hg:=grownBy_below (r:=some rb) hb
  have HST:=hide (st_next h1 hn)
  clear HP HO h h1 hb
  go_wp2_with fail
  go_ret
  exact ⟨rfl,grownBy_trans hg HST.out.2,HST.out.1⟩
set_option maxHeartbeats 1000000 in
set_option maxRecDepth 100000 in
theorem operator_no (rb : Nat) (tv : Value) (ts : List Tok) (en n : Nat) (w : World) (h : St rb tv ts en n w) (hx : opKind (peekT ts n).text.data.toList = 0) :
    Calls Tryz.prog 156 #[.pointer (some ⟨rb,0,none⟩)] w fun e w' => e = gaveUpAt (posn ts en n)∧Below w.heap.size w w':=by
  have hp:=peek_any rb tv ts en n w h
  have ho:=operatorKind_any (peekT ts n).text
  rw [hx] at ho
  obtain ⟨kk,hkk⟩ : ∃ y,y = (peekT ts n).kind:=⟨_,rfl⟩
  obtain ⟨pp,hpp⟩ : ∃ y,y = (peekT ts n).pos:=⟨_,rfl⟩
  obtain ⟨tx,htx⟩ : ∃ y,y = (peekT ts n).text:=⟨_,rfl⟩
  rw [← hkk,← hpp,← htx] at hp
  rw [← htx] at ho
  unfold tokVal at hp
  have HP:=hide hp
  have HO:=hide ho
  have hft:=field_text kk pp tx
  clear hp hkk hpp htx ho hx
  go_enter Tryz.func156,Tryz.ntmps156
  go_wp2_with fail
  refine (HP.out).mono ?_
  rintro e w1 ⟨rfl,hb⟩
  go_wp2_with fail
  refine (HO.out _).mono ?_
  rintro e w2 ⟨rfl,rfl⟩
  have HG:=hide (giveUp_any rb tv ts en n _ (h.below hb))
  clear HP HO h
  go_wp2_with fail
  refine (HG.out).mono ?_
  rintro e w2 ⟨rfl,hb2⟩
  unfold gaveUpAt
  go_wp2_with fail
  exact ⟨rfl,rfl,hb.trans (hb2.mono hb.size)⟩
/-- the number that digits spell. -/
def numN (l : List UInt8) : Nat:=l.foldl (fun n c => 10 * n + (c.toNat - 48)) 0
theorem dec_fold (l : List UInt8) (h : ∀ c∈l,isD c = true) : ∀ acc,Lib.decFrom acc l = some (l.foldl (fun n c => 10 * n + (c.toNat - 48)) acc):=by
  induction l with
  | nil => intro acc; rfl
  | cons c l ih =>
    intro acc
    have hc:=h c (by simp)
    simp only [isD,decide_eq_true_eq] at hc
    have hd : Lib.digitVal c = some (c.toNat - 48):=by
      unfold Lib.digitVal
      rw [if_pos (by first | exact hc | (simp; omega) | omega)]
    simp only [Lib.decFrom,hd,List.foldl_cons]
    rw [ih (fun d hd => h d (by simp [hd]))]
    congr 2
    omega
theorem takeWhile_mem {p : UInt8→Bool} {l : List UInt8} (h : (l.takeWhile p).length = l.length) : ∀ c∈l,p c = true:=by
  have e : l.takeWhile p = l:=(List.takeWhile_prefix p).eq_of_length h
  intro c hc
  rw [← e] at hc
  exact List.all_eq_true.1 (List.all_takeWhile) c hc
/-- a number's token: digits alone, few of them. -/
theorem alone_number {t : Tok} (ha : isAlone t = true) (hk : t.kind = 2) : t.text.size≤18∧Lib.atoi t.text.data.toList = some (numN t.text.data.toList : Int)∧t.text.data.toList≠[]∧numN t.text.data.toList≤9999999:=by
  obtain ⟨h0,h6,he,hkk,hn⟩:=(isAlone_iff t.kind t.pos t.text).1 ha
  have hkn : (tokKN t.text 0).1 = 2:=by omega
  have hD : tokKN t.text 0 = (2,spanL isD t.text.data.toList 0):=by
    by_cases hL : isL t.text[0] = true
    · have : tokKN t.text 0 = (1,spanL isN t.text.data.toList 0):=by simp [tokKN,h0,hL]
      rw [this] at hkn; simp at hkn
    by_cases hD : isD t.text[0] = true
    · simp [tokKN,h0,hL,hD]
    · have : ¬ (tokKN t.text 0).1 = 2:=by
        unfold tokKN
        rw [dif_pos h0,if_neg hL,if_neg hD]
        split
        · simp
        · split <;> simp
      exact absurd hkn this
  rw [hD] at hn
  simp only at hn
  have hsp : (t.text.data.toList.takeWhile isD).length = t.text.data.toList.length:=by
    have:=hn
    simp only [spanL,List.drop_zero,Nat.zero_add] at this
    rw [this]; rfl
  have hall:=takeWhile_mem hsp
  have hlen : t.text.size≤7:=by
    simp only [tokErr,hD] at he
    rw [if_neg (by omega)] at he
    split at he
    · cases he
    · rename_i hh
      simp only [Nat.sub_zero] at hh
      rw [hn] at hh
      simp at hh
      omega
  have hne : t.text.data.toList≠[]:=by
    intro h
    have:=congrArg List.length h
    have e : t.text.data.toList.length = t.text.size:=rfl
    simp only [List.length_nil] at this
    omega
  refine ⟨by omega,?_,hne,?_⟩
  · match hl : t.text.data.toList,hall,hne with
    | c :: l,hall,_ =>
      have hc:=hall c (by simp)
      simp only [isD,decide_eq_true_eq] at hc
      have h45 : (c == 45) = false:=by rw [beq_eq_false_iff_ne]; rintro rfl; simp at hc
      have h43 : (c == 43) = false:=by rw [beq_eq_false_iff_ne]; rintro rfl; simp at hc
      simp only [Lib.atoi,h45,h43]
      have:=dec_fold (c :: l) hall 0
      simp only [Lib.decNat,List.isEmpty_cons]
      simp only [Bool.false_eq_true,if_false]
      rw [this]
      rfl
  · have key : ∀ (l : List UInt8) (acc k : Nat),(∀ c∈l,isD c = true)→acc < 10 ^ k→l.foldl (fun n c => 10 * n + (c.toNat - 48)) acc < 10 ^ (k + l.length):=by
      intro l
      induction l with
      | nil => intro acc k _ h; simpa using h
      | cons c l ih =>
        intro acc k hd h
        have hc:=hd c (by simp)
        simp only [isD,decide_eq_true_eq] at hc
        have h10 : 10 * acc + (c.toNat - 48) < 10 ^ (k + 1):=by rw [Nat.pow_succ]; omega
        have:=ih _ (k + 1) (fun d hh => hd d (by simp [hh])) h10
        simp only [List.foldl_cons,List.length_cons]
        rw [show k + (l.length + 1) = k + 1 + l.length by omega]
        exact this
    have h1:=key t.text.data.toList 0 0 hall (by decide)
    have h2 : t.text.data.toList.length≤7:=hlen
    have h3 : 10 ^ (0 + t.text.data.toList.length)≤10 ^ 7:=Nat.pow_le_pow_right (by decide) (by omega)
    have h4 : (10 : Nat) ^ 7 = 10000000:=by decide
    unfold numN
    omega
theorem number_lt {ts : List Tok} {n : Nat} (h : (peekT ts n).kind = 2) : n < ts.length:=by
  rcases Nat.lt_or_ge n ts.length with h1 | h1
  · exact h1
  · exfalso
    have e : ts[n]? = none:=List.getElem?_eq_none h1
    simp [peekT,e] at h
theorem peekT_mem {ts : List Tok} {n : Nat} (h : n < ts.length) : peekT ts n∈ts:=by
  have : peekT ts n = ts[n]:=by simp [peekT,h]
  rw [this]
  exact List.getElem_mem h
set_option maxHeartbeats 1000000 in
set_option maxRecDepth 100000 in
theorem number_yes (rb : Nat) (tv : Value) (ts : List Tok) (hall : ts.all isAlone = true) (en n : Nat) (w : World) (h : St rb tv ts en n w) (hx : (peekT ts n).kind = 2) :
    Calls Tryz.prog 155 #[.pointer (some ⟨rb,0,none⟩)] w fun e w' => e = .returned (.int .i64 (numN (peekT ts n).text.data.toList : Int))∧w.grownBy w' (some rb)∧St rb tv ts en (n + 1) w':=by
  have hn:=number_lt hx
  have h6:=h.2.2.1
  obtain ⟨a1,a2,a3,a4⟩:=alone_number (List.all_eq_true.1 hall _ (peekT_mem hn)) hx
  have ha:=Tryz.strconv_Atoi (peekT ts n).text _ a1 a2
  have hp:=peek_any rb tv ts en n w h
  rw [hx] at hp
  obtain ⟨pp,hpp⟩ : ∃ y,y = (peekT ts n).pos:=⟨_,rfl⟩
  obtain ⟨nn,hnn⟩ : ∃ y,y = (numN (peekT ts n).text.data.toList : Int):=⟨_,rfl⟩
  rw [← hnn] at ha ⊢
  obtain ⟨tx,htx⟩ : ∃ y,y = (peekT ts n).text:=⟨_,rfl⟩
  rw [← hpp,← htx] at hp
  rw [← htx] at ha
  unfold tokVal at hp
  have HP:=hide hp
  have HA:=hide ha
  clear hp hpp htx ha hnn hx a1 a2 a3 a4
  go_enter Tryz.func155,Tryz.ntmps155
  go_wp2_with fail
  refine (HP.out).mono ?_
  rintro e w1 ⟨rfl,hb⟩
  have h1:=h.below hb
  have hlt1:=h1.lt
  obtain ⟨c0,c1,c2,f1⟩:=h1.cells
  have hg:=grownBy_below (r:=some rb) hb
  obtain ⟨s1,s2⟩:=st_next h1 hn
  have hal : Below (w1.setCell ⟨rb,1,none⟩ (.int .i64 ((n : Int) + 1))).heap.size (w1.setCell ⟨rb,1,none⟩ (.int .i64 ((n : Int) + 1))) ((w1.setCell ⟨rb,1,none⟩ (.int .i64 ((n : Int) + 1))).alloc (Obj.cells #[.int .i64 2,.int .i64 pp,.string tx] 44)):=(Below.refl _ _).alloc (Nat.le_refl _) _
  have HST:=hide (s1.below hal)
  have HGR:=hide (grownBy_trans (grownBy_trans hg s2) (grownBy_below hal))
  clear HP h s1 s2 hal h1
  go_wp2_with fail
  refine (HA.out _).mono ?_
  rintro e w2 ⟨rfl,t2,rfl⟩
  have hb3:=Lib.bytesWorld_below ((w1.setCell ⟨rb,1,none⟩ (.int .i64 ((n : Int) + 1))).alloc (Obj.cells #[.int .i64 2,.int .i64 pp,.string tx] 44)) 5 t2
  generalize Lib.bytesWorld ((w1.setCell ⟨rb,1,none⟩ (.int .i64 ((n : Int) + 1))).alloc (Obj.cells #[.int .i64 2,.int .i64 pp,.string tx] 44)) 5 t2 = w3 at hb3 ⊢
  clear c0 c1 c2 f1
  go_wp2_with fail
  go_ret
  exact ⟨rfl,grownBy_trans HGR.out (grownBy_below hb3),HST.out.below hb3⟩
set_option maxHeartbeats 1000000 in
set_option maxRecDepth 100000 in
theorem number_no (rb : Nat) (tv : Value) (ts : List Tok) (en n : Nat) (w : World) (h : St rb tv ts en n w) (hx : ¬ (peekT ts n).kind = 2) :
    Calls Tryz.prog 155 #[.pointer (some ⟨rb,0,none⟩)] w fun e w' => e = gaveUpAt (posn ts en n)∧Below w.heap.size w w':=by
  have hp:=peek_any rb tv ts en n w h
  obtain ⟨kk,hkk⟩ : ∃ y,y = (peekT ts n).kind:=⟨_,rfl⟩
  obtain ⟨pp,hpp⟩ : ∃ y,y = (peekT ts n).pos:=⟨_,rfl⟩
  obtain ⟨tx,htx⟩ : ∃ y,y = (peekT ts n).text:=⟨_,rfl⟩
  rw [← hkk,← hpp,← htx] at hp
  rw [← hkk] at hx
  unfold tokVal at hp
  have HP:=hide hp
  have b2 : (kk != 2) = true:=by simpa using hx
  clear hp hkk hpp htx hx
  go_enter Tryz.func155,Tryz.ntmps155
  go_wp2_with fail
  refine (HP.out).mono ?_
  rintro e w1 ⟨rfl,hb⟩
  have hal : Below w.heap.size w (w1.alloc (Obj.cells #[.int .i64 kk,.int .i64 pp,.string tx] 44)):=hb.alloc hb.size _
  have HG:=hide (giveUp_any rb tv ts en n _ (h.below hal))
  clear HP h
  go_wp2_with fail
  refine (HG.out).mono ?_
  rintro e w2 ⟨rfl,hb2⟩
  unfold gaveUpAt
  go_wp2_with fail
  exact ⟨rfl,rfl,hal.trans (hb2.mono hal.size)⟩
abbrev D:=DataW Empty
def dI (n : Int) : D:=.lit (.int .i64 n)
def dS (x : ByteArray) : D:=.lit (.string x.data.toList)
def dB (b : Bool) : D:=.lit (.bool b)
def dL (l : List D) : D:=.slice l []
def eD (k a n : Int) (name : ByteArray) (args : List D) : D:=.agg [dI k,dI a,dI n,dS name,dL args]
/-- a list lies in memory, each element by itself; its blocks are among those that S lets. -/
def RS (S : Nat→Prop) (size : Nat) (R : List Value→D→Prop) (w : World) (v : Value) (ds : List D) : Prop :=
  ∃ ao cap,v = .slice ao ds.length cap∧(ds≠[]→∃ b off,ao = some ⟨b,off,none⟩∧S b ∧
    ∀ (i : Nat) (d : D),ds[i]? = some d→∃ cs : List Value,cs.length = size∧(∀ (j : Nat) (u : Value),cs[j]? = some u→w.cell? ⟨b,off + i * size + j,none⟩ = some u)∧R cs d)
theorem RS.nil (S : Nat→Prop) (size : Nat) (R : List Value→D→Prop) (w : World) (ao : Option Addr) (cap : Nat) : RS S size R w (.slice ao 0 cap) []:=⟨ao,cap,rfl,fun h => absurd rfl h⟩
theorem RS.mono {S S' : Nat→Prop} {size : Nat} {R R' : List Value→D→Prop} {w w' : World} {v : Value} {ds : List D} (h : RS S size R w v ds) (hS : ∀ b,S b→b < w.heap.size→S' b)
    (hw : ∀ b,S b→b < w.heap.size→w'.heap[b]? = w.heap[b]?) (hs : 0 < size) (hR : ∀ cs d,d∈ds→R cs d→R' cs d) : RS S' size R' w' v ds:=by
  obtain ⟨ao,cap,hv,hc⟩:=h
  refine ⟨ao,cap,hv,fun hne => ?_⟩
  obtain ⟨b,off,hao,hSb,hel⟩:=hc hne
  have hlt : b < w.heap.size:=by
    cases ds with
    | nil => exact absurd rfl hne
    | cons d ds =>
      obtain ⟨cs,hl,hcs,_⟩:=hel 0 d rfl
      obtain ⟨u,hu⟩ : ∃ u,cs[0]? = some u:=⟨cs[0]'(by omega),List.getElem?_eq_getElem (by omega)⟩
      exact World.block_lt_of_cell? w _ (hcs 0 u hu)
  refine ⟨b,off,hao,hS b hSb hlt,fun i d hd => ?_⟩
  obtain ⟨cs,hl,hcs,hr⟩:=hel i d hd
  refine ⟨cs,hl,fun j u hu => ?_,hR cs d (List.mem_of_getElem? hd) hr⟩
  rw [World.cell?_of_block (a:=⟨b,off + i * size + j,none⟩) (hw b hSb hlt)]
  exact hcs j u hu
/-- an expression, so deep at most. -/
def RE (S : Nat→Prop) (w : World) : Nat→List Value→D→Prop
  | 0,_,_ => False
  | k + 1,cs,d => ∃ (kd a n : Int) (x : ByteArray) (v : Value) (ds : List D),cs = [.int .i64 kd,.int .i64 a,.int .i64 n,.string x,v]∧d = eD kd a n x ds∧RS S 5 (RE S w k) w v ds
theorem RE.mono {S S' : Nat→Prop} {w w' : World} (hS : ∀ b,S b→b < w.heap.size→S' b) (hw : ∀ b,S b→b < w.heap.size→w'.heap[b]? = w.heap[b]?) :
    ∀ (k m : Nat) (cs : List Value) (d : D),k≤m→RE S w k cs d→RE S' w' m cs d:=by
  intro k
  induction k with
  | zero => intro m cs d _ h; exact h.elim
  | succ k ih =>
    intro m cs d hkm h
    obtain ⟨m',rfl⟩ : ∃ m',m = m' + 1:=⟨m - 1,by omega⟩
    obtain ⟨kd,a,n,x,v,ds,hcs,hd,hr⟩:=h
    exact ⟨kd,a,n,x,v,ds,hcs,hd,hr.mono hS hw (by decide) (fun cs d _ hh => ih m' cs d (by omega) hh)⟩
/-- an expression's parts from the place n on: what it is, and what stands next; or where it can't go on. -/
def pE (ts : List Tok) (en : Nat) : Nat→Nat→Nat→Sum (D × Nat) Nat
  | 0,_,n => .inr n
  | f + 1,deep,n =>
    if (peekT ts n).kind = 2 then .inl (eD 1 (posn ts en n) (numN (peekT ts n).text.data.toList) ⟨#[]⟩ [],n + 1)
    else if isT ts n [45] = true then
      if isT ts (n + 1) [48] = true then .inr (n + 1)
      else if (peekT ts (n + 1)).kind = 2 then .inl (eD 1 (posn ts en n) (-(numN (peekT ts (n + 1)).text.data.toList : Int)) ⟨#[]⟩ [],n + 2)
      else .inr (n + 1)
    else if isNameT (peekT ts n) = true then .inl (eD 2 (posn ts en n) 0 (peekT ts n).text [],n + 1)
    else if deep < 60∧isT ts n [40] = true then
      match pE ts en f (deep + 1) (n + 1) with
      | .inr m => .inr m
      | .inl (a,n1) =>
        if opKind (peekT ts n1).text.data.toList = 0 then .inr n1
        else match pE ts en f (deep + 1) (n1 + 1) with
          | .inr m => .inr m
          | .inl (b,n2) => if isT ts n2 [41] = true then .inl (eD (opKind (peekT ts n1).text.data.toList) (posn ts en n) 0 ⟨#[]⟩ [a,b],n2 + 1) else .inr n2
    else .inr n
theorem block_keep {w w' : World} {rb g : Nat} {o : Obj} (h : w.heap[g]? = some o) (hg : w.grownBy w' (some rb)) (hne : g≠rb) : w'.heap[g]? = some o:=by
  rw [hg.block g (Array.getElem?_eq_some_iff.1 h).1 (by simpa using hne)]
  exact h
theorem block_below {w w' : World} {g : Nat} {o : Obj} (h : w.heap[g]? = some o) (hb : Below w.heap.size w w') : w'.heap[g]? = some o:=by
  rw [hb.block g (Array.getElem?_eq_some_iff.1 h).1]
  exact h
/-- five cells of a block. -/
theorem five {w : World} {g T : Nat} {a b c d e : Value} (h : w.heap[g]? = some (Obj.cells #[a,b,c,d,e] T (0,0))) :
    w.cell? ⟨g,0,none⟩ = some a∧w.cell? ⟨g,1,none⟩ = some b∧w.cell? ⟨g,2,none⟩ = some c∧w.cell? ⟨g,3,none⟩ = some d∧w.cell? ⟨g,4,none⟩ = some e∧(∀ j,w.frozen? ⟨g,j,none⟩ = false)∧g < w.heap.size:=by
  refine ⟨?_,?_,?_,?_,?_,fun j => Lib.frozen_of_heap h j,(Array.getElem?_eq_some_iff.1 h).1⟩ <;> rw [Lib.cell_of_heap h] <;> rfl
theorem grownBy_setCell {w w4 : World} {r : Option Nat} (h : w.grownBy w4 r) {p : Addr} (hp : w.heap.size≤p.block) (u : Value) : w.grownBy (w4.setCell p u) r :=
  ⟨h.os,h.tape,h.output,by have:=h.size; simp [World.setCell]; omega,fun k hk hne => by rw [Below.heap_setCell _ _ _ _ (by omega)]; exact h.block k hk hne⟩
theorem grownBy_alloc {w w4 : World} {r : Option Nat} (h : w.grownBy w4 r) (o : Obj) : w.grownBy (w4.alloc o) r :=
  ⟨h.os,h.tape,h.output,by have:=h.size; simp; omega,fun k hk hne => by rw [Below.heap_alloc _ _ _ (by have:=h.size; omega)]; exact h.block k hk hne⟩
theorem block_setCell {w : World} {g : Nat} {o : Obj} {p : Addr} {u : Value} (h : w.heap[g]? = some o) (hne : g≠p.block) : (w.setCell p u).heap[g]? = some o:=by
  rw [Below.heap_setCell _ _ _ _ hne]; exact h
theorem block_alloc {w : World} {g : Nat} {o o' : Obj} (h : w.heap[g]? = some o) : (w.alloc o').heap[g]? = some o:=by
  rw [Below.heap_alloc _ _ _ (Array.getElem?_eq_some_iff.1 h).1]; exact h
/-- how a call of the reader's ends: what it answers, and where the reader stands; or where it gave up. -/
def PostE (rb : Nat) (tv : Value) (ts : List Tok) (en : Nat) (k : Nat) (w : World) (res : Sum (D × Nat) Nat) (e : Ending) (w' : World) : Prop :=
  w.grownBy w' (some rb)∧match res with
    | .inl (d,n) => ∃ cs : List Value,e = .returned (.agg cs.toArray)∧RE (fun b => w.heap.size≤b) w' k cs d∧St rb tv ts en n w'
    | .inr m => e = gaveUpAt (posn ts en m)
set_option maxHeartbeats 1000000 in
set_option maxRecDepth 100000 in
theorem expr_minus_zero (rb : Nat) (tv : Value) (ts : List Tok) (hall : ts.all isAlone = true) (en n f deep : Nat) (w : World) (h : St rb tv ts en n w) (hx2 : ¬ (peekT ts n).kind = 2) (hm : isT ts n [45] = true) (hz : isT ts (n + 1) [48] = true) :
    Calls Tryz.prog 133 #[.pointer (some ⟨rb,0,none⟩),.int .i64 (deep : Int)] w (PostE rb tv ts en (f + 1) w (.inr (n + 1))):=by
  have hn:=isT_lt hm (by simp)
  have hal : Below w.heap.size w (w.alloc (Obj.cells #[.int .i64 0,.int .i64 0,.int .i64 0,.string ⟨#[]⟩,.slice none 0 0] 49)):=(Below.refl _ w).alloc (Nat.le_refl _) _
  have HH:=hide (here_any rb tv ts en n _ (h.below hal))
  have hrl:=h.lt
  have HX:=hide h
  go_enter Tryz.func133,Tryz.ntmps133
  go_wp2_with fail
  refine (HH.out).mono ?_
  rintro e w1 ⟨rfl,hb1⟩
  have k0q:=block_below (heap_alloc_new w _) hb1
  have hl1 : w.heap.size < w1.heap.size:=(Array.getElem?_eq_some_iff.1 k0q).1
  have hB1 : Below w.heap.size w w1:=hal.trans (hb1.mono hal.size)
  obtain ⟨w2,hw2⟩ : ∃ w2,w2 = w1.alloc (Obj.cells #[.int .i64 0,.int .i64 (posn ts en n),.int .i64 0,.string ⟨#[]⟩,.slice none 0 0] 49):=⟨_,rfl⟩
  have hal2 : Below w1.heap.size w1 w2:=by rw [hw2]; exact (Below.refl _ w1).alloc (Nat.le_refl _) _
  have k1b0 : w2.heap[w1.heap.size]? = some (Obj.cells #[.int .i64 0,.int .i64 (posn ts en n),.int .i64 0,.string ⟨#[]⟩,.slice none 0 0] 49 (0,0)):=by rw [hw2]; exact heap_alloc_new w1 _
  have k0b0:=block_below k0q hal2
  have hB2 : Below w.heap.size w w2:=hB1.trans (hal2.mono hB1.size)
  have hst0:=h.below hB2
  have hgw0:=grownBy_below (r:=some rb) hB2
  have hp:=peek_any rb tv ts en n w2 hst0
  obtain ⟨kk,hkk⟩ : ∃ y,y = (peekT ts n).kind:=⟨_,rfl⟩
  obtain ⟨pp,hpp⟩ : ∃ y,y = (peekT ts n).pos:=⟨_,rfl⟩
  obtain ⟨tx,htx⟩ : ∃ y,y = (peekT ts n).text:=⟨_,rfl⟩
  rw [← hkk,← hpp,← htx] at hp
  have bk : (kk == 2) = false:=by rw [hkk]; simpa using hx2
  unfold tokVal at hp
  rw [hw2] at hp
  have HP:=hide hp
  have hfk:=field_kind kk pp tx
  clear hp hkk hpp htx HH hal hb1 h hB1
  go_wp2_with fail
  refine (HP.out).mono ?_
  rintro e w3 ⟨rfl,hb3⟩
  rw [← hw2] at hb3
  clear HP hw2 k0q hal2 hB2 hx2
  have g1:=grownBy_below (r:=some rb) hb3
  have hst1:=hst0.below hb3
  have k0b1:=block_keep k0b0 g1 (by omega)
  have k1b1:=block_keep k1b0 g1 (by omega)
  have hgw1:=grownBy_trans hgw0 g1
  clear g1 k0b0 k1b0 hgw0 hst0
  clear hb3
  have HC:=hide (takes_yes rb tv ts en n ⟨#[45]⟩ _ hst1 hm hn)
  go_wp2_with fail
  refine (HC.out).mono ?_
  rintro e wv11 ⟨rfl,hgv11,hsv11⟩
  clear HC
  have g2:=hgv11
  have hst2:=hsv11
  have k0b2:=block_keep k0b1 g2 (by omega)
  have k1b2:=block_keep k1b1 g2 (by omega)
  have hgw2:=grownBy_trans hgw1 g2
  clear g2 k0b1 k1b1 hgw1 hst1
  clear hgv11 hsv11
  have hc:=is_at rb tv ts en (n + 1) ⟨#[48]⟩ _ hst2
  rw [show isT ts (n + 1) (ByteArray.mk #[48]).data.toList = true from hz] at hc
  have HC:=hide hc
  clear hc
  go_wp2_with fail
  refine (HC.out).mono ?_
  rintro e wv12 ⟨rfl,hbv12⟩
  clear HC
  have g3:=grownBy_below (r:=some rb) hbv12
  have hst3:=hst2.below hbv12
  have k0b3:=block_keep k0b2 g3 (by omega)
  have k1b3:=block_keep k1b2 g3 (by omega)
  have hgw3:=grownBy_trans hgw2 g3
  clear g3 k0b2 k1b2 hgw2 hst2
  clear hbv12
  have HC:=hide (giveUp_any rb tv ts en (n + 1) _ hst3)
  go_wp2_with fail
  refine (HC.out).mono ?_
  rintro e wz ⟨rfl,hbz⟩
  unfold gaveUpAt
  go_wp2_with fail
  exact ⟨rfl,grownBy_trans hgw3 (grownBy_below hbz),rfl⟩
set_option maxHeartbeats 1000000 in
set_option maxRecDepth 100000 in
theorem expr_minus_no (rb : Nat) (tv : Value) (ts : List Tok) (hall : ts.all isAlone = true) (en n f deep : Nat) (w : World) (h : St rb tv ts en n w) (hx2 : ¬ (peekT ts n).kind = 2) (hm : isT ts n [45] = true) (hz : isT ts (n + 1) [48] = false) (hq : ¬ (peekT ts (n + 1)).kind = 2) :
    Calls Tryz.prog 133 #[.pointer (some ⟨rb,0,none⟩),.int .i64 (deep : Int)] w (PostE rb tv ts en (f + 1) w (.inr (n + 1))):=by
  have hn:=isT_lt hm (by simp)
  have hal : Below w.heap.size w (w.alloc (Obj.cells #[.int .i64 0,.int .i64 0,.int .i64 0,.string ⟨#[]⟩,.slice none 0 0] 49)):=(Below.refl _ w).alloc (Nat.le_refl _) _
  have HH:=hide (here_any rb tv ts en n _ (h.below hal))
  have hrl:=h.lt
  have HX:=hide h
  go_enter Tryz.func133,Tryz.ntmps133
  go_wp2_with fail
  refine (HH.out).mono ?_
  rintro e w1 ⟨rfl,hb1⟩
  have k0q:=block_below (heap_alloc_new w _) hb1
  have hl1 : w.heap.size < w1.heap.size:=(Array.getElem?_eq_some_iff.1 k0q).1
  have hB1 : Below w.heap.size w w1:=hal.trans (hb1.mono hal.size)
  obtain ⟨w2,hw2⟩ : ∃ w2,w2 = w1.alloc (Obj.cells #[.int .i64 0,.int .i64 (posn ts en n),.int .i64 0,.string ⟨#[]⟩,.slice none 0 0] 49):=⟨_,rfl⟩
  have hal2 : Below w1.heap.size w1 w2:=by rw [hw2]; exact (Below.refl _ w1).alloc (Nat.le_refl _) _
  have k1b0 : w2.heap[w1.heap.size]? = some (Obj.cells #[.int .i64 0,.int .i64 (posn ts en n),.int .i64 0,.string ⟨#[]⟩,.slice none 0 0] 49 (0,0)):=by rw [hw2]; exact heap_alloc_new w1 _
  have k0b0:=block_below k0q hal2
  have hB2 : Below w.heap.size w w2:=hB1.trans (hal2.mono hB1.size)
  have hst0:=h.below hB2
  have hgw0:=grownBy_below (r:=some rb) hB2
  have hp:=peek_any rb tv ts en n w2 hst0
  obtain ⟨kk,hkk⟩ : ∃ y,y = (peekT ts n).kind:=⟨_,rfl⟩
  obtain ⟨pp,hpp⟩ : ∃ y,y = (peekT ts n).pos:=⟨_,rfl⟩
  obtain ⟨tx,htx⟩ : ∃ y,y = (peekT ts n).text:=⟨_,rfl⟩
  rw [← hkk,← hpp,← htx] at hp
  have bk : (kk == 2) = false:=by rw [hkk]; simpa using hx2
  unfold tokVal at hp
  rw [hw2] at hp
  have HP:=hide hp
  have hfk:=field_kind kk pp tx
  clear hp hkk hpp htx HH hal hb1 h hB1
  go_wp2_with fail
  refine (HP.out).mono ?_
  rintro e w3 ⟨rfl,hb3⟩
  rw [← hw2] at hb3
  clear HP hw2 k0q hal2 hB2 hx2
  have g1:=grownBy_below (r:=some rb) hb3
  have hst1:=hst0.below hb3
  have k0b1:=block_keep k0b0 g1 (by omega)
  have k1b1:=block_keep k1b0 g1 (by omega)
  have hgw1:=grownBy_trans hgw0 g1
  clear g1 k0b0 k1b0 hgw0 hst0
  clear hb3
  have HC:=hide (takes_yes rb tv ts en n ⟨#[45]⟩ _ hst1 hm hn)
  go_wp2_with fail
  refine (HC.out).mono ?_
  rintro e wv11 ⟨rfl,hgv11,hsv11⟩
  clear HC
  have g2:=hgv11
  have hst2:=hsv11
  have k0b2:=block_keep k0b1 g2 (by omega)
  have k1b2:=block_keep k1b1 g2 (by omega)
  have hgw2:=grownBy_trans hgw1 g2
  clear g2 k0b1 k1b1 hgw1 hst1
  clear hgv11 hsv11
  have hc:=is_at rb tv ts en (n + 1) ⟨#[48]⟩ _ hst2
  rw [show isT ts (n + 1) (ByteArray.mk #[48]).data.toList = false from hz] at hc
  have HC:=hide hc
  clear hc
  go_wp2_with fail
  refine (HC.out).mono ?_
  rintro e wv12 ⟨rfl,hbv12⟩
  clear HC
  have g3:=grownBy_below (r:=some rb) hbv12
  have hst3:=hst2.below hbv12
  have k0b3:=block_keep k0b2 g3 (by omega)
  have k1b3:=block_keep k1b2 g3 (by omega)
  have hgw3:=grownBy_trans hgw2 g3
  clear g3 k0b2 k1b2 hgw2 hst2
  clear hbv12
  have HC:=hide (number_no rb tv ts en (n + 1) _ hst3 hq)
  go_wp2_with fail
  refine (HC.out).mono ?_
  rintro e wz ⟨rfl,hbz⟩
  unfold gaveUpAt
  go_wp2_with fail
  exact ⟨rfl,grownBy_trans hgw3 (grownBy_below hbz),rfl⟩
set_option maxHeartbeats 1000000 in
set_option maxRecDepth 100000 in
theorem expr_minus (rb : Nat) (tv : Value) (ts : List Tok) (hall : ts.all isAlone = true) (en n f deep : Nat) (w : World) (h : St rb tv ts en n w) (hx2 : ¬ (peekT ts n).kind = 2) (hm : isT ts n [45] = true) (hz : isT ts (n + 1) [48] = false) (hq : (peekT ts (n + 1)).kind = 2) :
    Calls Tryz.prog 133 #[.pointer (some ⟨rb,0,none⟩),.int .i64 (deep : Int)] w (PostE rb tv ts en (f + 1) w (.inl (eD 1 (posn ts en n) (-(numN (peekT ts (n + 1)).text.data.toList : Int)) ⟨#[]⟩ [],n + 2))):=by
  have hn:=isT_lt hm (by simp)
  have hn1:=number_lt hq
  have hbd:=(alone_number (List.all_eq_true.1 hall _ (peekT_mem hn1)) hq).2.2.2
  have hal : Below w.heap.size w (w.alloc (Obj.cells #[.int .i64 0,.int .i64 0,.int .i64 0,.string ⟨#[]⟩,.slice none 0 0] 49)):=(Below.refl _ w).alloc (Nat.le_refl _) _
  have HH:=hide (here_any rb tv ts en n _ (h.below hal))
  have hrl:=h.lt
  have HX:=hide h
  go_enter Tryz.func133,Tryz.ntmps133
  go_wp2_with fail
  refine (HH.out).mono ?_
  rintro e w1 ⟨rfl,hb1⟩
  have k0q:=block_below (heap_alloc_new w _) hb1
  have hl1 : w.heap.size < w1.heap.size:=(Array.getElem?_eq_some_iff.1 k0q).1
  have hB1 : Below w.heap.size w w1:=hal.trans (hb1.mono hal.size)
  obtain ⟨w2,hw2⟩ : ∃ w2,w2 = w1.alloc (Obj.cells #[.int .i64 0,.int .i64 (posn ts en n),.int .i64 0,.string ⟨#[]⟩,.slice none 0 0] 49):=⟨_,rfl⟩
  have hal2 : Below w1.heap.size w1 w2:=by rw [hw2]; exact (Below.refl _ w1).alloc (Nat.le_refl _) _
  have k1b0 : w2.heap[w1.heap.size]? = some (Obj.cells #[.int .i64 0,.int .i64 (posn ts en n),.int .i64 0,.string ⟨#[]⟩,.slice none 0 0] 49 (0,0)):=by rw [hw2]; exact heap_alloc_new w1 _
  have k0b0:=block_below k0q hal2
  have hB2 : Below w.heap.size w w2:=hB1.trans (hal2.mono hB1.size)
  have hst0:=h.below hB2
  have hgw0:=grownBy_below (r:=some rb) hB2
  have hp:=peek_any rb tv ts en n w2 hst0
  obtain ⟨kk,hkk⟩ : ∃ y,y = (peekT ts n).kind:=⟨_,rfl⟩
  obtain ⟨pp,hpp⟩ : ∃ y,y = (peekT ts n).pos:=⟨_,rfl⟩
  obtain ⟨tx,htx⟩ : ∃ y,y = (peekT ts n).text:=⟨_,rfl⟩
  rw [← hkk,← hpp,← htx] at hp
  have bk : (kk == 2) = false:=by rw [hkk]; simpa using hx2
  unfold tokVal at hp
  rw [hw2] at hp
  have HP:=hide hp
  have hfk:=field_kind kk pp tx
  clear hp hkk hpp htx HH hal hb1 h hB1
  go_wp2_with fail
  refine (HP.out).mono ?_
  rintro e w3 ⟨rfl,hb3⟩
  rw [← hw2] at hb3
  clear HP hw2 k0q hal2 hB2 hx2
  have g1:=grownBy_below (r:=some rb) hb3
  have hst1:=hst0.below hb3
  have k0b1:=block_keep k0b0 g1 (by omega)
  have k1b1:=block_keep k1b0 g1 (by omega)
  have hgw1:=grownBy_trans hgw0 g1
  clear g1 k0b0 k1b0 hgw0 hst0
  clear hb3
  have HC:=hide (takes_yes rb tv ts en n ⟨#[45]⟩ _ hst1 hm hn)
  go_wp2_with fail
  refine (HC.out).mono ?_
  rintro e wv11 ⟨rfl,hgv11,hsv11⟩
  clear HC
  have g2:=hgv11
  have hst2:=hsv11
  have k0b2:=block_keep k0b1 g2 (by omega)
  have k1b2:=block_keep k1b1 g2 (by omega)
  have hgw2:=grownBy_trans hgw1 g2
  clear g2 k0b1 k1b1 hgw1 hst1
  clear hgv11 hsv11
  have hc:=is_at rb tv ts en (n + 1) ⟨#[48]⟩ _ hst2
  rw [show isT ts (n + 1) (ByteArray.mk #[48]).data.toList = false from hz] at hc
  have HC:=hide hc
  clear hc
  go_wp2_with fail
  refine (HC.out).mono ?_
  rintro e wv12 ⟨rfl,hbv12⟩
  clear HC
  have g3:=grownBy_below (r:=some rb) hbv12
  have hst3:=hst2.below hbv12
  have k0b3:=block_keep k0b2 g3 (by omega)
  have k1b3:=block_keep k1b2 g3 (by omega)
  have hgw3:=grownBy_trans hgw2 g3
  clear g3 k0b2 k1b2 hgw2 hst2
  clear hbv12
  have HQ:=hide hq
  clear hq hz hm
  have HC:=hide (number_yes rb tv ts hall en (n + 1) _ hst3 HQ.out)
  go_wp2_with fail
  refine (HC.out).mono ?_
  rintro e wv13 ⟨rfl,hgv13,hsv13⟩
  clear HC
  have g4:=hgv13
  have hst4:=hsv13
  have k0b4:=block_keep k0b3 g4 (by omega)
  have k1b4:=block_keep k1b3 g4 (by omega)
  have hgw4:=grownBy_trans hgw3 g4
  clear g4 k0b3 k1b3 hgw3 hst3
  clear hgv13 hsv13
  obtain ⟨nn,hnn⟩ : ∃ nn : Nat,nn = numN (peekT ts (n + 1)).text.data.toList:=⟨_,rfl⟩
  rw [← hnn] at hbd ⊢
  have HNN:=hide hnn
  clear hnn
  obtain ⟨p0,p1,p2,p3,p4,pf,pl⟩:=five k0b4
  obtain ⟨e0,e1,e2,e3,e4,ef,el⟩:=five k1b4
  have HR:=hide hst4.1
  clear k0b4 k1b4 hst4
  go_wp2_with fail
  refine bodyPost_ret (v:=.agg #[.int .i64 1,.int .i64 (posn ts en n),.int .i64 (-(nn : Int)),.string ⟨#[]⟩,.slice none 0 0]) (by simp [results,Tryz.results133,go_sem,p0,p1,p2,p3,p4]) rfl ?_
  have hgF:=grownBy_setCell (grownBy_setCell (grownBy_setCell (grownBy_setCell (grownBy_setCell (grownBy_setCell (grownBy_setCell (hgw4) (p:=⟨w1.heap.size,0,none⟩) (by simp; omega) (.int .i64 1)) (p:=⟨w1.heap.size,2,none⟩) (by simp; omega) (.int .i64 (-(nn : Int)))) (p:=⟨w.heap.size,0,none⟩) (by simp) (.int .i64 1)) (p:=⟨w.heap.size,1,none⟩) (by simp) (.int .i64 (posn ts en n))) (p:=⟨w.heap.size,2,none⟩) (by simp) (.int .i64 (-(nn : Int)))) (p:=⟨w.heap.size,3,none⟩) (by simp) (.string ⟨#[]⟩)) (p:=⟨w.heap.size,4,none⟩) (by simp) (.slice none 0 0)
  refine ⟨hgF,[.int .i64 1,.int .i64 (posn ts en n),.int .i64 (-(nn : Int)),.string ⟨#[]⟩,.slice none 0 0],rfl,?_,HX.out.keep hgF ?_ hn1⟩
  · exact ⟨1,posn ts en n,(-(nn : Int)),⟨#[]⟩,.slice none 0 0,[],rfl,by rw [HNN.out],RS.nil _ _ _ _ _ _⟩
  · exact block_setCell (block_setCell (block_setCell (block_setCell (block_setCell (block_setCell (block_setCell (HR.out) (by simp; omega)) (by simp; omega)) (by simp; omega)) (by simp; omega)) (by simp; omega)) (by simp; omega)) (by simp; omega)
set_option maxHeartbeats 1000000 in
set_option maxRecDepth 100000 in
theorem expr_name (rb : Nat) (tv : Value) (ts : List Tok) (hall : ts.all isAlone = true) (en n f deep : Nat) (w : World) (h : St rb tv ts en n w) (hx2 : ¬ (peekT ts n).kind = 2) (hm : isT ts n [45] = false) (hN : isNameT (peekT ts n) = true) :
    Calls Tryz.prog 133 #[.pointer (some ⟨rb,0,none⟩),.int .i64 (deep : Int)] w (PostE rb tv ts en (f + 1) w (.inl (eD 2 (posn ts en n) 0 (peekT ts n).text [],n + 1))):=by
  have hn:=isNameT_lt hN
  have hal : Below w.heap.size w (w.alloc (Obj.cells #[.int .i64 0,.int .i64 0,.int .i64 0,.string ⟨#[]⟩,.slice none 0 0] 49)):=(Below.refl _ w).alloc (Nat.le_refl _) _
  have HH:=hide (here_any rb tv ts en n _ (h.below hal))
  have hrl:=h.lt
  have HX:=hide h
  go_enter Tryz.func133,Tryz.ntmps133
  go_wp2_with fail
  refine (HH.out).mono ?_
  rintro e w1 ⟨rfl,hb1⟩
  have k0q:=block_below (heap_alloc_new w _) hb1
  have hl1 : w.heap.size < w1.heap.size:=(Array.getElem?_eq_some_iff.1 k0q).1
  have hB1 : Below w.heap.size w w1:=hal.trans (hb1.mono hal.size)
  obtain ⟨w2,hw2⟩ : ∃ w2,w2 = w1.alloc (Obj.cells #[.int .i64 0,.int .i64 (posn ts en n),.int .i64 0,.string ⟨#[]⟩,.slice none 0 0] 49):=⟨_,rfl⟩
  have hal2 : Below w1.heap.size w1 w2:=by rw [hw2]; exact (Below.refl _ w1).alloc (Nat.le_refl _) _
  have k1b0 : w2.heap[w1.heap.size]? = some (Obj.cells #[.int .i64 0,.int .i64 (posn ts en n),.int .i64 0,.string ⟨#[]⟩,.slice none 0 0] 49 (0,0)):=by rw [hw2]; exact heap_alloc_new w1 _
  have k0b0:=block_below k0q hal2
  have hB2 : Below w.heap.size w w2:=hB1.trans (hal2.mono hB1.size)
  have hst0:=h.below hB2
  have hgw0:=grownBy_below (r:=some rb) hB2
  have hp:=peek_any rb tv ts en n w2 hst0
  obtain ⟨kk,hkk⟩ : ∃ y,y = (peekT ts n).kind:=⟨_,rfl⟩
  obtain ⟨pp,hpp⟩ : ∃ y,y = (peekT ts n).pos:=⟨_,rfl⟩
  obtain ⟨tx,htx⟩ : ∃ y,y = (peekT ts n).text:=⟨_,rfl⟩
  rw [← hkk,← hpp,← htx] at hp
  have bk : (kk == 2) = false:=by rw [hkk]; simpa using hx2
  unfold tokVal at hp
  rw [hw2] at hp
  have HP:=hide hp
  have hfk:=field_kind kk pp tx
  clear hp hkk hpp htx HH hal hb1 h hB1
  go_wp2_with fail
  refine (HP.out).mono ?_
  rintro e w3 ⟨rfl,hb3⟩
  rw [← hw2] at hb3
  clear HP hw2 k0q hal2 hB2 hx2
  have g1:=grownBy_below (r:=some rb) hb3
  have hst1:=hst0.below hb3
  have k0b1:=block_keep k0b0 g1 (by omega)
  have k1b1:=block_keep k1b0 g1 (by omega)
  have hgw1:=grownBy_trans hgw0 g1
  clear g1 k0b0 k1b0 hgw0 hst0
  clear hb3
  have HC:=hide (takes_no rb tv ts en n ⟨#[45]⟩ _ hst1 hm)
  go_wp2_with fail
  refine (HC.out).mono ?_
  rintro e wv11 ⟨rfl,hbv11⟩
  clear HC
  have g2:=grownBy_below (r:=some rb) hbv11
  have hst2:=hst1.below hbv11
  have k0b2:=block_keep k0b1 g2 (by omega)
  have k1b2:=block_keep k1b1 g2 (by omega)
  have hgw2:=grownBy_trans hgw1 g2
  clear g2 k0b1 k1b1 hgw1 hst1
  clear hbv11
  have hc:=isName_any rb tv ts en n _ hst2
  rw [hN] at hc
  have HC:=hide hc
  clear hc
  go_wp2_with fail
  refine (HC.out).mono ?_
  rintro e wv12 ⟨rfl,hbv12⟩
  clear HC
  have g3:=grownBy_below (r:=some rb) hbv12
  have hst3:=hst2.below hbv12
  have k0b3:=block_keep k0b2 g3 (by omega)
  have k1b3:=block_keep k1b2 g3 (by omega)
  have hgw3:=grownBy_trans hgw2 g3
  clear g3 k0b2 k1b2 hgw2 hst2
  clear hbv12
  have HN:=hide hN
  clear hN hm
  have HC:=hide (name_yes rb tv ts en n _ hst3 HN.out)
  go_wp2_with fail
  refine (HC.out).mono ?_
  rintro e wv13 ⟨rfl,hgv13,hsv13⟩
  clear HC
  have g4:=hgv13
  have hst4:=hsv13
  have k0b4:=block_keep k0b3 g4 (by omega)
  have k1b4:=block_keep k1b3 g4 (by omega)
  have hgw4:=grownBy_trans hgw3 g4
  clear g4 k0b3 k1b3 hgw3 hst3
  clear hgv13 hsv13
  obtain ⟨nm,hnm⟩ : ∃ nm,nm = (peekT ts n).text:=⟨_,rfl⟩
  rw [← hnm]
  have HNM:=hide hnm
  clear hnm
  obtain ⟨p0,p1,p2,p3,p4,pf,pl⟩:=five k0b4
  obtain ⟨e0,e1,e2,e3,e4,ef,el⟩:=five k1b4
  have HR:=hide hst4.1
  clear k0b4 k1b4 hst4
  go_wp2_with fail
  refine bodyPost_ret (v:=.agg #[.int .i64 2,.int .i64 (posn ts en n),.int .i64 0,.string nm,.slice none 0 0]) (by simp [results,Tryz.results133,go_sem,p0,p1,p2,p3,p4]) rfl ?_
  have hgF:=grownBy_setCell (grownBy_setCell (grownBy_setCell (grownBy_setCell (grownBy_setCell (grownBy_setCell (grownBy_setCell (hgw4) (p:=⟨w1.heap.size,0,none⟩) (by simp; omega) (.int .i64 2)) (p:=⟨w1.heap.size,3,none⟩) (by simp; omega) (.string nm)) (p:=⟨w.heap.size,0,none⟩) (by simp) (.int .i64 2)) (p:=⟨w.heap.size,1,none⟩) (by simp) (.int .i64 (posn ts en n))) (p:=⟨w.heap.size,2,none⟩) (by simp) (.int .i64 0)) (p:=⟨w.heap.size,3,none⟩) (by simp) (.string nm)) (p:=⟨w.heap.size,4,none⟩) (by simp) (.slice none 0 0)
  refine ⟨hgF,[.int .i64 2,.int .i64 (posn ts en n),.int .i64 0,.string nm,.slice none 0 0],rfl,?_,HX.out.keep hgF ?_ hn⟩
  · exact ⟨2,posn ts en n,0,nm,.slice none 0 0,[],rfl,by rw [HNM.out],RS.nil _ _ _ _ _ _⟩
  · exact block_setCell (block_setCell (block_setCell (block_setCell (block_setCell (block_setCell (block_setCell (HR.out) (by simp; omega)) (by simp; omega)) (by simp; omega)) (by simp; omega)) (by simp; omega)) (by simp; omega)) (by simp; omega)
set_option maxHeartbeats 1000000 in
set_option maxRecDepth 100000 in
theorem expr_deep (rb : Nat) (tv : Value) (ts : List Tok) (hall : ts.all isAlone = true) (en n f deep : Nat) (w : World) (h : St rb tv ts en n w) (hx2 : ¬ (peekT ts n).kind = 2) (hm : isT ts n [45] = false) (hN : isNameT (peekT ts n) = false) (hd : ¬ deep < 60) (hd2 : deep≤60) :
    Calls Tryz.prog 133 #[.pointer (some ⟨rb,0,none⟩),.int .i64 (deep : Int)] w (PostE rb tv ts en (f + 1) w (.inr n)):=by
  have hal : Below w.heap.size w (w.alloc (Obj.cells #[.int .i64 0,.int .i64 0,.int .i64 0,.string ⟨#[]⟩,.slice none 0 0] 49)):=(Below.refl _ w).alloc (Nat.le_refl _) _
  have HH:=hide (here_any rb tv ts en n _ (h.below hal))
  have hrl:=h.lt
  have HX:=hide h
  go_enter Tryz.func133,Tryz.ntmps133
  go_wp2_with fail
  refine (HH.out).mono ?_
  rintro e w1 ⟨rfl,hb1⟩
  have k0q:=block_below (heap_alloc_new w _) hb1
  have hl1 : w.heap.size < w1.heap.size:=(Array.getElem?_eq_some_iff.1 k0q).1
  have hB1 : Below w.heap.size w w1:=hal.trans (hb1.mono hal.size)
  obtain ⟨w2,hw2⟩ : ∃ w2,w2 = w1.alloc (Obj.cells #[.int .i64 0,.int .i64 (posn ts en n),.int .i64 0,.string ⟨#[]⟩,.slice none 0 0] 49):=⟨_,rfl⟩
  have hal2 : Below w1.heap.size w1 w2:=by rw [hw2]; exact (Below.refl _ w1).alloc (Nat.le_refl _) _
  have k1b0 : w2.heap[w1.heap.size]? = some (Obj.cells #[.int .i64 0,.int .i64 (posn ts en n),.int .i64 0,.string ⟨#[]⟩,.slice none 0 0] 49 (0,0)):=by rw [hw2]; exact heap_alloc_new w1 _
  have k0b0:=block_below k0q hal2
  have hB2 : Below w.heap.size w w2:=hB1.trans (hal2.mono hB1.size)
  have hst0:=h.below hB2
  have hgw0:=grownBy_below (r:=some rb) hB2
  have hp:=peek_any rb tv ts en n w2 hst0
  obtain ⟨kk,hkk⟩ : ∃ y,y = (peekT ts n).kind:=⟨_,rfl⟩
  obtain ⟨pp,hpp⟩ : ∃ y,y = (peekT ts n).pos:=⟨_,rfl⟩
  obtain ⟨tx,htx⟩ : ∃ y,y = (peekT ts n).text:=⟨_,rfl⟩
  rw [← hkk,← hpp,← htx] at hp
  have bk : (kk == 2) = false:=by rw [hkk]; simpa using hx2
  unfold tokVal at hp
  rw [hw2] at hp
  have HP:=hide hp
  have hfk:=field_kind kk pp tx
  clear hp hkk hpp htx HH hal hb1 h hB1
  go_wp2_with fail
  refine (HP.out).mono ?_
  rintro e w3 ⟨rfl,hb3⟩
  rw [← hw2] at hb3
  clear HP hw2 k0q hal2 hB2 hx2
  have g1:=grownBy_below (r:=some rb) hb3
  have hst1:=hst0.below hb3
  have k0b1:=block_keep k0b0 g1 (by omega)
  have k1b1:=block_keep k1b0 g1 (by omega)
  have hgw1:=grownBy_trans hgw0 g1
  clear g1 k0b0 k1b0 hgw0 hst0
  clear hb3
  have HC:=hide (takes_no rb tv ts en n ⟨#[45]⟩ _ hst1 hm)
  go_wp2_with fail
  refine (HC.out).mono ?_
  rintro e wv11 ⟨rfl,hbv11⟩
  clear HC
  have g2:=grownBy_below (r:=some rb) hbv11
  have hst2:=hst1.below hbv11
  have k0b2:=block_keep k0b1 g2 (by omega)
  have k1b2:=block_keep k1b1 g2 (by omega)
  have hgw2:=grownBy_trans hgw1 g2
  clear g2 k0b1 k1b1 hgw1 hst1
  clear hbv11
  have hc:=isName_any rb tv ts en n _ hst2
  rw [hN] at hc
  have HC:=hide hc
  clear hc
  go_wp2_with fail
  refine (HC.out).mono ?_
  rintro e wv12 ⟨rfl,hbv12⟩
  clear HC
  have g3:=grownBy_below (r:=some rb) hbv12
  have hst3:=hst2.below hbv12
  have k0b3:=block_keep k0b2 g3 (by omega)
  have k1b3:=block_keep k1b2 g3 (by omega)
  have hgw3:=grownBy_trans hgw2 g3
  clear g3 k0b2 k1b2 hgw2 hst2
  clear hbv12
  clear hN hm
  have HC:=hide (giveUp_any rb tv ts en (n) _ hst3)
  go_wp2_with fail
  refine (HC.out).mono ?_
  rintro e wz ⟨rfl,hbz⟩
  unfold gaveUpAt
  go_wp2_with fail
  exact ⟨rfl,grownBy_trans hgw3 (grownBy_below hbz),rfl⟩
set_option maxHeartbeats 1000000 in
set_option maxRecDepth 100000 in
theorem expr_none (rb : Nat) (tv : Value) (ts : List Tok) (hall : ts.all isAlone = true) (en n f deep : Nat) (w : World) (h : St rb tv ts en n w) (hx2 : ¬ (peekT ts n).kind = 2) (hm : isT ts n [45] = false) (hN : isNameT (peekT ts n) = false) (hd : deep < 60) (ho : isT ts n [40] = false) :
    Calls Tryz.prog 133 #[.pointer (some ⟨rb,0,none⟩),.int .i64 (deep : Int)] w (PostE rb tv ts en (f + 1) w (.inr n)):=by
  have hal : Below w.heap.size w (w.alloc (Obj.cells #[.int .i64 0,.int .i64 0,.int .i64 0,.string ⟨#[]⟩,.slice none 0 0] 49)):=(Below.refl _ w).alloc (Nat.le_refl _) _
  have HH:=hide (here_any rb tv ts en n _ (h.below hal))
  have hrl:=h.lt
  have HX:=hide h
  go_enter Tryz.func133,Tryz.ntmps133
  go_wp2_with fail
  refine (HH.out).mono ?_
  rintro e w1 ⟨rfl,hb1⟩
  have k0q:=block_below (heap_alloc_new w _) hb1
  have hl1 : w.heap.size < w1.heap.size:=(Array.getElem?_eq_some_iff.1 k0q).1
  have hB1 : Below w.heap.size w w1:=hal.trans (hb1.mono hal.size)
  obtain ⟨w2,hw2⟩ : ∃ w2,w2 = w1.alloc (Obj.cells #[.int .i64 0,.int .i64 (posn ts en n),.int .i64 0,.string ⟨#[]⟩,.slice none 0 0] 49):=⟨_,rfl⟩
  have hal2 : Below w1.heap.size w1 w2:=by rw [hw2]; exact (Below.refl _ w1).alloc (Nat.le_refl _) _
  have k1b0 : w2.heap[w1.heap.size]? = some (Obj.cells #[.int .i64 0,.int .i64 (posn ts en n),.int .i64 0,.string ⟨#[]⟩,.slice none 0 0] 49 (0,0)):=by rw [hw2]; exact heap_alloc_new w1 _
  have k0b0:=block_below k0q hal2
  have hB2 : Below w.heap.size w w2:=hB1.trans (hal2.mono hB1.size)
  have hst0:=h.below hB2
  have hgw0:=grownBy_below (r:=some rb) hB2
  have hp:=peek_any rb tv ts en n w2 hst0
  obtain ⟨kk,hkk⟩ : ∃ y,y = (peekT ts n).kind:=⟨_,rfl⟩
  obtain ⟨pp,hpp⟩ : ∃ y,y = (peekT ts n).pos:=⟨_,rfl⟩
  obtain ⟨tx,htx⟩ : ∃ y,y = (peekT ts n).text:=⟨_,rfl⟩
  rw [← hkk,← hpp,← htx] at hp
  have bk : (kk == 2) = false:=by rw [hkk]; simpa using hx2
  unfold tokVal at hp
  rw [hw2] at hp
  have HP:=hide hp
  have hfk:=field_kind kk pp tx
  clear hp hkk hpp htx HH hal hb1 h hB1
  go_wp2_with fail
  refine (HP.out).mono ?_
  rintro e w3 ⟨rfl,hb3⟩
  rw [← hw2] at hb3
  clear HP hw2 k0q hal2 hB2 hx2
  have g1:=grownBy_below (r:=some rb) hb3
  have hst1:=hst0.below hb3
  have k0b1:=block_keep k0b0 g1 (by omega)
  have k1b1:=block_keep k1b0 g1 (by omega)
  have hgw1:=grownBy_trans hgw0 g1
  clear g1 k0b0 k1b0 hgw0 hst0
  clear hb3
  have HC:=hide (takes_no rb tv ts en n ⟨#[45]⟩ _ hst1 hm)
  go_wp2_with fail
  refine (HC.out).mono ?_
  rintro e wv11 ⟨rfl,hbv11⟩
  clear HC
  have g2:=grownBy_below (r:=some rb) hbv11
  have hst2:=hst1.below hbv11
  have k0b2:=block_keep k0b1 g2 (by omega)
  have k1b2:=block_keep k1b1 g2 (by omega)
  have hgw2:=grownBy_trans hgw1 g2
  clear g2 k0b1 k1b1 hgw1 hst1
  clear hbv11
  have hc:=isName_any rb tv ts en n _ hst2
  rw [hN] at hc
  have HC:=hide hc
  clear hc
  go_wp2_with fail
  refine (HC.out).mono ?_
  rintro e wv12 ⟨rfl,hbv12⟩
  clear HC
  have g3:=grownBy_below (r:=some rb) hbv12
  have hst3:=hst2.below hbv12
  have k0b3:=block_keep k0b2 g3 (by omega)
  have k1b3:=block_keep k1b2 g3 (by omega)
  have hgw3:=grownBy_trans hgw2 g3
  clear g3 k0b2 k1b2 hgw2 hst2
  clear hbv12
  clear hN hm
  have HC:=hide (takes_no rb tv ts en n ⟨#[40]⟩ _ hst3 ho)
  go_wp2_with fail
  refine (HC.out).mono ?_
  rintro e wv13 ⟨rfl,hbv13⟩
  clear HC
  have g4:=grownBy_below (r:=some rb) hbv13
  have hst4:=hst3.below hbv13
  have k0b4:=block_keep k0b3 g4 (by omega)
  have k1b4:=block_keep k1b3 g4 (by omega)
  have hgw4:=grownBy_trans hgw3 g4
  clear g4 k0b3 k1b3 hgw3 hst3
  clear hbv13
  have HC:=hide (giveUp_any rb tv ts en (n) _ hst4)
  go_wp2_with fail
  refine (HC.out).mono ?_
  rintro e wz ⟨rfl,hbz⟩
  unfold gaveUpAt
  go_wp2_with fail
  exact ⟨rfl,grownBy_trans hgw4 (grownBy_below hbz),rfl⟩
end Go.Proofs.YtipngnjffjajpaaGreatDoor
