/- Package tree: Parse of any text. -/
import Derived.Test.YtipngnjffjajpaaGreatDoorG18
import Derived.Test.YtipngnjffjajpaaGreatDoorG24
namespace Go.Proofs.YtipngnjffjajpaaGreatDoor.Tx
open Go.RowKit
set_option linter.unusedVariables false
/-- what Parse answers: a tree; or where, and why there is none. -/
def parseR (s : ByteArray) : Sum (List D × List D) (Int × Int) :=
  if s.size≤6000 then
    if scanErr s = 0 then
      match pTree (scanToks s) s.size with
      | .inr m => .inr (posn (scanToks s) s.size m,1)
      | .inl ((ds,l),_) => if ckT 61 (2 * (scanToks s).length + 3) ds l = 0 then .inl (ds,l) else .inr (0,ckT 61 (2 * (scanToks s).length + 3) ds l)
    else .inr ((scanPos s : Int),(scanErr s : Int))
  else .inr (0,2)
def ParseSaid (s : ByteArray) (r : Sum (List D × List D) (Int × Int)) (e : Ending) (w' : World) : Prop:=match r with
  | .inl (ds,l) => ∃ v,e = .returned (.tuple #[v,.int .i64 0,.int .i64 0])∧ZT w' 61 (2 * (scanToks s).length + 3) v ds l
  | .inr (p,r) => e = .returned (.tuple #[.agg #[.slice none 0 0,.slice none 0 0],.int .i64 p,.int .i64 r])
def ParsePost (s : ByteArray) (w : World) (e : Ending) (w' : World) : Prop:=Ov w w'∧ParseSaid s (parseR s) e w'
theorem scanF_len (s : ByteArray) : ∀ (f : Nat) (note : Bool) (i : Nat) (ts : List Tok),scanF s f note i = .inl ts→ts.length≤s.size - i
  | 0,note,i,ts,h => by
    have h' : (Sum.inl [] : Sum (List Tok) (Nat × Nat)) = .inl ts:=h
    injection h' with h'
    rw [← h']; simp
  | f + 1,note,i,ts,h => by
    unfold scanF at h
    have hge:=skipL_ge note s.data.toList i
    split at h
    · split at h
      · rename_i hlt he
        have hk:=tokKN_end he
        revert h
        cases hr : scanF s f false (tokKN s (skipL note s.data.toList i)).2 with
        | inl ts' =>
          intro h
          injection h with h
          have:=scanF_len s f false _ ts' hr
          rw [← h,List.length_cons]
          omega
        | inr x => intro h; cases h
      · cases h
    · injection h with h
      rw [← h]; simp
theorem scan_few (s : ByteArray) (h : s.size≤6000) : (scanToks s).length≤6000:=by
  unfold scanToks
  split
  · rename_i ts hs
    have:=scanF_len s _ _ _ ts hs
    omega
  · simp
set_option maxHeartbeats 4000000 in
set_option maxRecDepth 100000 in
theorem parse_c (s : ByteArray) (hs : s.size≤maxLen) (w : World) : Calls Tryz.prog 10 #[.string s] w (ParsePost s w):=by
  have hml : s.size≤9223372036854775807:=hs
  obtain ⟨res,hres⟩:=nm (parseR s)
  unfold ParsePost
  rw [← hres]
  have HR:=hide hres
  obtain ⟨V,hV⟩:=nm (w.alloc (.cells #[.slice none 0 0,.slice none 0 0] 25))
  obtain ⟨bt,hbt⟩:=nm w.heap.size
  have HBV : Hx (Ov w V):=by show Ov _ _; rw [hV]; exact bA _ _
  have HXV : Hx (Bx bt [.slice none 0 0,.slice none 0 0] V):=by show Bx _ _ _; rw [hV,hbt]; exact Bx.new w [.slice none 0 0,.slice none 0 0] 25
  have HLT : Hx (bt < V.heap.size):=HXV.o.lt
  have HBT:=hide hbt
  have KS:=hide (Scan_any s hs V)
  clear hres hs
  go_enter Tryz.func10,Tryz.ntmps10
  go_wp2_with fail
  rw [← hV,← hbt]
  clear hV hbt
  refine KS.o.mono ?_
  rintro e w1 ⟨v,ts,p,r,rfl,hown,hb,hif⟩
  have HB1 : Hx (Ov w w1):=over_trans HBV.o hb
  have HX1:=hide (HXV.o.over hb)
  have hsz:=hb.size
  clear KS HXV
  obtain ⟨va,vn,vc,rfl⟩:=own_form hown
  by_cases hgood : s.size≤6000∧scanErr s = 0
  · obtain ⟨h6,he⟩:=hgood
    rw [if_pos h6] at hif
    obtain ⟨rfl,rfl,hr⟩:=hif
    rw [he] at hr
    subst hr
    have hk:=own_len hown
    have KR:=hide (read_c (en:=s.size) (scanToks_alone s h6) w1 (tokAt_of hown (scan_few s h6)))
    have hsd:=pTree_ok (scanToks s) s.size (scanToks_alone s h6)
    have hpr : parseR s = match pTree (scanToks s) s.size with
      | .inr m => .inr (posn (scanToks s) s.size m,1)
      | .inl ((ds,l),_) => if ckT 61 (2 * (scanToks s).length + 3) ds l = 0 then .inl (ds,l) else .inr (0,ckT 61 (2 * (scanToks s).length + 3) ds l):=by
      unfold parseR
      rw [if_pos h6,if_pos he]
    have HPR:=hide (HR.o.trans hpr)
    have HSD:=hide hsd
    clear hown hb hk hsd hpr he
    go_wp2_with fail
    refine KR.o.mono ?_
    rintro e w2 ⟨hb2,hsaid⟩
    have HB2 : Hx (Ov w w2):=over_trans HB1.o hb2
    have HX2:=hide (HX1.o.over hb2)
    have hsz2:=hb2.size
    have hpr:=HPR.o
    have hsd:=HSD.o
    clear KR HPR HSD hb2
    revert hsaid hpr hsd
    generalize pTree (scanToks s) s.size = pt
    intro hsaid hpr hsd
    rcases pt with ⟨⟨ds,l⟩,n⟩ | m
    · obtain ⟨a,c,a2,c2,rfl,ho1,ho2,-,-⟩:=hsaid
      obtain ⟨hs1,hs2⟩:=hsd (ds,l) n rfl
      dsimp only at hpr hs1 hs2
      have hZ : ∀ W : World,(∀ k,w1.heap.size≤k→k < w2.heap.size→some k≠none→W.heap[k]? = w2.heap[k]?)→ZT W 61 (2 * (scanToks s).length + 3) (.agg #[.slice a ds.length c,.slice a2 l.length c2]) ds l:=fun W hW => ⟨a,c,a2,c2,rfl,(ho1 W hW).imp fun cs d hm hh => hh.z (hs1 d hm),(ho2 W hW).imp fun cs d hm hh => hh.z (hs2 d hm)⟩
      have HZ:=hide hZ
      obtain ⟨ck,hck⟩:=nm (ckT 61 (2 * (scanToks s).length + 3) ds l)
      rw [← hck] at hpr
      have KC : Hx (∀ X,Ov w2 X→Ro 14 #[.agg #[.slice a ds.length c,.slice a2 l.length c2]] X (.int .i64 ck)):=fun X hX => by
        rw [hck]
        exact check_c 61 _ ds l _ X ((HZ.o w2 fun _ _ _ _ => rfl).over hX)
      have HP:=hide hpr
      clear hpr ho1 ho2 hs1 hs2 hsd hZ hck
      generalize ds.length = nd at KC HZ ⊢
      generalize l.length = nl at KC HZ ⊢
      have HY2 : Hx (Bx w2.heap.size [.slice a nd c,.slice a2 nl c2] (w2.alloc (.cells #[.slice a nd c,.slice a2 nl c2] 25))):=Bx.new w2 [.slice a nd c,.slice a2 nl c2] 25
      go_wp2_with fail
      refine (KC.o _ (bA _ _)).mono ?_
      rintro e w3 ⟨rfl,hb3⟩
      have HB23 : Hx (Ov w2 w3):=over_trans (bA _ _) hb3
      have HX3:=hide ((HX2.o.over (bA _ _)).over hb3)
      have HY3:=hide (HY2.o.over hb3)
      have hsz3:=HB23.o.size
      clear KC hb3 HY2
      obtain ⟨t0,t1⟩:=rc2 HX3.o.row
      have f0:=HX3.o.fz 0
      have f1:=HX3.o.fz 1
      obtain ⟨y0,y1⟩:=rc2 HY3.o.row
      have hlt:=HLT.o
      have hne : bt≠w2.heap.size:=by omega
      have hne2 : w2.heap.size≠bt:=by omega
      by_cases hc0 : ck = 0
      · subst hc0
        go_wp2_with fail
        obtain ⟨V9,hV9⟩:=nm ((w3.setCell ⟨bt,0,none⟩ (.slice a nd c)).setCell ⟨bt,1,none⟩ (.slice a2 nl c2))
        have hX9 : Bx bt [.slice a nd c,.slice a2 nl c2] V9:=by rw [hV9]; exact (HX3.o.set (j:=0) (by simp)).set (j:=1) (by simp)
        have hO9 : Ov w V9:=by rw [hV9]; exact ((over_trans HB2.o HB23.o).setCell (by have:=HBT.o; simp; omega) _).setCell (by have:=HBT.o; simp; omega) _
        have hz9:=HZ.o V9 fun k h1 h2 _ => by
          rw [hV9,Below.heap_setCell _ _ _ _ (by show k≠bt; omega),Below.heap_setCell _ _ _ _ (by show k≠bt; omega)]
          exact HB23.o.block k h2
        rw [← hV9]
        have d0:=hX9.row 0 _ rfl
        have d1:=hX9.row 1 _ rfl
        refine bodyPost_ret (v:=.tuple #[.agg #[.slice a nd c,.slice a2 nl c2],.int .i64 0,.int .i64 0]) (by simp [results,Tryz.results10,go_sem,d0,d1]) rfl ⟨hO9,?_⟩
        rw [show res = .inl (ds,l) by have h:=HP.o; simpa using h]
        exact ⟨_,rfl,hz9⟩
      · go_wp2_with fail
        obtain ⟨V9,hV9⟩:=nm ((w3.setCell ⟨bt,0,none⟩ (.slice none 0 0)).setCell ⟨bt,1,none⟩ (.slice none 0 0))
        have hX9 : Bx bt [.slice none 0 0,.slice none 0 0] V9:=by rw [hV9]; exact (HX3.o.set (j:=0) (by simp)).set (j:=1) (by simp)
        have hO9 : Ov w V9:=by rw [hV9]; exact ((over_trans HB2.o HB23.o).setCell (by have:=HBT.o; simp; omega) _).setCell (by have:=HBT.o; simp; omega) _
        rw [← hV9]
        have d0:=hX9.row 0 _ rfl
        have d1:=hX9.row 1 _ rfl
        refine bodyPost_ret (v:=.tuple #[.agg #[.slice none 0 0,.slice none 0 0],.int .i64 0,.int .i64 ck]) (by simp [results,Tryz.results10,go_sem,d0,d1]) rfl ⟨hO9,?_⟩
        rw [show res = .inr (0,ck) from HP.o.trans (if_neg hc0)]
        exact rfl
    · obtain rfl:=hsaid
      dsimp only at hpr
      have HP:=hide hpr
      have HX3 : Hx (Bx bt [.slice none 0 0,.slice none 0 0] (w2.alloc (.cells #[.slice none 0 0,.slice none 0 0] 25))):=HX2.o.over (bA _ _)
      obtain ⟨t0,t1⟩:=rc2 HX3.o.row
      have f0:=HX3.o.fz 0
      have f1:=HX3.o.fz 1
      clear hpr hsd
      go_wp2_with fail
      obtain ⟨V9,hV9⟩:=nm (((w2.alloc (.cells #[.slice none 0 0,.slice none 0 0] 25)).setCell ⟨bt,0,none⟩ (.slice none 0 0)).setCell ⟨bt,1,none⟩ (.slice none 0 0))
      have hX9 : Bx bt [.slice none 0 0,.slice none 0 0] V9:=by rw [hV9]; exact (HX3.o.set (j:=0) (by simp)).set (j:=1) (by simp)
      have hO9 : Ov w V9:=by rw [hV9]; exact ((over_trans HB2.o (bA _ _)).setCell (by have:=HBT.o; simp; omega) _).setCell (by have:=HBT.o; simp; omega) _
      rw [← hV9]
      have d0:=hX9.row 0 _ rfl
      have d1:=hX9.row 1 _ rfl
      refine bodyPost_ret (v:=.tuple #[.agg #[.slice none 0 0,.slice none 0 0],.int .i64 (posn (scanToks s) s.size m),.int .i64 1]) (by simp [results,Tryz.results10,go_sem,d0,d1]) rfl ⟨hO9,?_⟩
      rw [HP.o]
      exact rfl
  · have hr : res = .inr ((p : Int),(r : Int))∧r≠0:=by
      rw [HR.o]
      unfold parseR
      by_cases h6 : s.size≤6000
      · rw [if_pos h6] at hif ⊢
        obtain ⟨-,rfl,rfl⟩:=hif
        have he : ¬ scanErr s = 0:=fun h => hgood ⟨h6,h⟩
        rw [if_neg he]
        exact ⟨rfl,he⟩
      · rw [if_neg h6] at hif ⊢
        obtain ⟨-,rfl,rfl⟩:=hif
        exact ⟨rfl,by omega⟩
    obtain ⟨hr1,hr2⟩:=hr
    have HP:=hide hr1
    have hri : ¬ (r : Int) = 0:=by omega
    obtain ⟨t0,t1⟩:=rc2 HX1.o.row
    have f0:=HX1.o.fz 0
    have f1:=HX1.o.fz 1
    clear hown hb hif hr1 hgood
    go_wp2_with fail
    obtain ⟨V9,hV9⟩:=nm ((w1.setCell ⟨bt,0,none⟩ (.slice none 0 0)).setCell ⟨bt,1,none⟩ (.slice none 0 0))
    have hX9 : Bx bt [.slice none 0 0,.slice none 0 0] V9:=by rw [hV9]; exact (HX1.o.set (j:=0) (by simp)).set (j:=1) (by simp)
    have hO9 : Ov w V9:=by rw [hV9]; exact ((HB1.o).setCell (by have:=HBT.o; simp; omega) _).setCell (by have:=HBT.o; simp; omega) _
    rw [← hV9]
    have d0:=hX9.row 0 _ rfl
    have d1:=hX9.row 1 _ rfl
    refine bodyPost_ret (v:=.tuple #[.agg #[.slice none 0 0,.slice none 0 0],.int .i64 (p : Int),.int .i64 (r : Int)]) (by simp [results,Tryz.results10,go_sem,d0,d1]) rfl ⟨hO9,?_⟩
    rw [HP.o]
    exact rfl
def all2 {α : Type} (f : α→α→Bool) : List α→List α→Bool
  | [],[] => true
  | a :: l,b :: m => f a b && all2 f l m
  | _,_ => false
/-- two expressions are the same, so deep (at_: where they stand, too). -/
def seK (at_ : Bool) : Nat→D→D→Bool
  | 0,_,_ => true
  | k + 1,a,b => decide (gI 0 a = gI 0 b) && decide (gI 2 a = gI 2 b) && decide (gZ 3 a = gZ 3 b) && (!at_ || decide (gI 1 a = gI 1 b)) && all2 (seK at_ k) (gL 4 a) (gL 4 b)
def ssK (at_ : Bool) (ke : Nat) : Nat→D→D→Bool
  | 0,_,_ => true
  | k + 1,a,b => decide (gI 0 a = gI 0 b) && (!at_ || decide (gI 1 a = gI 1 b)) && decide (gZ 2 a = gZ 2 b) && decide (gZ 3 a = gZ 3 b) && seK at_ ke (gD 4 a) (gD 4 b) && all2 (seK at_ ke) (gL 5 a) (gL 5 b) && all2 (ssK at_ ke k) (gL 6 a) (gL 6 b) && all2 (ssK at_ ke k) (gL 7 a) (gL 7 b)
def sxS (a b : D) : Bool:=decide (asS a = asS b)
def spD (at_ : Bool) (a b : D) : Bool:=(!at_ || decide (gI 0 a = gI 0 b)) && decide (gZ 1 a = gZ 1 b) && decide (gB 2 a = gB 2 b) && all2 sxS (gL 3 a) (gL 3 b)
def sdK (at_ : Bool) (ke kc : Nat) (a b : D) : Bool:=decide (gI 0 a = gI 0 b) && (!at_ || decide (gI 1 a = gI 1 b)) && decide (gZ 2 a = gZ 2 b) && decide (gZ 3 a = gZ 3 b) && decide (gB 4 a = gB 4 b) && all2 (spD at_) (gL 5 a) (gL 5 b) && all2 sxS (gL 6 a) (gL 6 b) && all2 (ssK at_ ke kc) (gL 7 a) (gL 7 b) && seK at_ ke (gD 8 a) (gD 8 b)
def stK (at_ : Bool) (ke kc : Nat) (ds l ds' l' : List D) : Bool:=all2 (sdK at_ ke kc) ds ds' && all2 (ssK at_ ke kc) l l'
theorem all2_refl {α : Type} {f : α→α→Bool} (h : ∀ a,f a a = true) : ∀ l,all2 f l l = true
  | [] => rfl
  | a :: l => by simp [all2,h a,all2_refl h l]
theorem seK_refl (at_ : Bool) : ∀ (k : Nat) (a : D),seK at_ k a a = true
  | 0,a => rfl
  | k + 1,a => by simp [seK,all2_refl (seK_refl at_ k)]
/-- two ways of reading go alike. -/
def RelR {α β : Type} (P : α→β→Prop) (r : Res α) (s : Res β) : Prop:=match r,s with
  | .inl (a,n),.inl (b,m) => P a b∧n = m
  | .inr n,.inr m => n = m
  | _,_ => False
section
variable {α β γ δ : Type}
theorem RelR.bind {P : α→β→Prop} {Q : γ→δ→Prop} {r : Res α} {s : Res β} {f : α→Nat→Res γ} {g : β→Nat→Res δ} (h : RelR P r s) (hf : ∀ a b n,P a b→RelR Q (f a n) (g b n)) : RelR Q (bindR r f) (bindR s g):=by
  rcases r with ⟨a,n⟩ | m <;> rcases s with ⟨b,n'⟩ | m'
  · obtain ⟨h1,rfl⟩:=h; exact hf a b n h1
  · exact h.elim
  · exact h.elim
  · exact h
theorem RelR.ite {P : α→β→Prop} {c c' : Prop} [Decidable c] [Decidable c'] {r r2 : Res α} {s s2 : Res β} (hc : c↔c') (h1 : RelR P r s) (h2 : RelR P r2 s2) : RelR P (if c then r else r2) (if c' then s else s2):=by
  by_cases h : c
  · rw [if_pos h,if_pos (hc.1 h)]; exact h1
  · rw [if_neg h,if_neg (fun e => h (hc.2 e))]; exact h2
theorem RelR.inl {P : α→β→Prop} {a : α} {b : β} {n : Nat} (h : P a b) : RelR P (.inl (a,n)) (.inl (b,n)):=⟨h,rfl⟩
theorem RelR.inr {P : α→β→Prop} {n : Nat} : RelR P (.inr n : Res α) (.inr n : Res β):=rfl
end
def L2 {α : Type} (P : α→α→Prop) : List α→List α→Prop
  | [],[] => True
  | a :: l,b :: m => P a b∧L2 P l m
  | _,_ => False
theorem L2.nil {α : Type} {P : α→α→Prop} : L2 P [] []:=trivial
theorem L2.snoc {α : Type} {P : α→α→Prop} : ∀ {l m : List α} {a b : α},L2 P l m→P a b→L2 P (l ++ [a]) (m ++ [b])
  | [],[],a,b,_,h => ⟨h,trivial⟩
  | x :: l,y :: m,a,b,h,hp => ⟨h.1,L2.snoc h.2 hp⟩
  | [],y :: m,a,b,h,_ => h.elim
  | x :: l,[],a,b,h,_ => h.elim
theorem L2.all2 {α : Type} {P : α→α→Prop} {f : α→α→Bool} (hf : ∀ a b,P a b→f a b = true) : ∀ {l m : List α},L2 P l m→all2 f l m = true
  | [],[],_ => rfl
  | x :: l,y :: m,h => by simp [Tx.all2,hf _ _ h.1,L2.all2 hf h.2]
  | [],y :: m,h => h.elim
  | x :: l,[],h => h.elim
def EA (a b : D) : Prop:=∀ k,seK false k a b = true
def CA (a b : D) : Prop:=∀ ke k,ssK false ke k a b = true
def PA (a b : D) : Prop:=spD false a b = true
def DA (a b : D) : Prop:=∀ ke kc,sdK false ke kc a b = true
theorem EA.mk {kd a a' n : Int} {x : ByteArray} {ds ds' : List D} (h : L2 EA ds ds') : EA (eD kd a n x ds) (eD kd a' n x ds'):=fun k => by
  cases k with
  | zero => rfl
  | succ k =>
    have:=L2.all2 (f:=seK false k) (fun a b h => h k) h
    simp [seK,gEe,this]
theorem CA.mk {kd a a' : Int} {x y : ByteArray} {e e' : D} {l l' th th' el el' : List D} (he : EA e e') (hl : L2 EA l l') (ht : L2 CA th th') (hE : L2 CA el el') : CA (stD kd a x y e l th el) (stD kd a' x y e' l' th' el'):=fun ke k => by
  cases k with
  | zero => rfl
  | succ k =>
    have h1:=L2.all2 (f:=seK false ke) (fun a b h => h ke) hl
    have h2:=L2.all2 (f:=ssK false ke k) (fun a b h => h ke k) ht
    have h3:=L2.all2 (f:=ssK false ke k) (fun a b h => h ke k) hE
    have h4:=he ke
    simp [ssK,gSs,h1,h2,h3,h4]
theorem sx_refl (l : List D) : all2 sxS l l = true:=all2_refl (fun a => by simp [sxS]) l
theorem PA.mk {a a' : Int} {o : ByteArray} {wr : Bool} {ns : List ByteArray} : PA (polD a o wr ns) (polD a' o wr ns):=by
  simp [PA,spD,gPp,sx_refl]
theorem DA.mk {kd a a' : Int} {x y : ByteArray} {gv : Bool} {lb lb' : List D} {ps : List ByteArray} {body body' : List D} {r r' : D} (h1 : L2 PA lb lb') (h2 : L2 CA body body') (h3 : EA r r') : DA (deD kd a x y gv lb ps body r) (deD kd a' x y gv lb' ps body' r'):=fun ke kc => by
  have h4:=L2.all2 (f:=spD false) (fun a b h => h) h1
  have h5:=L2.all2 (f:=ssK false ke kc) (fun a b h => h ke kc) h2
  have h6:=h3 ke
  simp [sdK,gDd,sx_refl,h4,h5,h6]
section
variable (ts us : List Tok) (en eu : Nat)
theorem rel_peek (hk : ts.map tkey = us.map tkey) (n : Nat) : (peekT ts n).kind = (peekT us n).kind∧(peekT ts n).text = (peekT us n).text:=by
  have h : (ts.map tkey)[n]? = (us.map tkey)[n]?:=by rw [hk]
  rw [List.getElem?_map,List.getElem?_map] at h
  unfold peekT
  cases h1 : ts[n]? with
  | none => rw [h1] at h; cases h2 : us[n]? with
    | none => exact ⟨rfl,rfl⟩
    | some u => rw [h2] at h; cases h
  | some t => rw [h1] at h; cases h2 : us[n]? with
    | none => rw [h2] at h; cases h
    | some u =>
      rw [h2] at h
      simp [tkey] at h
      exact h
theorem rel_len (hk : ts.map tkey = us.map tkey) : ts.length = us.length:=by simpa using congrArg List.length hk
theorem rel_is (hk : ts.map tkey = us.map tkey) (n : Nat) (x : List UInt8) : isT ts n x = isT us n x:=by unfold isT; rw [(rel_peek ts us hk n).2]
theorem rel_isN (hk : ts.map tkey = us.map tkey) (n : Nat) : isNameT (peekT ts n) = isNameT (peekT us n):=by unfold isNameT; rw [(rel_peek ts us hk n).2,(rel_peek ts us hk n).1]
theorem rel_take (hk : ts.map tkey = us.map tkey) (x : List UInt8) (n : Nat) : RelR (fun _ _ => True) (pTake ts x n) (pTake us x n):=RelR.ite (by rw [rel_is ts us hk]) (RelR.inl trivial) RelR.inr
theorem rel_name (hk : ts.map tkey = us.map tkey) (n : Nat) : RelR Eq (pName ts n) (pName us n):=RelR.ite (by rw [rel_isN ts us hk]) (RelR.inl (rel_peek ts us hk n).2) RelR.inr
theorem rel_each (hk : ts.map tkey = us.map tkey) {α : Type} {P : α→α→Prop} (sep : List UInt8) {one one' : Nat→Res α} (h : ∀ n,RelR P (one n) (one' n)) : ∀ (f : Nat) (sm : Bool) (acc acc' : List α) (n : Nat),L2 P acc acc'→RelR (L2 P) (pEach ts sep one f sm acc n) (pEach us sep one' f sm acc' n)
  | 0,sm,acc,acc',n,ha => RelR.inl ha
  | f + 1,sm,acc,acc',n,ha => by
    unfold pEach
    exact RelR.ite Iff.rfl ((h n).bind fun a b n1 hp => RelR.ite (by rw [rel_is ts us hk]) (rel_each hk sep h f _ _ _ _ (ha.snoc hp)) (RelR.inl (ha.snoc hp))) (RelR.inl ha)
theorem L2.eq {α : Type} : ∀ {l m : List α},L2 Eq l m→l = m
  | [],[],_ => rfl
  | x :: l,y :: m,h => by rw [h.1,L2.eq h.2]
  | [],y :: m,h => h.elim
  | x :: l,[],h => h.elim
theorem RelR.imp {α β : Type} {P Q : α→β→Prop} {r : Res α} {s : Res β} (h : RelR P r s) (hf : ∀ a b,P a b→Q a b) : RelR Q r s:=by
  rcases r with ⟨a,n⟩ | m <;> rcases s with ⟨b,n'⟩ | m'
  · exact ⟨hf _ _ h.1,h.2⟩
  · exact h.elim
  · exact h.elim
  · exact h
theorem rel_names (hk : ts.map tkey = us.map tkey) (sm : Bool) (n : Nat) : RelR Eq (pNames ts sm n) (pNames us sm n):=by
  unfold pNames
  rw [rel_len ts us hk]
  exact (rel_each ts us hk _ (rel_name ts us hk) _ _ _ _ _ L2.nil).imp fun a b h => h.eq
theorem rel_policy (hk : ts.map tkey = us.map tkey) (n : Nat) : RelR PA (pPolicy ts en n) (pPolicy us eu n):=by
  unfold pPolicy
  refine (rel_name ts us hk n).bind fun o o' n1 ho => ?_
  subst ho
  refine RelR.ite (by rw [rel_is ts us hk]) ?_ ?_
  · rw [rel_isN ts us hk]
    refine (rel_names ts us hk _ _).bind fun a b n2 h => ?_
    subst h
    exact RelR.inl PA.mk
  · refine (rel_take ts us hk _ _).bind fun _ _ n2 _ => ?_
    rw [rel_isN ts us hk]
    refine (rel_names ts us hk _ _).bind fun a b n2 h => ?_
    subst h
    exact RelR.inl PA.mk
theorem rel_label (hk : ts.map tkey = us.map tkey) (n : Nat) : RelR (L2 PA) (pLabel ts en n) (pLabel us eu n):=by
  unfold pLabel
  refine (rel_take ts us hk _ _).bind fun _ _ n1 _ => ?_
  rw [rel_is ts us hk,rel_len ts us hk]
  exact (rel_each ts us hk _ (rel_policy ts us en eu hk) _ _ _ _ _ L2.nil).bind fun l l' n2 hl => (rel_take ts us hk _ _).bind fun _ _ n3 _ => RelR.inl hl
theorem rel_E (hk : ts.map tkey = us.map tkey) : ∀ (f deep n : Nat),RelR EA (pE ts en f deep n) (pE us eu f deep n)
  | 0,deep,n => RelR.inr
  | f + 1,deep,n => by
    have p0:=rel_peek ts us hk n
    have p1:=rel_peek ts us hk (n + 1)
    unfold pE
    refine RelR.ite (by rw [p0.1]) (by rw [p0.2]; exact RelR.inl (EA.mk L2.nil)) (RelR.ite (by rw [rel_is ts us hk]) (RelR.ite (by rw [rel_is ts us hk]) RelR.inr (RelR.ite (by rw [p1.1]) (by rw [p1.2]; exact RelR.inl (EA.mk L2.nil)) RelR.inr)) (RelR.ite (by rw [rel_isN ts us hk]) (by rw [p0.2]; exact RelR.inl (EA.mk L2.nil)) (RelR.ite (by rw [rel_is ts us hk]) ?_ RelR.inr)))
    have ha:=rel_E hk f (deep + 1) (n + 1)
    revert ha
    generalize pE ts en f (deep + 1) (n + 1) = r
    generalize pE us eu f (deep + 1) (n + 1) = s
    intro ha
    rcases r with ⟨a,n1⟩ | m <;> rcases s with ⟨b,n1'⟩ | m'
    · obtain ⟨hab,rfl⟩:=ha
      have p2:=rel_peek ts us hk n1
      refine RelR.ite (by rw [p2.2]) RelR.inr ?_
      have hb:=rel_E hk f (deep + 1) (n1 + 1)
      revert hb
      generalize pE ts en f (deep + 1) (n1 + 1) = r
      generalize pE us eu f (deep + 1) (n1 + 1) = s
      intro hb
      rcases r with ⟨c,n2⟩ | m <;> rcases s with ⟨d,n2'⟩ | m'
      · obtain ⟨hcd,rfl⟩:=hb
        refine RelR.ite (by rw [rel_is ts us hk]) ?_ RelR.inr
        rw [p2.2]
        exact RelR.inl (EA.mk ⟨hab,hcd,L2.nil⟩)
      · exact hb.elim
      · exact hb.elim
      · exact hb
    · exact ha.elim
    · exact ha.elim
    · exact ha
theorem rel_X (hk : ts.map tkey = us.map tkey) (n : Nat) : RelR EA (pX ts en n) (pX us eu n):=rel_E ts us en eu hk 61 0 n
theorem eKind_g (d : D) : eKind d = gI 0 d:=by
  unfold eKind
  split
  · rfl
  · rename_i h
    unfold gI gD asI
    split
    · rename_i hz
      split at hz
      · rename_i l
        cases l with
        | nil => cases hz
        | cons a r => simp at hz; subst hz; exact absurd rfl (h _ _ _)
      · cases hz
    · rfl
theorem eName_g (d : D) : eName d = gZ 3 d:=by
  unfold eName
  split
  · rfl
  · rename_i h
    unfold gZ gD asS
    split
    · rename_i hz
      split at hz
      · rename_i l
        match l,hz with
        | [],hz => cases hz
        | [_],hz => cases hz
        | [_,_],hz => cases hz
        | [_,_,_],hz => cases hz
        | a :: b :: c :: e :: r,hz => simp at hz; subst hz; exact absurd rfl (h _ _ _ _ _)
      · cases hz
    · rfl
theorem EA.kind {a b : D} (h : EA a b) : eKind a = eKind b∧eName a = eName b:=by
  have:=h 1
  simp [seK] at this
  rw [eKind_g,eKind_g,eName_g,eName_g]
  exact ⟨this.1.1.1,this.1.2⟩
theorem noE_EA : EA noE noE:=fun k => seK_refl _ _ _
theorem rel_become (hk : ts.map tkey = us.map tkey) (a a' : Int) (n : Nat) : RelR CA (pBecome ts en a n) (pBecome us eu a' n):=by
  unfold pBecome
  refine (rel_name ts us hk n).bind fun x x' n1 hx => ?_
  subst hx
  refine (rel_take ts us hk _ _).bind fun _ _ n2 _ => (rel_X ts us en eu hk n2).bind fun e e' n3 he => ?_
  rw [rel_is ts us hk,rel_is ts us hk,rel_len ts us hk,he.kind.1,he.kind.2]
  refine RelR.ite Iff.rfl ?_ (RelR.inl (CA.mk he L2.nil L2.nil L2.nil))
  exact (rel_each ts us hk _ (rel_X ts us en eu hk) _ _ _ _ _ L2.nil).bind fun l l' n4 hl => (rel_take ts us hk _ _).bind fun _ _ n5 _ => RelR.inl (CA.mk noE_EA hl L2.nil L2.nil)
theorem rel_block (hk : ts.map tkey = us.map tkey) {ss ss' : Nat→Res (List D)} (h : ∀ n,RelR (L2 CA) (ss n) (ss' n)) (n : Nat) : RelR (L2 CA) (pBlock ts ss n) (pBlock us ss' n) :=
  (rel_take ts us hk _ _).bind fun _ _ n1 _ => (h n1).bind fun l l' n2 hl => (rel_take ts us hk _ _).bind fun _ _ n3 _ => RelR.inl hl
theorem rel_end (hk : ts.map tkey = us.map tkey) {s s' : D} (h : CA s s') (n : Nat) : RelR CA (pEnd ts s n) (pEnd us s' n):=(rel_take ts us hk _ _).bind fun _ _ n1 _ => RelR.inl h
theorem rel_stmt1 (hk : ts.map tkey = us.map tkey) {blk blk' : Nat→Res (List D)} (h : ∀ n,RelR (L2 CA) (blk n) (blk' n)) (n : Nat) : RelR CA (pStmt1 ts en blk n) (pStmt1 us eu blk' n):=by
  unfold pStmt1
  refine RelR.ite (by rw [rel_is ts us hk]) ((rel_X ts us en eu hk _).bind fun e e' n1 he => (h n1).bind fun th th' n2 ht => RelR.ite (by rw [rel_is ts us hk]) ((h _).bind fun el el' n3 hl => RelR.inl (CA.mk he L2.nil ht hl)) (RelR.inl (CA.mk he L2.nil ht L2.nil))) (RelR.ite (by rw [rel_is ts us hk]) ((rel_X ts us en eu hk _).bind fun e e' n1 he => (h n1).bind fun th th' n2 ht => RelR.inl (CA.mk he L2.nil ht L2.nil)) (RelR.ite (by rw [rel_is ts us hk]) ?_ (RelR.ite (by rw [rel_is ts us hk]) ?_ (RelR.ite (by rw [rel_is ts us hk]) ?_ (RelR.ite (by rw [rel_is ts us hk]) ?_ ?_)))))
  · refine (rel_name ts us hk _).bind fun a a' n1 ha => (rel_name ts us hk _).bind fun b b' n2 hb => ?_
    subst ha hb
    exact rel_end ts us hk (CA.mk noE_EA L2.nil L2.nil L2.nil) _
  · refine (rel_name ts us hk _).bind fun a a' n1 ha => (rel_X ts us en eu hk _).bind fun e e' n2 he => ?_
    subst ha
    exact rel_end ts us hk (CA.mk he L2.nil L2.nil L2.nil) _
  · refine (rel_name ts us hk _).bind fun a a' n1 ha => (rel_X ts us en eu hk _).bind fun e e' n2 he => ?_
    subst ha
    exact rel_end ts us hk (CA.mk he L2.nil L2.nil L2.nil) _
  · refine (rel_name ts us hk _).bind fun a a' n1 ha => (rel_X ts us en eu hk _).bind fun e e' n2 he => ?_
    subst ha
    exact rel_end ts us hk (CA.mk he L2.nil L2.nil L2.nil) _
  · exact (rel_become ts us en eu hk _ _ _).bind fun s s' n1 hs => rel_end ts us hk hs _
theorem rel_stmts (hk : ts.map tkey = us.map tkey) : ∀ (f : Nat) (acc acc' : List D) (n : Nat),L2 CA acc acc'→RelR (L2 CA) (pStmts ts en f acc n) (pStmts us eu f acc' n)
  | 0,acc,acc',n,h => RelR.inr
  | 1,acc,acc',n,h => RelR.ite (by rw [rel_is ts us hk,rel_is ts us hk]) (RelR.inl h) RelR.inr
  | f + 2,acc,acc',n,h => RelR.ite (by rw [rel_is ts us hk,rel_is ts us hk]) (RelR.inl h) ((rel_stmt1 ts us en eu hk (rel_block ts us hk fun n => rel_stmts hk f [] [] n L2.nil) n).bind fun s s' n1 hs => rel_stmts hk (f + 1) _ _ n1 (h.snoc hs))
theorem rel_func (hk : ts.map tkey = us.map tkey) (a a' : Int) (x : ByteArray) (n : Nat) : RelR DA (pFunc ts en a x n) (pFunc us eu a' x n):=by
  unfold pFunc
  refine (rel_take ts us hk _ _).bind fun _ _ n1 _ => ?_
  rw [rel_is ts us hk]
  refine (rel_names ts us hk _ _).bind fun ps ps' n2 hp => ?_
  subst hp
  refine (rel_take ts us hk _ _).bind fun _ _ n3 _ => (rel_take ts us hk _ _).bind fun _ _ n4 _ => ?_
  rw [rel_len ts us hk]
  exact (rel_stmts ts us en eu hk _ _ _ _ L2.nil).bind fun b b' n5 hb => (rel_take ts us hk _ _).bind fun _ _ n6 _ => (rel_X ts us en eu hk _).bind fun r r' n7 hr => (rel_take ts us hk _ _).bind fun _ _ n8 _ => (rel_take ts us hk _ _).bind fun _ _ n9 _ => RelR.inl (DA.mk L2.nil hb hr)
theorem rel_given (hk : ts.map tkey = us.map tkey) (kd a a' : Int) (x y : ByteArray) (gv : Bool) (n : Nat) : RelR DA (pGiven ts en kd a x y gv n) (pGiven us eu kd a' x y gv n) :=
  RelR.ite Iff.rfl ((rel_label ts us en eu hk _).bind fun l l' n1 hl => (rel_take ts us hk _ _).bind fun _ _ n2 _ => RelR.inl (DA.mk hl L2.nil noE_EA)) ((rel_take ts us hk _ _).bind fun _ _ n1 _ => RelR.inl (DA.mk L2.nil L2.nil noE_EA))
theorem rel_decl (hk : ts.map tkey = us.map tkey) (n : Nat) : RelR DA (pDecl ts en n) (pDecl us eu n):=by
  unfold pDecl
  rw [(rel_peek ts us hk n).2]
  refine RelR.ite Iff.rfl RelR.inr ((rel_name ts us hk _).bind fun a a' n1 ha => ?_)
  subst ha
  refine RelR.ite Iff.rfl ((rel_name ts us hk _).bind fun b b' n2 hb => ?_) (RelR.ite Iff.rfl (rel_given ts us en eu hk _ _ _ _ _ _ _) (RelR.ite Iff.rfl ?_ (RelR.ite Iff.rfl (rel_func ts us en eu hk _ _ _ _) (rel_given ts us en eu hk _ _ _ _ _ _ _))))
  · subst hb
    exact rel_given ts us en eu hk _ _ _ _ _ _ _
  · rw [rel_is ts us hk]
    exact rel_given ts us en eu hk _ _ _ _ _ _ _
theorem rel_decls (hk : ts.map tkey = us.map tkey) : ∀ (f : Nat) (acc acc' : List D) (n : Nat),L2 DA acc acc'→RelR (L2 DA) (pDecls ts en f acc n) (pDecls us eu f acc' n)
  | 0,acc,acc',n,h => RelR.inr
  | f + 1,acc,acc',n,h => RelR.ite (by rw [rel_is ts us hk]) (RelR.inl h) ((rel_decl ts us en eu hk n).bind fun s s' n1 hs => rel_decls hk f _ _ n1 (h.snoc hs))
theorem rel_tree (hk : ts.map tkey = us.map tkey) : RelR (fun t u => L2 DA t.1 u.1∧L2 CA t.2 u.2) (pTree ts en) (pTree us eu):=by
  unfold pTree
  rw [rel_len ts us hk]
  exact (rel_decls ts us en eu hk _ _ _ _ L2.nil).bind fun ds ds' n hd => (rel_take ts us hk _ _).bind fun _ _ n1 _ => (rel_block ts us hk (fun n => rel_stmts ts us en eu hk _ _ _ _ L2.nil) n1).bind fun l l' n2 hl => RelR.ite Iff.rfl RelR.inr (RelR.inl ⟨hd,hl⟩)
end
section
variable {α : Type} {f : α→α→Bool}
theorem all2_len : ∀ {l m : List α},all2 f l m = true→l.length = m.length
  | [],[],_ => rfl
  | a :: l,b :: m,h => by simp [all2] at h; simp [all2_len h.2]
  | [],_ :: _,h => by cases h
  | _ :: _,[],h => by cases h
theorem all2_fold {β : Type} {F : β→α→β} (hF : ∀ a b,f a b = true→∀ s,F s a = F s b) : ∀ {l m : List α},all2 f l m = true→∀ s,l.foldl F s = m.foldl F s
  | [],[],_,s => rfl
  | a :: l,b :: m,h,s => by simp [all2] at h; rw [List.foldl_cons,List.foldl_cons,hF a b h.1,all2_fold hF h.2]
  | [],_ :: _,h,s => by cases h
  | _ :: _,[],h,s => by cases h
theorem all2_all {p : α→Bool} (hp : ∀ a b,f a b = true→p a = p b) : ∀ {l m : List α},all2 f l m = true→l.all p = m.all p
  | [],[],_ => rfl
  | a :: l,b :: m,h => by simp [all2] at h; rw [List.all_cons,List.all_cons,hp a b h.1,all2_all hp h.2]
  | [],_ :: _,h => by cases h
  | _ :: _,[],h => by cases h
theorem all2_any {p : α→Bool} (hp : ∀ a b,f a b = true→p a = p b) : ∀ {l m : List α},all2 f l m = true→l.any p = m.any p
  | [],[],_ => rfl
  | a :: l,b :: m,h => by simp [all2] at h; rw [List.any_cons,List.any_cons,hp a b h.1,all2_any hp h.2]
  | [],_ :: _,h => by cases h
  | _ :: _,[],h => by cases h
theorem all2_emp {l m : List α} (h : all2 f l m = true) : l.isEmpty = m.isEmpty:=by
  cases l <;> cases m <;> first | rfl | cases h
end
theorem plK_ea : ∀ (k : Nat) {a b : D},seK false k a b = true→∀ L,plK k a L = plK k b L
  | 0,a,b,_,L => rfl
  | k + 1,a,b,h,L => by
    simp [seK] at h
    simp only [plK]
    exact all2_fold (fun a b hab s => by rw [plK_ea k hab]) h.2 _
theorem longE_ea {k : Nat} {a b : D} (h : seK false k a b = true) : longE k a = longE k b:=by unfold longE; rw [plK_ea k h]
theorem efK_ea : ∀ (k : Nat) {a b : D},seK false k a b = true→efK k a = efK k b
  | 0,a,b,_ => rfl
  | k + 1,a,b,h => by
    simp [seK] at h
    obtain ⟨⟨⟨h1,h2⟩,h3⟩,h4⟩:=h
    simp only [efK]
    unfold gI gZ at *
    rw [h1,h2,h3,all2_len h4,all2_all (fun a b hab => efK_ea k hab) h4]
theorem noEx_ea {k : Nat} (hk : 1≤k) {a b : D} (h : seK false k a b = true) : noEx a = noEx b:=by
  obtain ⟨k,rfl⟩ : ∃ q,k = q + 1:=⟨k - 1,by omega⟩
  simp [seK] at h
  obtain ⟨⟨⟨h1,h2⟩,h3⟩,h4⟩:=h
  unfold noEx gI gZ at *
  rw [h1,h2,h3,all2_emp h4]
/-- parts of two commands that are the same. -/
theorem ssK_parts {ke k : Nat} {a b : D} (h : ssK false ke (k + 1) a b = true) : gI 0 a = gI 0 b∧gZ 2 a = gZ 2 b∧gZ 3 a = gZ 3 b∧seK false ke (gD 4 a) (gD 4 b) = true∧all2 (seK false ke) (gL 5 a) (gL 5 b) = true∧all2 (ssK false ke k) (gL 6 a) (gL 6 b) = true∧all2 (ssK false ke k) (gL 7 a) (gL 7 b) = true:=by
  simp [ssK] at h
  obtain ⟨⟨⟨⟨⟨⟨h1,h2⟩,h3⟩,h4⟩,h5⟩,h6⟩,h7⟩:=h
  exact ⟨h1,h2,h3,h4,h5,h6,h7⟩
theorem muchS_ea {ke k : Nat} {a b : D} (h : ssK false ke (k + 1) a b = true) : muchS ke a = muchS ke b:=by
  obtain ⟨-,-,-,h4,h5,-,-⟩:=ssK_parts h
  unfold muchS
  rw [all2_len h5,longE_ea h4,all2_any (fun a b hab => longE_ea hab) h5]
theorem slK_ea (ke : Nat) : ∀ (k : Nat) {l m : List D},all2 (ssK false ke k) l m = true→∀ deep left,slK ke k l deep left = slK ke k m deep left
  | 0,l,m,_,deep,left => rfl
  | k + 1,l,m,h,deep,left => by
    simp only [slK]
    rw [all2_fold (fun a b hab s => ?_) h]
    obtain ⟨-,-,-,-,-,h6,h7⟩:=ssK_parts hab
    unfold slF
    rw [muchS_ea hab]
    simp only [slK_ea ke k h6,slK_ea ke k h7]
theorem lfS_ea {f : D→D→Bool} {p : D→Bool} (hp : ∀ a b,f a b = true→p a = p b) {l m : List D} (h : all2 f l m = true) (q : Bool) : lfS l q p = lfS m q p:=by
  unfold lfS
  rw [all2_emp h,all2_all hp h]
theorem sfK_ea (ke : Nat) (hke : 1≤ke) : ∀ (k : Nat) {a b : D},ssK false ke k a b = true→sfK ke k a = sfK ke k b
  | 0,a,b,_ => rfl
  | k + 1,a,b,h => by
    obtain ⟨h1,h2,h3,h4,h5,h6,h7⟩:=ssK_parts h
    simp only [sfK]
    rw [h1,h2,h3,efK_ea ke h4,noEx_ea hke h4,lfS_ea (fun a b hab => efK_ea ke hab) h5,lfS_ea (fun a b hab => sfK_ea ke hke k hab) h6,lfS_ea (fun a b hab => sfK_ea ke hke k hab) h7]
theorem sdK_parts {ke kc : Nat} {a b : D} (h : sdK false ke kc a b = true) : gI 0 a = gI 0 b∧gZ 2 a = gZ 2 b∧gZ 3 a = gZ 3 b∧gB 4 a = gB 4 b∧all2 (spD false) (gL 5 a) (gL 5 b) = true∧all2 sxS (gL 6 a) (gL 6 b) = true∧all2 (ssK false ke kc) (gL 7 a) (gL 7 b) = true∧seK false ke (gD 8 a) (gD 8 b) = true:=by
  simp [sdK] at h
  obtain ⟨⟨⟨⟨⟨⟨⟨h1,h2⟩,h3⟩,h4⟩,h5⟩,h6⟩,h7⟩,h8⟩:=h
  exact ⟨h1,h2,h3,h4,h5,h6,h7,h8⟩
theorem spD_parts {a b : D} (h : spD false a b = true) : gZ 1 a = gZ 1 b∧gB 2 a = gB 2 b∧all2 sxS (gL 3 a) (gL 3 b) = true:=by
  simp [spD] at h
  exact ⟨h.1.1,h.1.2,h.2⟩
theorem sx_nm {a b : D} (h : sxS a b = true) : nmS (asS a) = nmS (asS b):=by
  simp [sxS] at h
  rw [h]
theorem polF_ea {a b : D} (h : spD false a b = true) : polF a = polF b:=by
  obtain ⟨h1,h2,h3⟩:=spD_parts h
  unfold polF
  rw [h1,all2_all (fun a b hab => sx_nm hab) h3]
theorem labF_ea {ke kc : Nat} {a b : D} (h : sdK false ke kc a b = true) : labF a = labF b:=by
  obtain ⟨h1,h2,h3,h4,h5,-⟩:=sdK_parts h
  have he : gL 5 a≠[]↔gL 5 b≠[]:=by
    have:=all2_len h5
    constructor
    · intro h e; rw [e] at this; exact h (List.eq_nil_of_length_eq_zero this)
    · intro h e; rw [e] at this; exact h (List.eq_nil_of_length_eq_zero this.symm)
  unfold labF
  simp only [he,h1,h4,all2_all (fun a b hab => polF_ea hab) h5]
theorem dfK_ea {ke kc : Nat} (hke : 1≤ke) {a b : D} (h : sdK false ke kc a b = true) : dfK ke kc a = dfK ke kc b:=by
  obtain ⟨h1,h2,h3,h4,h5,h6,h7,h8⟩:=sdK_parts h
  unfold dfK funF
  rw [labF_ea h,h1,h2,h3,all2_all (fun a b hab => sx_nm hab) h6,all2_emp h6,all2_all (fun a b hab => sfK_ea ke hke kc hab) h7,all2_emp h7,efK_ea ke h8,noEx_ea hke h8]
theorem muchD_ea {ke kc : Nat} {a b : D} (h : sdK false ke kc a b = true) : muchD ke a = muchD ke b:=by
  obtain ⟨h1,h2,h3,h4,h5,h6,h7,h8⟩:=sdK_parts h
  unfold muchD
  rw [all2_len h5,all2_len h6,longE_ea h8,all2_any (fun a b hab => by rw [all2_len (spD_parts hab).2.2]) h5]
theorem manyP_ea {ke kc : Nat} {ds l ds' l' : List D} (h1 : all2 (sdK false ke kc) ds ds' = true) (h2 : all2 (ssK false ke kc) l l' = true) : manyP ke kc ds l = manyP ke kc ds' l':=by
  have e1:=all2_len h1
  have e2 : ds.any (muchD ke) = ds'.any (muchD ke):=all2_any (fun a b hab => muchD_ea hab) h1
  have hF : ∀ a b,sdK false ke kc a b = true→∀ left,slK ke kc (gL 7 a) 1 left = slK ke kc (gL 7 b) 1 left:=fun a b hab left => by
    obtain ⟨-,-,-,-,-,-,h7,-⟩:=sdK_parts hab
    rw [slK_ea ke kc h7]
  have e3 : ds.foldl (fun left d => slK ke kc (gL 7 d) 1 left) 50 = ds'.foldl (fun left d => slK ke kc (gL 7 d) 1 left) 50:=all2_fold (F:=fun left d => slK ke kc (gL 7 d) 1 left) hF h1 50
  unfold manyP
  rw [e1,e2,e3,slK_ea ke kc h2]
theorem ckT_ea {ke kc : Nat} (hke : 1≤ke) {ds l ds' l' : List D} (h : stK false ke kc ds l ds' l' = true) : ckT ke kc ds l = ckT ke kc ds' l':=by
  simp [stK] at h
  obtain ⟨h1,h2⟩:=h
  have e1 : ds.all (dfK ke kc) = ds'.all (dfK ke kc):=all2_all (fun a b hab => dfK_ea hke hab) h1
  have e2 : l.all (sfK ke kc) = l'.all (sfK ke kc):=all2_all (fun a b hab => sfK_ea ke hke kc hab) h2
  unfold ckT
  rw [manyP_ea h1 h2,e1,e2]
theorem joinErr_zero {ts : List Tok} (h : joinErr ts = 0) : ts.all isAlone = true∧sizes ts≤6001:=by
  unfold joinErr at h
  split at h
  · rename_i ha
    split at h
    · rename_i hs; exact ⟨ha,hs⟩
    · cases h
  · cases h
theorem joinStr_size {ts : List Tok} (h : joinErr ts = 0) : (joinStr ts).size≤6000:=by
  have hs:=(joinErr_zero h).2
  have e : joinStr ts = ⟨(glueL ts).toArray⟩:=by simp [joinStr,h]
  rw [e]
  show (glueL ts).toArray.size≤6000
  rw [List.size_toArray]
  rcases glueL_length ts with hl | hl
  · omega
  · rw [hl]; simp [glueL]
theorem join_scan {ts : List Tok} (h : joinErr ts = 0) : scanErr (joinStr ts) = 0∧ts.map tkey = (scanToks (joinStr ts)).map tkey:=by
  obtain ⟨ha,hs⟩:=joinErr_zero h
  obtain ⟨vs,h1,h2⟩:=glue_scanned ha hs
  have e : joinStr ts = ⟨(glueL ts).toArray⟩:=by simp [joinStr,h]
  rw [← e] at h1
  have hT : scanToks (joinStr ts) = vs:=by simp [scanToks,h1]
  exact ⟨by simp [scanErr,h1],by rw [hT,h2]⟩
theorem L2.st {ds ds' l l' : List D} (h1 : L2 DA ds ds') (h2 : L2 CA l l') (ke kc : Nat) : stK false ke kc ds l ds' l' = true:=by
  have a:=L2.all2 (f:=sdK false ke kc) (fun a b h => h ke kc) h1
  have b:=L2.all2 (f:=ssK false ke kc) (fun a b h => h ke kc) h2
  unfold stK
  rw [a,b]; rfl
theorem parse_rel {s j : ByteArray} (hs : s.size≤6000) (he : scanErr s = 0) (hj : j.size≤6000) (hf : scanErr j = 0) (hk : (scanToks s).map tkey = (scanToks j).map tkey) :
    (∃ ds l ds' l',parseR s = .inl (ds,l)∧parseR j = .inl (ds',l')∧(scanToks s).length = (scanToks j).length∧stK false 61 (2 * (scanToks s).length + 3) ds l ds' l' = true)∨∃ p p' r,parseR s = .inr (p,r)∧parseR j = .inr (p',r):=by
  have hr:=rel_tree (scanToks s) (scanToks j) s.size j.size hk
  have hl:=rel_len (scanToks s) (scanToks j) hk
  unfold parseR
  rw [if_pos hs,if_pos he,if_pos hj,if_pos hf]
  revert hr
  generalize pTree (scanToks s) s.size = r
  generalize pTree (scanToks j) j.size = u
  intro hr
  rcases r with ⟨⟨ds,l⟩,n⟩ | m <;> rcases u with ⟨⟨ds',l'⟩,n'⟩ | m'
  · obtain ⟨⟨h1,h2⟩,-⟩:=hr
    have hst:=L2.st h1 h2 61 (2 * (scanToks s).length + 3)
    have hc:=ckT_ea (by omega) hst
    rw [← hl]
    dsimp only
    rw [← hc]
    by_cases h0 : ckT 61 (2 * (scanToks s).length + 3) ds l = 0
    · rw [if_pos h0,if_pos h0]
      exact Or.inl ⟨ds,l,ds',l',rfl,rfl,rfl,hst⟩
    · rw [if_neg h0,if_neg h0]
      exact Or.inr ⟨_,_,_,rfl,rfl⟩
  · exact hr.elim
  · exact hr.elim
  · exact Or.inr ⟨_,_,_,rfl,rfl⟩
theorem parse_ok {s : ByteArray} {ds l : List D} (h : parseR s = .inl (ds,l)) : ckT 61 (2 * (scanToks s).length + 3) ds l = 0:=by
  unfold parseR at h
  split at h
  · split at h
    · split at h
      · cases h
      · split at h
        · rename_i h0
          injection h with h
          injection h with h1 h2
          subst h1 h2
          exact h0
        · cases h
    · cases h
  · cases h
end Go.Proofs.YtipngnjffjajpaaGreatDoor.Tx
