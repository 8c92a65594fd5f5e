/- The reader of package tree reads an expression in brackets. -/
import Derived.Test.YtipngnjffjajpaaGreatDoorG04
import Derived.Deep.RegionWith
namespace Go.Proofs.YtipngnjffjajpaaGreatDoor
open Go.RowKit
set_option linter.unusedVariables false
theorem RS.form {S : Nat→Prop} {size : Nat} {R : List Value→D→Prop} {w : World} {v : Value} {ds : List D} (h : RS S size R w v ds) : ∃ ao cap,v = .slice ao ds.length cap:=by
  obtain ⟨ao,cap,hv,_⟩:=h
  exact ⟨ao,cap,hv⟩
theorem RE.form {S : Nat→Prop} {w : World} {k : Nat} {cs : List Value} {d : D} (h : RE S w k cs d) : ∃ (kd a n : Int) (x : ByteArray) (ao : Option Addr) (len cap : Nat),cs = [.int .i64 kd,.int .i64 a,.int .i64 n,.string x,.slice ao len cap]:=by
  cases k with
  | zero => exact h.elim
  | succ k =>
    obtain ⟨kd,a,n,x,v,ds,hcs,hd,hr⟩:=h
    obtain ⟨ao,cap,rfl⟩:=hr.form
    exact ⟨kd,a,n,x,ao,_,cap,hcs⟩
/-- the answer of an expression that was read. -/
theorem postE_inl {rb : Nat} {tv : Value} {ts : List Tok} {en k n : Nat} {w w' : World} {d : D} {e : Ending} (h : PostE rb tv ts en k w (.inl (d,n)) e w') :
    ∃ (kd a m : Int) (x : ByteArray) (ao : Option Addr) (len cap : Nat),e = .returned (.agg #[.int .i64 kd,.int .i64 a,.int .i64 m,.string x,.slice ao len cap])∧w.grownBy w' (some rb) ∧
      RE (fun b => w.heap.size≤b) w' k [.int .i64 kd,.int .i64 a,.int .i64 m,.string x,.slice ao len cap] d∧St rb tv ts en n w':=by
  obtain ⟨hg,cs,he,hr,hs⟩:=h
  obtain ⟨kd,a,m,x,ao,len,cap,rfl⟩:=hr.form
  exact ⟨kd,a,m,x,ao,len,cap,he,hg,hr,hs⟩
theorem postE_inr {rb : Nat} {tv : Value} {ts : List Tok} {en k m : Nat} {w w' : World} {e : Ending} (h : PostE rb tv ts en k w (.inr m) e w') : e = gaveUpAt (posn ts en m)∧w.grownBy w' (some rb):=⟨h.2,h.1⟩
/-- two elements lie in a new row. -/
theorem RS_two {S : Nat→Prop} {R : List Value→D→Prop} {w : World} {g T : Nat} {c0 c1 c2 c3 c4 c5 c6 c7 c8 c9 : Value} {da db : D}
    (hk : w.heap[g]? = some (Obj.cells #[c0,c1,c2,c3,c4,c5,c6,c7,c8,c9] T (0,0))) (hS : S g) (hA : R [c0,c1,c2,c3,c4] da) (hB : R [c5,c6,c7,c8,c9] db) :
    RS S 5 R w (.slice (some ⟨g,0,none⟩) 2 2) [da,db]:=by
  refine ⟨_,2,rfl,fun _ => ⟨g,0,rfl,hS,fun i d hd => ?_⟩⟩
  rcases i with _ | _ | i
  · obtain rfl : da = d:=by simpa using hd
    refine ⟨_,rfl,fun j u hu => ?_,hA⟩
    rw [Lib.cell_of_heap hk]
    rcases j with _ | _ | _ | _ | _ | j <;> simp at hu ⊢ <;> exact hu
  · obtain rfl : db = d:=by simpa using hd
    refine ⟨_,rfl,fun j u hu => ?_,hB⟩
    rw [Lib.cell_of_heap hk]
    rcases j with _ | _ | _ | _ | _ | j <;> simp at hu ⊢ <;> exact hu
  · simp at hd
set_option maxHeartbeats 600000 in
set_option maxRecDepth 100000 in
theorem open_fail1 (rb : Nat) (tv : Value) (ts : List Tok) (hall : ts.all isAlone = true) (en n f deep : Nat) (w : World) (h : St rb tv ts en n w) (hx2 : ¬ (peekT ts n).kind = 2) (hm : isT ts n [45] = false) (hN : isNameT (peekT ts n) = false) (hd : deep < 60) (ho : isT ts n [40] = true)
    (HIH : Hid (∀ n w,St rb tv ts en n w→Calls Tryz.prog 133 #[.pointer (some ⟨rb,0,none⟩),.int .i64 ((deep : Int) + 1)] w (PostE rb tv ts en f w (pE ts en f (deep + 1) n)))) (m : Nat) (h1 : pE ts en f (deep + 1) (n + 1) = .inr m) :
    Calls Tryz.prog 133 #[.pointer (some ⟨rb,0,none⟩),.int .i64 (deep : Int)] w (PostE rb tv ts en (f + 1) w (.inr m)):=by
  have hn:=isT_lt ho (by simp)
  have hal : Below w.heap.size w (w.alloc (Obj.cells #[.int .i64 0,.int .i64 0,.int .i64 0,.string ⟨#[]⟩,.slice none 0 0] 49)):=(Below.refl _ w).alloc (Nat.le_refl _) _
  have HH:=hide (here_any rb tv ts en n _ (h.below hal))
  have hrl:=h.lt
  have HX:=hide h
  go_enter Tryz.func133,Tryz.ntmps133
  go_wp2_with fail
  refine (HH.out).mono ?_
  rintro e w1 ⟨rfl,hb1⟩
  have k0q:=block_below (heap_alloc_new w _) hb1
  have hl1 : w.heap.size < w1.heap.size:=(Array.getElem?_eq_some_iff.1 k0q).1
  have hB1 : Below w.heap.size w w1:=hal.trans (hb1.mono hal.size)
  obtain ⟨w2,hw2⟩ : ∃ w2,w2 = w1.alloc (Obj.cells #[.int .i64 0,.int .i64 (posn ts en n),.int .i64 0,.string ⟨#[]⟩,.slice none 0 0] 49):=⟨_,rfl⟩
  have hal2 : Below w1.heap.size w1 w2:=by rw [hw2]; exact (Below.refl _ w1).alloc (Nat.le_refl _) _
  have k1b0 : w2.heap[w1.heap.size]? = some (Obj.cells #[.int .i64 0,.int .i64 (posn ts en n),.int .i64 0,.string ⟨#[]⟩,.slice none 0 0] 49 (0,0)):=by rw [hw2]; exact heap_alloc_new w1 _
  have k0b0:=block_below k0q hal2
  have hB2 : Below w.heap.size w w2:=hB1.trans (hal2.mono hB1.size)
  have hst0:=h.below hB2
  have hgw0:=grownBy_below (r:=some rb) hB2
  have hp:=peek_any rb tv ts en n w2 hst0
  obtain ⟨kk,hkk⟩ : ∃ y,y = (peekT ts n).kind:=⟨_,rfl⟩
  obtain ⟨pp,hpp⟩ : ∃ y,y = (peekT ts n).pos:=⟨_,rfl⟩
  obtain ⟨tx,htx⟩ : ∃ y,y = (peekT ts n).text:=⟨_,rfl⟩
  rw [← hkk,← hpp,← htx] at hp
  have bk : (kk == 2) = false:=by rw [hkk]; simpa using hx2
  unfold tokVal at hp
  rw [hw2] at hp
  have HP:=hide hp
  have hfk:=field_kind kk pp tx
  clear hp hkk hpp htx HH hal hb1 h hB1
  go_wp2_with fail
  refine (HP.out).mono ?_
  rintro e w3 ⟨rfl,hb3⟩
  rw [← hw2] at hb3
  clear HP hw2 k0q hal2 hB2 hx2
  have g1:=grownBy_below (r:=some rb) hb3
  have hst1:=hst0.below hb3
  have k0b1:=block_keep k0b0 g1 (by omega)
  have k1b1:=block_keep k1b0 g1 (by omega)
  have hgw1:=grownBy_trans hgw0 g1
  clear g1 k0b0 k1b0 hgw0 hst0
  clear hb3
  have HC:=hide (takes_no rb tv ts en n ⟨#[45]⟩ _ hst1 hm)
  go_wp2_with fail
  refine (HC.out).mono ?_
  rintro e wv11 ⟨rfl,hbv11⟩
  clear HC
  have g2:=grownBy_below (r:=some rb) hbv11
  have hst2:=hst1.below hbv11
  have k0b2:=block_keep k0b1 g2 (by omega)
  have k1b2:=block_keep k1b1 g2 (by omega)
  have hgw2:=grownBy_trans hgw1 g2
  clear g2 k0b1 k1b1 hgw1 hst1
  clear hbv11
  have hc:=isName_any rb tv ts en n _ hst2
  rw [hN] at hc
  have HC:=hide hc
  clear hc
  go_wp2_with fail
  refine (HC.out).mono ?_
  rintro e wv12 ⟨rfl,hbv12⟩
  clear HC
  have g3:=grownBy_below (r:=some rb) hbv12
  have hst3:=hst2.below hbv12
  have k0b3:=block_keep k0b2 g3 (by omega)
  have k1b3:=block_keep k1b2 g3 (by omega)
  have hgw3:=grownBy_trans hgw2 g3
  clear g3 k0b2 k1b2 hgw2 hst2
  clear hbv12
  clear hN hm
  have HC:=hide (takes_yes rb tv ts en n ⟨#[40]⟩ _ hst3 ho hn)
  go_wp2_with fail
  refine (HC.out).mono ?_
  rintro e wv13 ⟨rfl,hgv13,hsv13⟩
  clear HC
  have g4:=hgv13
  have hst4:=hsv13
  have k0b4:=block_keep k0b3 g4 (by omega)
  have k1b4:=block_keep k1b3 g4 (by omega)
  have hgw4:=grownBy_trans hgw3 g4
  clear g4 k0b3 k1b3 hgw3 hst3
  clear hgv13 hsv13
  have hc:=HIH.out (n + 1) _ hst4
  rw [h1] at hc
  have HC:=hide hc
  clear hc
  go_wp2_with fail
  refine (HC.out).mono ?_
  intro e wA hqA
  clear HC
  obtain ⟨rfl,hgA⟩:=postE_inr hqA
  unfold gaveUpAt
  go_wp2_with fail
  exact ⟨rfl,grownBy_trans hgw4 hgA,rfl⟩
set_option maxHeartbeats 600000 in
set_option maxRecDepth 100000 in
theorem open_noop (rb : Nat) (tv : Value) (ts : List Tok) (hall : ts.all isAlone = true) (en n f deep : Nat) (w : World) (h : St rb tv ts en n w) (hx2 : ¬ (peekT ts n).kind = 2) (hm : isT ts n [45] = false) (hN : isNameT (peekT ts n) = false) (hd : deep < 60) (ho : isT ts n [40] = true)
    (HIH : Hid (∀ n w,St rb tv ts en n w→Calls Tryz.prog 133 #[.pointer (some ⟨rb,0,none⟩),.int .i64 ((deep : Int) + 1)] w (PostE rb tv ts en f w (pE ts en f (deep + 1) n)))) (da : D) (n1 : Nat) (h1 : pE ts en f (deep + 1) (n + 1) = .inl (da,n1)) (hop : opKind (peekT ts n1).text.data.toList = 0) :
    Calls Tryz.prog 133 #[.pointer (some ⟨rb,0,none⟩),.int .i64 (deep : Int)] w (PostE rb tv ts en (f + 1) w (.inr n1)):=by
  have hn:=isT_lt ho (by simp)
  have hal : Below w.heap.size w (w.alloc (Obj.cells #[.int .i64 0,.int .i64 0,.int .i64 0,.string ⟨#[]⟩,.slice none 0 0] 49)):=(Below.refl _ w).alloc (Nat.le_refl _) _
  have HH:=hide (here_any rb tv ts en n _ (h.below hal))
  have hrl:=h.lt
  have HX:=hide h
  go_enter Tryz.func133,Tryz.ntmps133
  go_wp2_with fail
  refine (HH.out).mono ?_
  rintro e w1 ⟨rfl,hb1⟩
  have k0q:=block_below (heap_alloc_new w _) hb1
  have hl1 : w.heap.size < w1.heap.size:=(Array.getElem?_eq_some_iff.1 k0q).1
  have hB1 : Below w.heap.size w w1:=hal.trans (hb1.mono hal.size)
  obtain ⟨w2,hw2⟩ : ∃ w2,w2 = w1.alloc (Obj.cells #[.int .i64 0,.int .i64 (posn ts en n),.int .i64 0,.string ⟨#[]⟩,.slice none 0 0] 49):=⟨_,rfl⟩
  have hal2 : Below w1.heap.size w1 w2:=by rw [hw2]; exact (Below.refl _ w1).alloc (Nat.le_refl _) _
  have k1b0 : w2.heap[w1.heap.size]? = some (Obj.cells #[.int .i64 0,.int .i64 (posn ts en n),.int .i64 0,.string ⟨#[]⟩,.slice none 0 0] 49 (0,0)):=by rw [hw2]; exact heap_alloc_new w1 _
  have k0b0:=block_below k0q hal2
  have hB2 : Below w.heap.size w w2:=hB1.trans (hal2.mono hB1.size)
  have hst0:=h.below hB2
  have hgw0:=grownBy_below (r:=some rb) hB2
  have hp:=peek_any rb tv ts en n w2 hst0
  obtain ⟨kk,hkk⟩ : ∃ y,y = (peekT ts n).kind:=⟨_,rfl⟩
  obtain ⟨pp,hpp⟩ : ∃ y,y = (peekT ts n).pos:=⟨_,rfl⟩
  obtain ⟨tx,htx⟩ : ∃ y,y = (peekT ts n).text:=⟨_,rfl⟩
  rw [← hkk,← hpp,← htx] at hp
  have bk : (kk == 2) = false:=by rw [hkk]; simpa using hx2
  unfold tokVal at hp
  rw [hw2] at hp
  have HP:=hide hp
  have hfk:=field_kind kk pp tx
  clear hp hkk hpp htx HH hal hb1 h hB1
  go_wp2_with fail
  refine (HP.out).mono ?_
  rintro e w3 ⟨rfl,hb3⟩
  rw [← hw2] at hb3
  clear HP hw2 k0q hal2 hB2 hx2
  have g1:=grownBy_below (r:=some rb) hb3
  have hst1:=hst0.below hb3
  have k0b1:=block_keep k0b0 g1 (by omega)
  have k1b1:=block_keep k1b0 g1 (by omega)
  have hgw1:=grownBy_trans hgw0 g1
  clear g1 k0b0 k1b0 hgw0 hst0
  clear hb3
  have HC:=hide (takes_no rb tv ts en n ⟨#[45]⟩ _ hst1 hm)
  go_wp2_with fail
  refine (HC.out).mono ?_
  rintro e wv11 ⟨rfl,hbv11⟩
  clear HC
  have g2:=grownBy_below (r:=some rb) hbv11
  have hst2:=hst1.below hbv11
  have k0b2:=block_keep k0b1 g2 (by omega)
  have k1b2:=block_keep k1b1 g2 (by omega)
  have hgw2:=grownBy_trans hgw1 g2
  clear g2 k0b1 k1b1 hgw1 hst1
  clear hbv11
  have hc:=isName_any rb tv ts en n _ hst2
  rw [hN] at hc
  have HC:=hide hc
  clear hc
  go_wp2_with fail
  refine (HC.out).mono ?_
  rintro e wv12 ⟨rfl,hbv12⟩
  clear HC
  have g3:=grownBy_below (r:=some rb) hbv12
  have hst3:=hst2.below hbv12
  have k0b3:=block_keep k0b2 g3 (by omega)
  have k1b3:=block_keep k1b2 g3 (by omega)
  have hgw3:=grownBy_trans hgw2 g3
  clear g3 k0b2 k1b2 hgw2 hst2
  clear hbv12
  clear hN hm
  have HC:=hide (takes_yes rb tv ts en n ⟨#[40]⟩ _ hst3 ho hn)
  go_wp2_with fail
  refine (HC.out).mono ?_
  rintro e wv13 ⟨rfl,hgv13,hsv13⟩
  clear HC
  have g4:=hgv13
  have hst4:=hsv13
  have k0b4:=block_keep k0b3 g4 (by omega)
  have k1b4:=block_keep k1b3 g4 (by omega)
  have hgw4:=grownBy_trans hgw3 g4
  clear g4 k0b3 k1b3 hgw3 hst3
  clear hgv13 hsv13
  have hc:=HIH.out (n + 1) _ hst4
  rw [h1] at hc
  have HC:=hide hc
  clear hc
  go_wp2_with fail
  refine (HC.out).mono ?_
  intro e wA hqA
  clear HC
  obtain ⟨kd1,a1,m1,x1,ao1,len1,cap1,rfl,hgA,hRA,hstA⟩:=postE_inl hqA
  have hszi : w.heap.size≤wA.heap.size:=by have:=hgw4.size; have:=hgA.size; omega
  have hRA' : RE (fun b => w1.heap.size < b) wA f [.int .i64 kd1,.int .i64 a1,.int .i64 m1,.string x1,.slice ao1 len1 cap1] da:=RE.mono (fun b hb _ => by have:=(Array.getElem?_eq_some_iff.1 k1b4).1; omega) (fun _ _ _ => rfl) f f _ _ (Nat.le_refl _) hRA
  have k0A:=block_keep k0b4 hgA (by omega)
  have k1A:=block_keep k1b4 hgA (by omega)
  have hgwA:=grownBy_trans hgw4 hgA
  clear k0b4 k1b4 hgw4 hst4 hgA hqA hRA
  obtain ⟨wB,hwB⟩ : ∃ wB,wB = wA.alloc (Obj.cells #[.int .i64 kd1,.int .i64 a1,.int .i64 m1,.string x1,.slice ao1 len1 cap1] 49):=⟨_,rfl⟩
  have halB : Below wA.heap.size wA wB:=by rw [hwB]; exact (Below.refl _ wA).alloc (Nat.le_refl _) _
  have kfB : wB.heap[wA.heap.size]? = some (Obj.cells #[.int .i64 kd1,.int .i64 a1,.int .i64 m1,.string x1,.slice ao1 len1 cap1] 49 (0,0)):=by rw [hwB]; exact heap_alloc_new wA _
  have k0B:=block_below k0A halB
  have k1B:=block_below k1A halB
  have hgwB:=grownBy_trans hgwA (grownBy_below halB)
  have hstB:=hstA.below halB
  have hlA : w1.heap.size < wA.heap.size:=(Array.getElem?_eq_some_iff.1 k1A).1
  have hrA:=hstA.lt
  have hc:=operator_no rb tv ts en n1 wB hstB hop
  rw [hwB] at hc
  have HC:=hide hc
  clear hc
  go_wp2_with fail
  refine (HC.out).mono ?_
  rintro e wz ⟨rfl,hbz⟩
  rw [← hwB] at hbz
  unfold gaveUpAt
  go_wp2_with fail
  exact ⟨rfl,grownBy_trans hgwB (grownBy_below hbz),rfl⟩
set_option maxHeartbeats 600000 in
set_option maxRecDepth 100000 in
theorem open_fail2 (rb : Nat) (tv : Value) (ts : List Tok) (hall : ts.all isAlone = true) (en n f deep : Nat) (w : World) (h : St rb tv ts en n w) (hx2 : ¬ (peekT ts n).kind = 2) (hm : isT ts n [45] = false) (hN : isNameT (peekT ts n) = false) (hd : deep < 60) (ho : isT ts n [40] = true)
    (HIH : Hid (∀ n w,St rb tv ts en n w→Calls Tryz.prog 133 #[.pointer (some ⟨rb,0,none⟩),.int .i64 ((deep : Int) + 1)] w (PostE rb tv ts en f w (pE ts en f (deep + 1) n)))) (da : D) (n1 m : Nat) (h1 : pE ts en f (deep + 1) (n + 1) = .inl (da,n1)) (hop : ¬ opKind (peekT ts n1).text.data.toList = 0) (h2 : pE ts en f (deep + 1) (n1 + 1) = .inr m) :
    Calls Tryz.prog 133 #[.pointer (some ⟨rb,0,none⟩),.int .i64 (deep : Int)] w (PostE rb tv ts en (f + 1) w (.inr m)):=by
  have hn:=isT_lt ho (by simp)
  have hal : Below w.heap.size w (w.alloc (Obj.cells #[.int .i64 0,.int .i64 0,.int .i64 0,.string ⟨#[]⟩,.slice none 0 0] 49)):=(Below.refl _ w).alloc (Nat.le_refl _) _
  have HH:=hide (here_any rb tv ts en n _ (h.below hal))
  have hrl:=h.lt
  have HX:=hide h
  go_enter Tryz.func133,Tryz.ntmps133
  go_wp2_with fail
  refine (HH.out).mono ?_
  rintro e w1 ⟨rfl,hb1⟩
  have k0q:=block_below (heap_alloc_new w _) hb1
  have hl1 : w.heap.size < w1.heap.size:=(Array.getElem?_eq_some_iff.1 k0q).1
  have hB1 : Below w.heap.size w w1:=hal.trans (hb1.mono hal.size)
  obtain ⟨w2,hw2⟩ : ∃ w2,w2 = w1.alloc (Obj.cells #[.int .i64 0,.int .i64 (posn ts en n),.int .i64 0,.string ⟨#[]⟩,.slice none 0 0] 49):=⟨_,rfl⟩
  have hal2 : Below w1.heap.size w1 w2:=by rw [hw2]; exact (Below.refl _ w1).alloc (Nat.le_refl _) _
  have k1b0 : w2.heap[w1.heap.size]? = some (Obj.cells #[.int .i64 0,.int .i64 (posn ts en n),.int .i64 0,.string ⟨#[]⟩,.slice none 0 0] 49 (0,0)):=by rw [hw2]; exact heap_alloc_new w1 _
  have k0b0:=block_below k0q hal2
  have hB2 : Below w.heap.size w w2:=hB1.trans (hal2.mono hB1.size)
  have hst0:=h.below hB2
  have hgw0:=grownBy_below (r:=some rb) hB2
  have hp:=peek_any rb tv ts en n w2 hst0
  obtain ⟨kk,hkk⟩ : ∃ y,y = (peekT ts n).kind:=⟨_,rfl⟩
  obtain ⟨pp,hpp⟩ : ∃ y,y = (peekT ts n).pos:=⟨_,rfl⟩
  obtain ⟨tx,htx⟩ : ∃ y,y = (peekT ts n).text:=⟨_,rfl⟩
  rw [← hkk,← hpp,← htx] at hp
  have bk : (kk == 2) = false:=by rw [hkk]; simpa using hx2
  unfold tokVal at hp
  rw [hw2] at hp
  have HP:=hide hp
  have hfk:=field_kind kk pp tx
  clear hp hkk hpp htx HH hal hb1 h hB1
  go_wp2_with fail
  refine (HP.out).mono ?_
  rintro e w3 ⟨rfl,hb3⟩
  rw [← hw2] at hb3
  clear HP hw2 k0q hal2 hB2 hx2
  have g1:=grownBy_below (r:=some rb) hb3
  have hst1:=hst0.below hb3
  have k0b1:=block_keep k0b0 g1 (by omega)
  have k1b1:=block_keep k1b0 g1 (by omega)
  have hgw1:=grownBy_trans hgw0 g1
  clear g1 k0b0 k1b0 hgw0 hst0
  clear hb3
  have HC:=hide (takes_no rb tv ts en n ⟨#[45]⟩ _ hst1 hm)
  go_wp2_with fail
  refine (HC.out).mono ?_
  rintro e wv11 ⟨rfl,hbv11⟩
  clear HC
  have g2:=grownBy_below (r:=some rb) hbv11
  have hst2:=hst1.below hbv11
  have k0b2:=block_keep k0b1 g2 (by omega)
  have k1b2:=block_keep k1b1 g2 (by omega)
  have hgw2:=grownBy_trans hgw1 g2
  clear g2 k0b1 k1b1 hgw1 hst1
  clear hbv11
  have hc:=isName_any rb tv ts en n _ hst2
  rw [hN] at hc
  have HC:=hide hc
  clear hc
  go_wp2_with fail
  refine (HC.out).mono ?_
  rintro e wv12 ⟨rfl,hbv12⟩
  clear HC
  have g3:=grownBy_below (r:=some rb) hbv12
  have hst3:=hst2.below hbv12
  have k0b3:=block_keep k0b2 g3 (by omega)
  have k1b3:=block_keep k1b2 g3 (by omega)
  have hgw3:=grownBy_trans hgw2 g3
  clear g3 k0b2 k1b2 hgw2 hst2
  clear hbv12
  clear hN hm
  have HC:=hide (takes_yes rb tv ts en n ⟨#[40]⟩ _ hst3 ho hn)
  go_wp2_with fail
  refine (HC.out).mono ?_
  rintro e wv13 ⟨rfl,hgv13,hsv13⟩
  clear HC
  have g4:=hgv13
  have hst4:=hsv13
  have k0b4:=block_keep k0b3 g4 (by omega)
  have k1b4:=block_keep k1b3 g4 (by omega)
  have hgw4:=grownBy_trans hgw3 g4
  clear g4 k0b3 k1b3 hgw3 hst3
  clear hgv13 hsv13
  have hc:=HIH.out (n + 1) _ hst4
  rw [h1] at hc
  have HC:=hide hc
  clear hc
  go_wp2_with fail
  refine (HC.out).mono ?_
  intro e wA hqA
  clear HC
  obtain ⟨kd1,a1,m1,x1,ao1,len1,cap1,rfl,hgA,hRA,hstA⟩:=postE_inl hqA
  have hszi : w.heap.size≤wA.heap.size:=by have:=hgw4.size; have:=hgA.size; omega
  have hRA' : RE (fun b => w1.heap.size < b) wA f [.int .i64 kd1,.int .i64 a1,.int .i64 m1,.string x1,.slice ao1 len1 cap1] da:=RE.mono (fun b hb _ => by have:=(Array.getElem?_eq_some_iff.1 k1b4).1; omega) (fun _ _ _ => rfl) f f _ _ (Nat.le_refl _) hRA
  have k0A:=block_keep k0b4 hgA (by omega)
  have k1A:=block_keep k1b4 hgA (by omega)
  have hgwA:=grownBy_trans hgw4 hgA
  clear k0b4 k1b4 hgw4 hst4 hgA hqA hRA
  obtain ⟨wB,hwB⟩ : ∃ wB,wB = wA.alloc (Obj.cells #[.int .i64 kd1,.int .i64 a1,.int .i64 m1,.string x1,.slice ao1 len1 cap1] 49):=⟨_,rfl⟩
  have halB : Below wA.heap.size wA wB:=by rw [hwB]; exact (Below.refl _ wA).alloc (Nat.le_refl _) _
  have kfB : wB.heap[wA.heap.size]? = some (Obj.cells #[.int .i64 kd1,.int .i64 a1,.int .i64 m1,.string x1,.slice ao1 len1 cap1] 49 (0,0)):=by rw [hwB]; exact heap_alloc_new wA _
  have k0B:=block_below k0A halB
  have k1B:=block_below k1A halB
  have hgwB:=grownBy_trans hgwA (grownBy_below halB)
  have hstB:=hstA.below halB
  have hlA : w1.heap.size < wA.heap.size:=(Array.getElem?_eq_some_iff.1 k1A).1
  have hrA:=hstA.lt
  have hn1 : n1 < ts.length:=peek_lt (opKind_ne _ hop)
  have hc:=operator_yes rb tv ts en n1 wB hstB hop
  obtain ⟨op,hopv⟩ : ∃ op,op = opKind (peekT ts n1).text.data.toList:=⟨_,rfl⟩
  rw [← hopv] at hc
  have HOP:=hide hopv
  rw [hwB] at hc
  have HC:=hide hc
  clear hc hop hopv
  go_wp2_with fail
  refine (HC.out).mono ?_
  rintro e wC ⟨rfl,hgC,hstC⟩
  rw [← hwB] at hgC
  have k0C:=block_keep k0B hgC (by omega)
  have k1C:=block_keep k1B hgC (by omega)
  have kfC:=block_keep kfB hgC (by omega)
  have hgwC:=grownBy_trans hgwB hgC
  have hgAC:=grownBy_trans (grownBy_below (r:=some rb) halB) hgC
  obtain ⟨e0,e1,e2,e3,e4,ef,el⟩:=five k1C
  obtain ⟨q0,q1,q2,q3,q4,qf,ql⟩:=five kfC
  have k1D : (wC.setCell ⟨w1.heap.size,0,none⟩ (.int .i64 op)).heap[w1.heap.size]? = some (Obj.cells #[.int .i64 op,.int .i64 (posn ts en n),.int .i64 0,.string ⟨#[]⟩,.slice none 0 0] 49 (0,0)):=by simp [World.setCell,Array.getElem?_modify,k1C]
  have k0D : (wC.setCell ⟨w1.heap.size,0,none⟩ (.int .i64 op)).heap[w.heap.size]? = _:=block_setCell k0C (by simp; omega)
  have kfD : (wC.setCell ⟨w1.heap.size,0,none⟩ (.int .i64 op)).heap[wA.heap.size]? = _:=block_setCell kfC (by simp; omega)
  have hgwD:=grownBy_setCell hgwC (p:=⟨w1.heap.size,0,none⟩) (by simp; omega) (.int .i64 op)
  have hstD:=HX.out.keep hgwD (block_setCell hstC.1 (by simp; omega)) hn1
  have hKD : ∀ b,w1.heap.size < b→b < wA.heap.size→(wC.setCell ⟨w1.heap.size,0,none⟩ (.int .i64 op)).heap[b]? = wA.heap[b]?:=fun b hb1 hb2 => by rw [Below.heap_setCell _ _ _ _ (by simp; omega)]; exact hgAC.block b hb2 (by simp; omega)
  clear hgAC
  clear HC hwB halB k0A k1A hgwA k0B k1B hgwB hstB kfB k0C k1C kfC hstC hgC hstA
  go_wp2_with fail
  generalize wC.setCell ⟨w1.heap.size,0,none⟩ (.int .i64 op) = wD at k1D k0D kfD hgwD hstD hKD ⊢
  have HKD:=hide hKD
  clear hKD
  clear e0 e1 e2 e3 e4 ef el q0 q1 q2 q3 q4 qf ql hgwC
  obtain ⟨e0,e1,e2,e3,e4,ef,el⟩:=five k1D
  obtain ⟨q0,q1,q2,q3,q4,qf,ql⟩:=five kfD
  have hc:=fun W h => HIH.out (n1 + 1) W h
  rw [h2] at hc
  have HC:=hide hc
  clear hc HIH h1 h2
  have hstE : St rb tv ts en (n1 + 1) wD.drew:=hstD
  have HWR : Hid (IntKind.i64.wrap ((deep : Int) + 1) = (deep : Int) + 1):=by show _ = _; rw [IntKind.wrap_i64]; omega
  have hgwG : w.grownBy wD.drew (some rb):=⟨hgwD.os,hgwD.tape,hgwD.output,hgwD.size,hgwD.block⟩
  have K1G:=hide (show wD.drew.heap[w1.heap.size]? = _ from k1D)
  have KFG:=hide (show wD.drew.heap[wA.heap.size]? = _ from kfD)
  have K0G:=hide (show wD.drew.heap[w.heap.size]? = _ from k0D)
  refine wp_region_any (by kernel_rfl) ?_
  change wpAny _ _ _ _ _ _ _ (World.drew _)
  refine wpAny_take (i:=1) (v:=?_) rfl (by kernel_rfl) (by kernel_rfl) (by kernel_rfl) (fun _ _ _ h => h) (Or.inl ⟨by rfl,?_⟩) ?_
  rotate_left 1
  · intro w; go_simp; try with_reducible rfl
  refine wpAny_take (i:=2) (v:=?_) rfl (by kernel_rfl) (by kernel_rfl) (by kernel_rfl) (fun _ _ _ h => h) (Or.inl ⟨by rfl,?_⟩) ?_
  rotate_left 1
  · intro w; go_simp; try with_reducible rfl
  refine wpAny_take (i:=3) (v:=?_) rfl (by kernel_rfl) (by kernel_rfl) (by kernel_rfl) (fun _ _ _ h => h) (Or.inl ⟨by rfl,?_⟩) ?_
  rotate_left 1
  · intro w; go_simp; try with_reducible rfl
  refine wpAny_ready (rs:=[0,4]) (by kernel_rfl) (by simp) ?_
  refine AllReady.cons rfl (fun K hK => ?_) (AllReady.cons rfl (fun K hK => ?_) AllReady.nil)
  · go_simp
    refine hK _ _ ?_; clear hK K
    refine wpAny_ready (rs:=[4]) (by kernel_rfl) (by simp) ?_
    refine AllReady.cons rfl (fun K hK => ?_) AllReady.nil
    go_simp
    clear hK
    go_at_call 133; rw [HWR.out]; refine (HC.out _ ?_).mono ?_; exact hstE; intro e wE hqE; obtain ⟨rfl,hgE⟩:=postE_inr hqE; have hg9 : w.grownBy wE (some rb):=grownBy_trans hgwG hgE; clear HC; unfold gaveUpAt; go_wp2_with fail; exact ⟨rfl,hg9,rfl⟩
  · go_simp
    clear hK
    go_at_call 133; rw [HWR.out]; refine (HC.out _ ?_).mono ?_; exact hstE; intro e wE hqE; obtain ⟨rfl,hgE⟩:=postE_inr hqE; have hg9 : w.grownBy wE (some rb):=grownBy_trans hgwG hgE; clear HC; unfold gaveUpAt; go_wp2_with fail; exact ⟨rfl,hg9,rfl⟩
set_option maxHeartbeats 600000 in
set_option maxRecDepth 100000 in
theorem open_noclose (rb : Nat) (tv : Value) (ts : List Tok) (hall : ts.all isAlone = true) (en n f deep : Nat) (w : World) (h : St rb tv ts en n w) (hx2 : ¬ (peekT ts n).kind = 2) (hm : isT ts n [45] = false) (hN : isNameT (peekT ts n) = false) (hd : deep < 60) (ho : isT ts n [40] = true)
    (HIH : Hid (∀ n w,St rb tv ts en n w→Calls Tryz.prog 133 #[.pointer (some ⟨rb,0,none⟩),.int .i64 ((deep : Int) + 1)] w (PostE rb tv ts en f w (pE ts en f (deep + 1) n)))) (da db : D) (n1 n2 : Nat) (h1 : pE ts en f (deep + 1) (n + 1) = .inl (da,n1)) (hop : ¬ opKind (peekT ts n1).text.data.toList = 0) (h2 : pE ts en f (deep + 1) (n1 + 1) = .inl (db,n2)) (hcl : isT ts n2 [41] = false) :
    Calls Tryz.prog 133 #[.pointer (some ⟨rb,0,none⟩),.int .i64 (deep : Int)] w (PostE rb tv ts en (f + 1) w (.inr n2)):=by
  have hn:=isT_lt ho (by simp)
  have hal : Below w.heap.size w (w.alloc (Obj.cells #[.int .i64 0,.int .i64 0,.int .i64 0,.string ⟨#[]⟩,.slice none 0 0] 49)):=(Below.refl _ w).alloc (Nat.le_refl _) _
  have HH:=hide (here_any rb tv ts en n _ (h.below hal))
  have hrl:=h.lt
  have HX:=hide h
  go_enter Tryz.func133,Tryz.ntmps133
  go_wp2_with fail
  refine (HH.out).mono ?_
  rintro e w1 ⟨rfl,hb1⟩
  have k0q:=block_below (heap_alloc_new w _) hb1
  have hl1 : w.heap.size < w1.heap.size:=(Array.getElem?_eq_some_iff.1 k0q).1
  have hB1 : Below w.heap.size w w1:=hal.trans (hb1.mono hal.size)
  obtain ⟨w2,hw2⟩ : ∃ w2,w2 = w1.alloc (Obj.cells #[.int .i64 0,.int .i64 (posn ts en n),.int .i64 0,.string ⟨#[]⟩,.slice none 0 0] 49):=⟨_,rfl⟩
  have hal2 : Below w1.heap.size w1 w2:=by rw [hw2]; exact (Below.refl _ w1).alloc (Nat.le_refl _) _
  have k1b0 : w2.heap[w1.heap.size]? = some (Obj.cells #[.int .i64 0,.int .i64 (posn ts en n),.int .i64 0,.string ⟨#[]⟩,.slice none 0 0] 49 (0,0)):=by rw [hw2]; exact heap_alloc_new w1 _
  have k0b0:=block_below k0q hal2
  have hB2 : Below w.heap.size w w2:=hB1.trans (hal2.mono hB1.size)
  have hst0:=h.below hB2
  have hgw0:=grownBy_below (r:=some rb) hB2
  have hp:=peek_any rb tv ts en n w2 hst0
  obtain ⟨kk,hkk⟩ : ∃ y,y = (peekT ts n).kind:=⟨_,rfl⟩
  obtain ⟨pp,hpp⟩ : ∃ y,y = (peekT ts n).pos:=⟨_,rfl⟩
  obtain ⟨tx,htx⟩ : ∃ y,y = (peekT ts n).text:=⟨_,rfl⟩
  rw [← hkk,← hpp,← htx] at hp
  have bk : (kk == 2) = false:=by rw [hkk]; simpa using hx2
  unfold tokVal at hp
  rw [hw2] at hp
  have HP:=hide hp
  have hfk:=field_kind kk pp tx
  clear hp hkk hpp htx HH hal hb1 h hB1
  go_wp2_with fail
  refine (HP.out).mono ?_
  rintro e w3 ⟨rfl,hb3⟩
  rw [← hw2] at hb3
  clear HP hw2 k0q hal2 hB2 hx2
  have g1:=grownBy_below (r:=some rb) hb3
  have hst1:=hst0.below hb3
  have k0b1:=block_keep k0b0 g1 (by omega)
  have k1b1:=block_keep k1b0 g1 (by omega)
  have hgw1:=grownBy_trans hgw0 g1
  clear g1 k0b0 k1b0 hgw0 hst0
  clear hb3
  have HC:=hide (takes_no rb tv ts en n ⟨#[45]⟩ _ hst1 hm)
  go_wp2_with fail
  refine (HC.out).mono ?_
  rintro e wv11 ⟨rfl,hbv11⟩
  clear HC
  have g2:=grownBy_below (r:=some rb) hbv11
  have hst2:=hst1.below hbv11
  have k0b2:=block_keep k0b1 g2 (by omega)
  have k1b2:=block_keep k1b1 g2 (by omega)
  have hgw2:=grownBy_trans hgw1 g2
  clear g2 k0b1 k1b1 hgw1 hst1
  clear hbv11
  have hc:=isName_any rb tv ts en n _ hst2
  rw [hN] at hc
  have HC:=hide hc
  clear hc
  go_wp2_with fail
  refine (HC.out).mono ?_
  rintro e wv12 ⟨rfl,hbv12⟩
  clear HC
  have g3:=grownBy_below (r:=some rb) hbv12
  have hst3:=hst2.below hbv12
  have k0b3:=block_keep k0b2 g3 (by omega)
  have k1b3:=block_keep k1b2 g3 (by omega)
  have hgw3:=grownBy_trans hgw2 g3
  clear g3 k0b2 k1b2 hgw2 hst2
  clear hbv12
  clear hN hm
  have HC:=hide (takes_yes rb tv ts en n ⟨#[40]⟩ _ hst3 ho hn)
  go_wp2_with fail
  refine (HC.out).mono ?_
  rintro e wv13 ⟨rfl,hgv13,hsv13⟩
  clear HC
  have g4:=hgv13
  have hst4:=hsv13
  have k0b4:=block_keep k0b3 g4 (by omega)
  have k1b4:=block_keep k1b3 g4 (by omega)
  have hgw4:=grownBy_trans hgw3 g4
  clear g4 k0b3 k1b3 hgw3 hst3
  clear hgv13 hsv13
  have hc:=HIH.out (n + 1) _ hst4
  rw [h1] at hc
  have HC:=hide hc
  clear hc
  go_wp2_with fail
  refine (HC.out).mono ?_
  intro e wA hqA
  clear HC
  obtain ⟨kd1,a1,m1,x1,ao1,len1,cap1,rfl,hgA,hRA,hstA⟩:=postE_inl hqA
  have hszi : w.heap.size≤wA.heap.size:=by have:=hgw4.size; have:=hgA.size; omega
  have hRA' : RE (fun b => w1.heap.size < b) wA f [.int .i64 kd1,.int .i64 a1,.int .i64 m1,.string x1,.slice ao1 len1 cap1] da:=RE.mono (fun b hb _ => by have:=(Array.getElem?_eq_some_iff.1 k1b4).1; omega) (fun _ _ _ => rfl) f f _ _ (Nat.le_refl _) hRA
  have k0A:=block_keep k0b4 hgA (by omega)
  have k1A:=block_keep k1b4 hgA (by omega)
  have hgwA:=grownBy_trans hgw4 hgA
  clear k0b4 k1b4 hgw4 hst4 hgA hqA hRA
  obtain ⟨wB,hwB⟩ : ∃ wB,wB = wA.alloc (Obj.cells #[.int .i64 kd1,.int .i64 a1,.int .i64 m1,.string x1,.slice ao1 len1 cap1] 49):=⟨_,rfl⟩
  have halB : Below wA.heap.size wA wB:=by rw [hwB]; exact (Below.refl _ wA).alloc (Nat.le_refl _) _
  have kfB : wB.heap[wA.heap.size]? = some (Obj.cells #[.int .i64 kd1,.int .i64 a1,.int .i64 m1,.string x1,.slice ao1 len1 cap1] 49 (0,0)):=by rw [hwB]; exact heap_alloc_new wA _
  have k0B:=block_below k0A halB
  have k1B:=block_below k1A halB
  have hgwB:=grownBy_trans hgwA (grownBy_below halB)
  have hstB:=hstA.below halB
  have hlA : w1.heap.size < wA.heap.size:=(Array.getElem?_eq_some_iff.1 k1A).1
  have hrA:=hstA.lt
  have hn1 : n1 < ts.length:=peek_lt (opKind_ne _ hop)
  have hc:=operator_yes rb tv ts en n1 wB hstB hop
  obtain ⟨op,hopv⟩ : ∃ op,op = opKind (peekT ts n1).text.data.toList:=⟨_,rfl⟩
  rw [← hopv] at hc
  have HOP:=hide hopv
  rw [hwB] at hc
  have HC:=hide hc
  clear hc hop hopv
  go_wp2_with fail
  refine (HC.out).mono ?_
  rintro e wC ⟨rfl,hgC,hstC⟩
  rw [← hwB] at hgC
  have k0C:=block_keep k0B hgC (by omega)
  have k1C:=block_keep k1B hgC (by omega)
  have kfC:=block_keep kfB hgC (by omega)
  have hgwC:=grownBy_trans hgwB hgC
  have hgAC:=grownBy_trans (grownBy_below (r:=some rb) halB) hgC
  obtain ⟨e0,e1,e2,e3,e4,ef,el⟩:=five k1C
  obtain ⟨q0,q1,q2,q3,q4,qf,ql⟩:=five kfC
  have k1D : (wC.setCell ⟨w1.heap.size,0,none⟩ (.int .i64 op)).heap[w1.heap.size]? = some (Obj.cells #[.int .i64 op,.int .i64 (posn ts en n),.int .i64 0,.string ⟨#[]⟩,.slice none 0 0] 49 (0,0)):=by simp [World.setCell,Array.getElem?_modify,k1C]
  have k0D : (wC.setCell ⟨w1.heap.size,0,none⟩ (.int .i64 op)).heap[w.heap.size]? = _:=block_setCell k0C (by simp; omega)
  have kfD : (wC.setCell ⟨w1.heap.size,0,none⟩ (.int .i64 op)).heap[wA.heap.size]? = _:=block_setCell kfC (by simp; omega)
  have hgwD:=grownBy_setCell hgwC (p:=⟨w1.heap.size,0,none⟩) (by simp; omega) (.int .i64 op)
  have hstD:=HX.out.keep hgwD (block_setCell hstC.1 (by simp; omega)) hn1
  have hKD : ∀ b,w1.heap.size < b→b < wA.heap.size→(wC.setCell ⟨w1.heap.size,0,none⟩ (.int .i64 op)).heap[b]? = wA.heap[b]?:=fun b hb1 hb2 => by rw [Below.heap_setCell _ _ _ _ (by simp; omega)]; exact hgAC.block b hb2 (by simp; omega)
  clear hgAC
  clear HC hwB halB k0A k1A hgwA k0B k1B hgwB hstB kfB k0C k1C kfC hstC hgC hstA
  go_wp2_with fail
  generalize wC.setCell ⟨w1.heap.size,0,none⟩ (.int .i64 op) = wD at k1D k0D kfD hgwD hstD hKD ⊢
  have HKD:=hide hKD
  clear hKD
  clear e0 e1 e2 e3 e4 ef el q0 q1 q2 q3 q4 qf ql hgwC
  obtain ⟨e0,e1,e2,e3,e4,ef,el⟩:=five k1D
  obtain ⟨q0,q1,q2,q3,q4,qf,ql⟩:=five kfD
  have hc:=fun W h => HIH.out (n1 + 1) W h
  rw [h2] at hc
  have HC:=hide hc
  clear hc HIH h1 h2
  have hstE : St rb tv ts en (n1 + 1) wD.drew:=hstD
  have HWR : Hid (IntKind.i64.wrap ((deep : Int) + 1) = (deep : Int) + 1):=by show _ = _; rw [IntKind.wrap_i64]; omega
  have hgwG : w.grownBy wD.drew (some rb):=⟨hgwD.os,hgwD.tape,hgwD.output,hgwD.size,hgwD.block⟩
  have K1G:=hide (show wD.drew.heap[w1.heap.size]? = _ from k1D)
  have KFG:=hide (show wD.drew.heap[wA.heap.size]? = _ from kfD)
  have K0G:=hide (show wD.drew.heap[w.heap.size]? = _ from k0D)
  have HRA:=hide hRA'
  clear hRA'
  have hqAD : wA.heap.size < wD.heap.size:=ql
  go_region_with (go_at_call 133; rw [HWR.out]; refine (HC.out _ ?_).mono ?_; exact hstE; intro e wE hqE; obtain ⟨kd2,a2,m2,x2,ao2,len2,cap2,rfl,hgE,hRE,hstF⟩:=postE_inl hqE; have k1E:=block_keep K1G.out hgE (by omega); have kfE:=block_keep KFG.out hgE (by omega); obtain ⟨E0,E1,E2,E3,E4,EF,EL⟩:=five k1E; obtain ⟨Q0,Q1,Q2,Q3,Q4,QF,QL⟩:=five kfE)
  all_goals
    clear e0 e1 e2 e3 e4 ef q0 q1 q2 q3 q4 qf E0 E1 E2 E3 E4 EF Q0 Q1 Q2 Q3 Q4 QF hqE HC HWR hstE
    have hgwE:=grownBy_trans hgwG hgE
    have hDE : wD.heap.size≤wE.heap.size:=hgE.size
    have k0E:=block_keep K0G.out hgE (by omega)
    generalize hwF : (wE.setCell ⟨w1.heap.size,4,none⟩ (.slice (some ⟨wE.heap.size,0,none⟩) 2 2)).alloc (Obj.cells #[.int .i64 kd1,.int .i64 a1,.int .i64 m1,.string x1,.slice ao1 len1 cap1,.int .i64 kd2,.int .i64 a2,.int .i64 m2,.string x2,.slice ao2 len2 cap2] 49) = wF
    have hgwF : w.grownBy wF (some rb):=by rw [← hwF]; exact grownBy_alloc (grownBy_setCell hgwE (by simp; omega) _) _
    have k1F : wF.heap[w1.heap.size]? = some (Obj.cells #[.int .i64 op,.int .i64 (posn ts en n),.int .i64 0,.string ⟨#[]⟩,.slice (some ⟨wE.heap.size,0,none⟩) 2 2] 49 (0,0)):=by rw [← hwF]; exact block_alloc (by simp [World.setCell,Array.getElem?_modify,k1E])
    have kNF : wF.heap[wE.heap.size]? = some (Obj.cells #[.int .i64 kd1,.int .i64 a1,.int .i64 m1,.string x1,.slice ao1 len1 cap1,.int .i64 kd2,.int .i64 a2,.int .i64 m2,.string x2,.slice ao2 len2 cap2] 49 (0,0)):=by rw [← hwF]; simpa [World.setCell] using heap_alloc_new (wE.setCell ⟨w1.heap.size,4,none⟩ (.slice (some ⟨wE.heap.size,0,none⟩) 2 2)) (Obj.cells #[.int .i64 kd1,.int .i64 a1,.int .i64 m1,.string x1,.slice ao1 len1 cap1,.int .i64 kd2,.int .i64 a2,.int .i64 m2,.string x2,.slice ao2 len2 cap2] 49)
    have k0F : wF.heap[w.heap.size]? = some (Obj.cells #[.int .i64 0,.int .i64 0,.int .i64 0,.string ⟨#[]⟩,.slice none 0 0] 49 (0,0)):=by rw [← hwF]; exact block_alloc (block_setCell k0E (by simp; omega))
    have hstG : St rb tv ts en n2 wF:=HX.out.keep hgwF (by rw [← hwF]; exact block_alloc (block_setCell hstF.1 (by simp; omega))) hstF.2.1
    have hEF : ∀ b,w1.heap.size < b→b < wE.heap.size→wF.heap[b]? = wE.heap[b]?:=fun b hb1 hb2 => by rw [← hwF,Below.heap_alloc _ _ _ (by simpa [World.setCell] using hb2),Below.heap_setCell _ _ _ _ (by simp; omega)]
    have hAF : ∀ b,w1.heap.size < b→b < wA.heap.size→wF.heap[b]? = wA.heap[b]?:=fun b hb1 hb2 => by rw [hEF b hb1 (by omega),hgE.block b (show b < wD.heap.size by omega) (by simp; omega)]; exact HKD.out b hb1 hb2
    have hRAF:=RE.mono (S':=fun b => w1.heap.size < b) (fun b hb _ => hb) (fun b hb1 hb2 => hAF b hb1 hb2) f f _ _ (Nat.le_refl _) HRA.out
    have hREF:=RE.mono (S':=fun b => w1.heap.size < b) (fun b (hb : wD.heap.size≤b) _ => show w1.heap.size < b by omega) (fun b (hb1 : wD.heap.size≤b) hb2 => hEF b (by omega) hb2) f f _ _ (Nat.le_refl _) hRE
    have HRF:=hide (show RE (fun b => w1.heap.size < b) wF (f + 1) [.int .i64 op,.int .i64 (posn ts en n),.int .i64 0,.string ⟨#[]⟩,.slice (some ⟨wE.heap.size,0,none⟩) 2 2] (eD op (posn ts en n) 0 ⟨#[]⟩ [da,db]) from ⟨op,posn ts en n,0,⟨#[]⟩,_,[da,db],rfl,rfl,RS_two kNF (show w1.heap.size < wE.heap.size by omega) hRAF hREF⟩)
    clear hwF hRAF hREF hAF hEF kNF hstF k0E k1E kfE hgwE hgE hRE HRA HKD K0G K1G KFG hgwG hgwD hstD k0D k1D kfD
    have HC:=hide (take_no rb tv ts en n2 ⟨#[41]⟩ wF hstG hcl)
    go_wp2_with fail
    refine (HC.out).mono ?_
    rintro e wz ⟨rfl,hbz⟩
    unfold gaveUpAt
    go_wp2_with fail
    exact ⟨rfl,grownBy_trans hgwF (grownBy_below hbz),rfl⟩
set_option maxHeartbeats 600000 in
set_option maxRecDepth 100000 in
theorem open_ok (rb : Nat) (tv : Value) (ts : List Tok) (hall : ts.all isAlone = true) (en n f deep : Nat) (w : World) (h : St rb tv ts en n w) (hx2 : ¬ (peekT ts n).kind = 2) (hm : isT ts n [45] = false) (hN : isNameT (peekT ts n) = false) (hd : deep < 60) (ho : isT ts n [40] = true)
    (HIH : Hid (∀ n w,St rb tv ts en n w→Calls Tryz.prog 133 #[.pointer (some ⟨rb,0,none⟩),.int .i64 ((deep : Int) + 1)] w (PostE rb tv ts en f w (pE ts en f (deep + 1) n)))) (da db : D) (n1 n2 : Nat) (h1 : pE ts en f (deep + 1) (n + 1) = .inl (da,n1)) (hop : ¬ opKind (peekT ts n1).text.data.toList = 0) (h2 : pE ts en f (deep + 1) (n1 + 1) = .inl (db,n2)) (hcl : isT ts n2 [41] = true) :
    Calls Tryz.prog 133 #[.pointer (some ⟨rb,0,none⟩),.int .i64 (deep : Int)] w (PostE rb tv ts en (f + 1) w (.inl (eD (opKind (peekT ts n1).text.data.toList) (posn ts en n) 0 ⟨#[]⟩ [da,db],n2 + 1))):=by
  have hn:=isT_lt ho (by simp)
  have hal : Below w.heap.size w (w.alloc (Obj.cells #[.int .i64 0,.int .i64 0,.int .i64 0,.string ⟨#[]⟩,.slice none 0 0] 49)):=(Below.refl _ w).alloc (Nat.le_refl _) _
  have HH:=hide (here_any rb tv ts en n _ (h.below hal))
  have hrl:=h.lt
  have HX:=hide h
  go_enter Tryz.func133,Tryz.ntmps133
  go_wp2_with fail
  refine (HH.out).mono ?_
  rintro e w1 ⟨rfl,hb1⟩
  have k0q:=block_below (heap_alloc_new w _) hb1
  have hl1 : w.heap.size < w1.heap.size:=(Array.getElem?_eq_some_iff.1 k0q).1
  have hB1 : Below w.heap.size w w1:=hal.trans (hb1.mono hal.size)
  obtain ⟨w2,hw2⟩ : ∃ w2,w2 = w1.alloc (Obj.cells #[.int .i64 0,.int .i64 (posn ts en n),.int .i64 0,.string ⟨#[]⟩,.slice none 0 0] 49):=⟨_,rfl⟩
  have hal2 : Below w1.heap.size w1 w2:=by rw [hw2]; exact (Below.refl _ w1).alloc (Nat.le_refl _) _
  have k1b0 : w2.heap[w1.heap.size]? = some (Obj.cells #[.int .i64 0,.int .i64 (posn ts en n),.int .i64 0,.string ⟨#[]⟩,.slice none 0 0] 49 (0,0)):=by rw [hw2]; exact heap_alloc_new w1 _
  have k0b0:=block_below k0q hal2
  have hB2 : Below w.heap.size w w2:=hB1.trans (hal2.mono hB1.size)
  have hst0:=h.below hB2
  have hgw0:=grownBy_below (r:=some rb) hB2
  have hp:=peek_any rb tv ts en n w2 hst0
  obtain ⟨kk,hkk⟩ : ∃ y,y = (peekT ts n).kind:=⟨_,rfl⟩
  obtain ⟨pp,hpp⟩ : ∃ y,y = (peekT ts n).pos:=⟨_,rfl⟩
  obtain ⟨tx,htx⟩ : ∃ y,y = (peekT ts n).text:=⟨_,rfl⟩
  rw [← hkk,← hpp,← htx] at hp
  have bk : (kk == 2) = false:=by rw [hkk]; simpa using hx2
  unfold tokVal at hp
  rw [hw2] at hp
  have HP:=hide hp
  have hfk:=field_kind kk pp tx
  clear hp hkk hpp htx HH hal hb1 h hB1
  go_wp2_with fail
  refine (HP.out).mono ?_
  rintro e w3 ⟨rfl,hb3⟩
  rw [← hw2] at hb3
  clear HP hw2 k0q hal2 hB2 hx2
  have g1:=grownBy_below (r:=some rb) hb3
  have hst1:=hst0.below hb3
  have k0b1:=block_keep k0b0 g1 (by omega)
  have k1b1:=block_keep k1b0 g1 (by omega)
  have hgw1:=grownBy_trans hgw0 g1
  clear g1 k0b0 k1b0 hgw0 hst0
  clear hb3
  have HC:=hide (takes_no rb tv ts en n ⟨#[45]⟩ _ hst1 hm)
  go_wp2_with fail
  refine (HC.out).mono ?_
  rintro e wv11 ⟨rfl,hbv11⟩
  clear HC
  have g2:=grownBy_below (r:=some rb) hbv11
  have hst2:=hst1.below hbv11
  have k0b2:=block_keep k0b1 g2 (by omega)
  have k1b2:=block_keep k1b1 g2 (by omega)
  have hgw2:=grownBy_trans hgw1 g2
  clear g2 k0b1 k1b1 hgw1 hst1
  clear hbv11
  have hc:=isName_any rb tv ts en n _ hst2
  rw [hN] at hc
  have HC:=hide hc
  clear hc
  go_wp2_with fail
  refine (HC.out).mono ?_
  rintro e wv12 ⟨rfl,hbv12⟩
  clear HC
  have g3:=grownBy_below (r:=some rb) hbv12
  have hst3:=hst2.below hbv12
  have k0b3:=block_keep k0b2 g3 (by omega)
  have k1b3:=block_keep k1b2 g3 (by omega)
  have hgw3:=grownBy_trans hgw2 g3
  clear g3 k0b2 k1b2 hgw2 hst2
  clear hbv12
  clear hN hm
  have HC:=hide (takes_yes rb tv ts en n ⟨#[40]⟩ _ hst3 ho hn)
  go_wp2_with fail
  refine (HC.out).mono ?_
  rintro e wv13 ⟨rfl,hgv13,hsv13⟩
  clear HC
  have g4:=hgv13
  have hst4:=hsv13
  have k0b4:=block_keep k0b3 g4 (by omega)
  have k1b4:=block_keep k1b3 g4 (by omega)
  have hgw4:=grownBy_trans hgw3 g4
  clear g4 k0b3 k1b3 hgw3 hst3
  clear hgv13 hsv13
  have hc:=HIH.out (n + 1) _ hst4
  rw [h1] at hc
  have HC:=hide hc
  clear hc
  go_wp2_with fail
  refine (HC.out).mono ?_
  intro e wA hqA
  clear HC
  obtain ⟨kd1,a1,m1,x1,ao1,len1,cap1,rfl,hgA,hRA,hstA⟩:=postE_inl hqA
  have hszi : w.heap.size≤wA.heap.size:=by have:=hgw4.size; have:=hgA.size; omega
  have hRA' : RE (fun b => w1.heap.size < b) wA f [.int .i64 kd1,.int .i64 a1,.int .i64 m1,.string x1,.slice ao1 len1 cap1] da:=RE.mono (fun b hb _ => by have:=(Array.getElem?_eq_some_iff.1 k1b4).1; omega) (fun _ _ _ => rfl) f f _ _ (Nat.le_refl _) hRA
  have k0A:=block_keep k0b4 hgA (by omega)
  have k1A:=block_keep k1b4 hgA (by omega)
  have hgwA:=grownBy_trans hgw4 hgA
  clear k0b4 k1b4 hgw4 hst4 hgA hqA hRA
  obtain ⟨wB,hwB⟩ : ∃ wB,wB = wA.alloc (Obj.cells #[.int .i64 kd1,.int .i64 a1,.int .i64 m1,.string x1,.slice ao1 len1 cap1] 49):=⟨_,rfl⟩
  have halB : Below wA.heap.size wA wB:=by rw [hwB]; exact (Below.refl _ wA).alloc (Nat.le_refl _) _
  have kfB : wB.heap[wA.heap.size]? = some (Obj.cells #[.int .i64 kd1,.int .i64 a1,.int .i64 m1,.string x1,.slice ao1 len1 cap1] 49 (0,0)):=by rw [hwB]; exact heap_alloc_new wA _
  have k0B:=block_below k0A halB
  have k1B:=block_below k1A halB
  have hgwB:=grownBy_trans hgwA (grownBy_below halB)
  have hstB:=hstA.below halB
  have hlA : w1.heap.size < wA.heap.size:=(Array.getElem?_eq_some_iff.1 k1A).1
  have hrA:=hstA.lt
  have hn1 : n1 < ts.length:=peek_lt (opKind_ne _ hop)
  have hc:=operator_yes rb tv ts en n1 wB hstB hop
  obtain ⟨op,hopv⟩ : ∃ op,op = opKind (peekT ts n1).text.data.toList:=⟨_,rfl⟩
  rw [← hopv] at hc
  have HOP:=hide hopv
  rw [hwB] at hc
  have HC:=hide hc
  clear hc hop hopv
  go_wp2_with fail
  refine (HC.out).mono ?_
  rintro e wC ⟨rfl,hgC,hstC⟩
  rw [← hwB] at hgC
  have k0C:=block_keep k0B hgC (by omega)
  have k1C:=block_keep k1B hgC (by omega)
  have kfC:=block_keep kfB hgC (by omega)
  have hgwC:=grownBy_trans hgwB hgC
  have hgAC:=grownBy_trans (grownBy_below (r:=some rb) halB) hgC
  obtain ⟨e0,e1,e2,e3,e4,ef,el⟩:=five k1C
  obtain ⟨q0,q1,q2,q3,q4,qf,ql⟩:=five kfC
  have k1D : (wC.setCell ⟨w1.heap.size,0,none⟩ (.int .i64 op)).heap[w1.heap.size]? = some (Obj.cells #[.int .i64 op,.int .i64 (posn ts en n),.int .i64 0,.string ⟨#[]⟩,.slice none 0 0] 49 (0,0)):=by simp [World.setCell,Array.getElem?_modify,k1C]
  have k0D : (wC.setCell ⟨w1.heap.size,0,none⟩ (.int .i64 op)).heap[w.heap.size]? = _:=block_setCell k0C (by simp; omega)
  have kfD : (wC.setCell ⟨w1.heap.size,0,none⟩ (.int .i64 op)).heap[wA.heap.size]? = _:=block_setCell kfC (by simp; omega)
  have hgwD:=grownBy_setCell hgwC (p:=⟨w1.heap.size,0,none⟩) (by simp; omega) (.int .i64 op)
  have hstD:=HX.out.keep hgwD (block_setCell hstC.1 (by simp; omega)) hn1
  have hKD : ∀ b,w1.heap.size < b→b < wA.heap.size→(wC.setCell ⟨w1.heap.size,0,none⟩ (.int .i64 op)).heap[b]? = wA.heap[b]?:=fun b hb1 hb2 => by rw [Below.heap_setCell _ _ _ _ (by simp; omega)]; exact hgAC.block b hb2 (by simp; omega)
  clear hgAC
  clear HC hwB halB k0A k1A hgwA k0B k1B hgwB hstB kfB k0C k1C kfC hstC hgC hstA
  go_wp2_with fail
  generalize wC.setCell ⟨w1.heap.size,0,none⟩ (.int .i64 op) = wD at k1D k0D kfD hgwD hstD hKD ⊢
  have HKD:=hide hKD
  clear hKD
  clear e0 e1 e2 e3 e4 ef el q0 q1 q2 q3 q4 qf ql hgwC
  obtain ⟨e0,e1,e2,e3,e4,ef,el⟩:=five k1D
  obtain ⟨q0,q1,q2,q3,q4,qf,ql⟩:=five kfD
  have hc:=fun W h => HIH.out (n1 + 1) W h
  rw [h2] at hc
  have HC:=hide hc
  clear hc HIH h1 h2
  have hstE : St rb tv ts en (n1 + 1) wD.drew:=hstD
  have HWR : Hid (IntKind.i64.wrap ((deep : Int) + 1) = (deep : Int) + 1):=by show _ = _; rw [IntKind.wrap_i64]; omega
  have hgwG : w.grownBy wD.drew (some rb):=⟨hgwD.os,hgwD.tape,hgwD.output,hgwD.size,hgwD.block⟩
  have K1G:=hide (show wD.drew.heap[w1.heap.size]? = _ from k1D)
  have KFG:=hide (show wD.drew.heap[wA.heap.size]? = _ from kfD)
  have K0G:=hide (show wD.drew.heap[w.heap.size]? = _ from k0D)
  have HRA:=hide hRA'
  clear hRA'
  have hqAD : wA.heap.size < wD.heap.size:=ql
  go_region_with (go_at_call 133; rw [HWR.out]; refine (HC.out _ ?_).mono ?_; exact hstE; intro e wE hqE; obtain ⟨kd2,a2,m2,x2,ao2,len2,cap2,rfl,hgE,hRE,hstF⟩:=postE_inl hqE; have k1E:=block_keep K1G.out hgE (by omega); have kfE:=block_keep KFG.out hgE (by omega); obtain ⟨E0,E1,E2,E3,E4,EF,EL⟩:=five k1E; obtain ⟨Q0,Q1,Q2,Q3,Q4,QF,QL⟩:=five kfE)
  all_goals
    clear e0 e1 e2 e3 e4 ef q0 q1 q2 q3 q4 qf E0 E1 E2 E3 E4 EF Q0 Q1 Q2 Q3 Q4 QF hqE HC HWR hstE
    have hgwE:=grownBy_trans hgwG hgE
    have hDE : wD.heap.size≤wE.heap.size:=hgE.size
    have k0E:=block_keep K0G.out hgE (by omega)
    generalize hwF : (wE.setCell ⟨w1.heap.size,4,none⟩ (.slice (some ⟨wE.heap.size,0,none⟩) 2 2)).alloc (Obj.cells #[.int .i64 kd1,.int .i64 a1,.int .i64 m1,.string x1,.slice ao1 len1 cap1,.int .i64 kd2,.int .i64 a2,.int .i64 m2,.string x2,.slice ao2 len2 cap2] 49) = wF
    have hgwF : w.grownBy wF (some rb):=by rw [← hwF]; exact grownBy_alloc (grownBy_setCell hgwE (by simp; omega) _) _
    have k1F : wF.heap[w1.heap.size]? = some (Obj.cells #[.int .i64 op,.int .i64 (posn ts en n),.int .i64 0,.string ⟨#[]⟩,.slice (some ⟨wE.heap.size,0,none⟩) 2 2] 49 (0,0)):=by rw [← hwF]; exact block_alloc (by simp [World.setCell,Array.getElem?_modify,k1E])
    have kNF : wF.heap[wE.heap.size]? = some (Obj.cells #[.int .i64 kd1,.int .i64 a1,.int .i64 m1,.string x1,.slice ao1 len1 cap1,.int .i64 kd2,.int .i64 a2,.int .i64 m2,.string x2,.slice ao2 len2 cap2] 49 (0,0)):=by rw [← hwF]; simpa [World.setCell] using heap_alloc_new (wE.setCell ⟨w1.heap.size,4,none⟩ (.slice (some ⟨wE.heap.size,0,none⟩) 2 2)) (Obj.cells #[.int .i64 kd1,.int .i64 a1,.int .i64 m1,.string x1,.slice ao1 len1 cap1,.int .i64 kd2,.int .i64 a2,.int .i64 m2,.string x2,.slice ao2 len2 cap2] 49)
    have k0F : wF.heap[w.heap.size]? = some (Obj.cells #[.int .i64 0,.int .i64 0,.int .i64 0,.string ⟨#[]⟩,.slice none 0 0] 49 (0,0)):=by rw [← hwF]; exact block_alloc (block_setCell k0E (by simp; omega))
    have hstG : St rb tv ts en n2 wF:=HX.out.keep hgwF (by rw [← hwF]; exact block_alloc (block_setCell hstF.1 (by simp; omega))) hstF.2.1
    have hEF : ∀ b,w1.heap.size < b→b < wE.heap.size→wF.heap[b]? = wE.heap[b]?:=fun b hb1 hb2 => by rw [← hwF,Below.heap_alloc _ _ _ (by simpa [World.setCell] using hb2),Below.heap_setCell _ _ _ _ (by simp; omega)]
    have hAF : ∀ b,w1.heap.size < b→b < wA.heap.size→wF.heap[b]? = wA.heap[b]?:=fun b hb1 hb2 => by rw [hEF b hb1 (by omega),hgE.block b (show b < wD.heap.size by omega) (by simp; omega)]; exact HKD.out b hb1 hb2
    have hRAF:=RE.mono (S':=fun b => w1.heap.size < b) (fun b hb _ => hb) (fun b hb1 hb2 => hAF b hb1 hb2) f f _ _ (Nat.le_refl _) HRA.out
    have hREF:=RE.mono (S':=fun b => w1.heap.size < b) (fun b (hb : wD.heap.size≤b) _ => show w1.heap.size < b by omega) (fun b (hb1 : wD.heap.size≤b) hb2 => hEF b (by omega) hb2) f f _ _ (Nat.le_refl _) hRE
    have HRF:=hide (show RE (fun b => w1.heap.size < b) wF (f + 1) [.int .i64 op,.int .i64 (posn ts en n),.int .i64 0,.string ⟨#[]⟩,.slice (some ⟨wE.heap.size,0,none⟩) 2 2] (eD op (posn ts en n) 0 ⟨#[]⟩ [da,db]) from ⟨op,posn ts en n,0,⟨#[]⟩,_,[da,db],rfl,rfl,RS_two kNF (show w1.heap.size < wE.heap.size by omega) hRAF hREF⟩)
    clear hwF hRAF hREF hAF hEF kNF hstF k0E k1E kfE hgwE hgE hRE HRA HKD K0G K1G KFG hgwG hgwD hstD k0D k1D kfD
    have hn2:=isT_lt hcl (by simp)
    have HC:=hide (take_yes rb tv ts en n2 ⟨#[41]⟩ wF hstG hcl hn2)
    go_wp2_with fail
    refine (HC.out).mono ?_
    rintro e wY ⟨rfl,hgY,hstY⟩
    have hgwY:=grownBy_trans hgwF hgY
    obtain ⟨p0,p1,p2,p3,p4,pf,pl⟩:=five (block_keep k0F hgY (by omega))
    obtain ⟨e0,e1,e2,e3,e4,ef,el⟩:=five (block_keep k1F hgY (by omega))
    have HR:=hide hstY.1
    clear k0F k1F hstG hstY
    go_wp2_with fail
    refine bodyPost_ret (v:=.agg #[.int .i64 op,.int .i64 (posn ts en n),.int .i64 0,.string ⟨#[]⟩,.slice (some ⟨wE.heap.size,0,none⟩) 2 2]) (by simp [results,Tryz.results133,go_sem,p0,p1,p2,p3,p4]) rfl ?_
    have hgF:=grownBy_setCell (grownBy_setCell (grownBy_setCell (grownBy_setCell (grownBy_setCell (hgwY) (p:=⟨w.heap.size,0,none⟩) (by simp) (.int .i64 op)) (p:=⟨w.heap.size,1,none⟩) (by simp) (.int .i64 (posn ts en n))) (p:=⟨w.heap.size,2,none⟩) (by simp) (.int .i64 0)) (p:=⟨w.heap.size,3,none⟩) (by simp) (.string ⟨#[]⟩)) (p:=⟨w.heap.size,4,none⟩) (by simp) (.slice (some ⟨wE.heap.size,0,none⟩) 2 2)
    rw [← HOP.out]
    refine ⟨hgF,[.int .i64 op,.int .i64 (posn ts en n),.int .i64 0,.string ⟨#[]⟩,.slice (some ⟨wE.heap.size,0,none⟩) 2 2],rfl,RE.mono (fun b (hb : w1.heap.size < b) _ => show w.heap.size≤b by omega) (fun b (hb1 : w1.heap.size < b) hb2 => ?_) (f + 1) (f + 1) _ _ (Nat.le_refl _) HRF.out,HX.out.keep hgF ?_ hn2⟩
    · rw [Below.heap_setCell _ _ _ _ (by simp; omega),Below.heap_setCell _ _ _ _ (by simp; omega),Below.heap_setCell _ _ _ _ (by simp; omega),Below.heap_setCell _ _ _ _ (by simp; omega),Below.heap_setCell _ _ _ _ (by simp; omega)]; exact hgY.block b hb2 (by simp; omega)
    · exact block_setCell (block_setCell (block_setCell (block_setCell (block_setCell (HR.out) (by simp; omega)) (by simp; omega)) (by simp; omega)) (by simp; omega)) (by simp; omega)
end Go.Proofs.YtipngnjffjajpaaGreatDoor
