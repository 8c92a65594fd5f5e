/- The reader of package tree reads an expression that is no list of others. -/
import Derived.Test.YtipngnjffjajpaaGreatDoorF03
namespace Go.Proofs.YtipngnjffjajpaaGreatDoor
open Go.RowKit
set_option linter.unusedVariables false
set_option maxHeartbeats 1000000 in
set_option maxRecDepth 100000 in
theorem expr_minus_zero (rb : Nat) (tv : Value) (ts : List Tok) (hall : ts.all isAlone = true) (en n f deep : Nat) (w : World) (h : St rb tv ts en n w) (hx2 : ¬ (peekT ts n).kind = 2) (hm : isT ts n [45] = true) (hz : isT ts (n + 1) [48] = true) :
    Calls Tryz.prog 133 #[.pointer (some ⟨rb,0,none⟩),.int .i64 (deep : Int)] w (PostE rb tv ts en (f + 1) w (.inr (n + 1))):=by
  have hn:=isT_lt hm (by simp)
  have hal : Below w.heap.size w (w.alloc (Obj.cells #[.int .i64 0,.int .i64 0,.int .i64 0,.string ⟨#[]⟩,.slice none 0 0] 49)):=(Below.refl _ w).alloc (Nat.le_refl _) _
  have HH:=hide (here_any rb tv ts en n _ (h.below hal))
  have hrl:=h.lt
  have HX:=hide h
  go_enter Tryz.func133,Tryz.ntmps133
  go_wp2_with fail
  refine (HH.out).mono ?_
  rintro e w1 ⟨rfl,hb1⟩
  have k0q:=block_below (heap_alloc_new w _) hb1
  have hl1 : w.heap.size < w1.heap.size:=(Array.getElem?_eq_some_iff.1 k0q).1
  have hB1 : Below w.heap.size w w1:=hal.trans (hb1.mono hal.size)
  obtain ⟨w2,hw2⟩ : ∃ w2,w2 = w1.alloc (Obj.cells #[.int .i64 0,.int .i64 (posn ts en n),.int .i64 0,.string ⟨#[]⟩,.slice none 0 0] 49):=⟨_,rfl⟩
  have hal2 : Below w1.heap.size w1 w2:=by rw [hw2]; exact (Below.refl _ w1).alloc (Nat.le_refl _) _
  have k1b0 : w2.heap[w1.heap.size]? = some (Obj.cells #[.int .i64 0,.int .i64 (posn ts en n),.int .i64 0,.string ⟨#[]⟩,.slice none 0 0] 49 (0,0)):=by rw [hw2]; exact heap_alloc_new w1 _
  have k0b0:=block_below k0q hal2
  have hB2 : Below w.heap.size w w2:=hB1.trans (hal2.mono hB1.size)
  have hst0:=h.below hB2
  have hgw0:=grownBy_below (r:=some rb) hB2
  have hp:=peek_any rb tv ts en n w2 hst0
  obtain ⟨kk,hkk⟩ : ∃ y,y = (peekT ts n).kind:=⟨_,rfl⟩
  obtain ⟨pp,hpp⟩ : ∃ y,y = (peekT ts n).pos:=⟨_,rfl⟩
  obtain ⟨tx,htx⟩ : ∃ y,y = (peekT ts n).text:=⟨_,rfl⟩
  rw [← hkk,← hpp,← htx] at hp
  have bk : (kk == 2) = false:=by rw [hkk]; simpa using hx2
  unfold tokVal at hp
  rw [hw2] at hp
  have HP:=hide hp
  have hfk:=field_kind kk pp tx
  clear hp hkk hpp htx HH hal hb1 h hB1
  go_wp2_with fail
  refine (HP.out).mono ?_
  rintro e w3 ⟨rfl,hb3⟩
  rw [← hw2] at hb3
  clear HP hw2 k0q hal2 hB2 hx2
  have g1:=grownBy_below (r:=some rb) hb3
  have hst1:=hst0.below hb3
  have k0b1:=block_keep k0b0 g1 (by omega)
  have k1b1:=block_keep k1b0 g1 (by omega)
  have hgw1:=grownBy_trans hgw0 g1
  clear g1 k0b0 k1b0 hgw0 hst0
  clear hb3
  have HC:=hide (takes_yes rb tv ts en n ⟨#[45]⟩ _ hst1 hm hn)
  go_wp2_with fail
  refine (HC.out).mono ?_
  rintro e wv11 ⟨rfl,hgv11,hsv11⟩
  clear HC
  have g2:=hgv11
  have hst2:=hsv11
  have k0b2:=block_keep k0b1 g2 (by omega)
  have k1b2:=block_keep k1b1 g2 (by omega)
  have hgw2:=grownBy_trans hgw1 g2
  clear g2 k0b1 k1b1 hgw1 hst1
  clear hgv11 hsv11
  have hc:=is_at rb tv ts en (n + 1) ⟨#[48]⟩ _ hst2
  rw [show isT ts (n + 1) (ByteArray.mk #[48]).data.toList = true from hz] at hc
  have HC:=hide hc
  clear hc
  go_wp2_with fail
  refine (HC.out).mono ?_
  rintro e wv12 ⟨rfl,hbv12⟩
  clear HC
  have g3:=grownBy_below (r:=some rb) hbv12
  have hst3:=hst2.below hbv12
  have k0b3:=block_keep k0b2 g3 (by omega)
  have k1b3:=block_keep k1b2 g3 (by omega)
  have hgw3:=grownBy_trans hgw2 g3
  clear g3 k0b2 k1b2 hgw2 hst2
  clear hbv12
  have HC:=hide (giveUp_any rb tv ts en (n + 1) _ hst3)
  go_wp2_with fail
  refine (HC.out).mono ?_
  rintro e wz ⟨rfl,hbz⟩
  unfold gaveUpAt
  go_wp2_with fail
  exact ⟨rfl,grownBy_trans hgw3 (grownBy_below hbz),rfl⟩
set_option maxHeartbeats 1000000 in
set_option maxRecDepth 100000 in
theorem expr_minus_no (rb : Nat) (tv : Value) (ts : List Tok) (hall : ts.all isAlone = true) (en n f deep : Nat) (w : World) (h : St rb tv ts en n w) (hx2 : ¬ (peekT ts n).kind = 2) (hm : isT ts n [45] = true) (hz : isT ts (n + 1) [48] = false) (hq : ¬ (peekT ts (n + 1)).kind = 2) :
    Calls Tryz.prog 133 #[.pointer (some ⟨rb,0,none⟩),.int .i64 (deep : Int)] w (PostE rb tv ts en (f + 1) w (.inr (n + 1))):=by
  have hn:=isT_lt hm (by simp)
  have hal : Below w.heap.size w (w.alloc (Obj.cells #[.int .i64 0,.int .i64 0,.int .i64 0,.string ⟨#[]⟩,.slice none 0 0] 49)):=(Below.refl _ w).alloc (Nat.le_refl _) _
  have HH:=hide (here_any rb tv ts en n _ (h.below hal))
  have hrl:=h.lt
  have HX:=hide h
  go_enter Tryz.func133,Tryz.ntmps133
  go_wp2_with fail
  refine (HH.out).mono ?_
  rintro e w1 ⟨rfl,hb1⟩
  have k0q:=block_below (heap_alloc_new w _) hb1
  have hl1 : w.heap.size < w1.heap.size:=(Array.getElem?_eq_some_iff.1 k0q).1
  have hB1 : Below w.heap.size w w1:=hal.trans (hb1.mono hal.size)
  obtain ⟨w2,hw2⟩ : ∃ w2,w2 = w1.alloc (Obj.cells #[.int .i64 0,.int .i64 (posn ts en n),.int .i64 0,.string ⟨#[]⟩,.slice none 0 0] 49):=⟨_,rfl⟩
  have hal2 : Below w1.heap.size w1 w2:=by rw [hw2]; exact (Below.refl _ w1).alloc (Nat.le_refl _) _
  have k1b0 : w2.heap[w1.heap.size]? = some (Obj.cells #[.int .i64 0,.int .i64 (posn ts en n),.int .i64 0,.string ⟨#[]⟩,.slice none 0 0] 49 (0,0)):=by rw [hw2]; exact heap_alloc_new w1 _
  have k0b0:=block_below k0q hal2
  have hB2 : Below w.heap.size w w2:=hB1.trans (hal2.mono hB1.size)
  have hst0:=h.below hB2
  have hgw0:=grownBy_below (r:=some rb) hB2
  have hp:=peek_any rb tv ts en n w2 hst0
  obtain ⟨kk,hkk⟩ : ∃ y,y = (peekT ts n).kind:=⟨_,rfl⟩
  obtain ⟨pp,hpp⟩ : ∃ y,y = (peekT ts n).pos:=⟨_,rfl⟩
  obtain ⟨tx,htx⟩ : ∃ y,y = (peekT ts n).text:=⟨_,rfl⟩
  rw [← hkk,← hpp,← htx] at hp
  have bk : (kk == 2) = false:=by rw [hkk]; simpa using hx2
  unfold tokVal at hp
  rw [hw2] at hp
  have HP:=hide hp
  have hfk:=field_kind kk pp tx
  clear hp hkk hpp htx HH hal hb1 h hB1
  go_wp2_with fail
  refine (HP.out).mono ?_
  rintro e w3 ⟨rfl,hb3⟩
  rw [← hw2] at hb3
  clear HP hw2 k0q hal2 hB2 hx2
  have g1:=grownBy_below (r:=some rb) hb3
  have hst1:=hst0.below hb3
  have k0b1:=block_keep k0b0 g1 (by omega)
  have k1b1:=block_keep k1b0 g1 (by omega)
  have hgw1:=grownBy_trans hgw0 g1
  clear g1 k0b0 k1b0 hgw0 hst0
  clear hb3
  have HC:=hide (takes_yes rb tv ts en n ⟨#[45]⟩ _ hst1 hm hn)
  go_wp2_with fail
  refine (HC.out).mono ?_
  rintro e wv11 ⟨rfl,hgv11,hsv11⟩
  clear HC
  have g2:=hgv11
  have hst2:=hsv11
  have k0b2:=block_keep k0b1 g2 (by omega)
  have k1b2:=block_keep k1b1 g2 (by omega)
  have hgw2:=grownBy_trans hgw1 g2
  clear g2 k0b1 k1b1 hgw1 hst1
  clear hgv11 hsv11
  have hc:=is_at rb tv ts en (n + 1) ⟨#[48]⟩ _ hst2
  rw [show isT ts (n + 1) (ByteArray.mk #[48]).data.toList = false from hz] at hc
  have HC:=hide hc
  clear hc
  go_wp2_with fail
  refine (HC.out).mono ?_
  rintro e wv12 ⟨rfl,hbv12⟩
  clear HC
  have g3:=grownBy_below (r:=some rb) hbv12
  have hst3:=hst2.below hbv12
  have k0b3:=block_keep k0b2 g3 (by omega)
  have k1b3:=block_keep k1b2 g3 (by omega)
  have hgw3:=grownBy_trans hgw2 g3
  clear g3 k0b2 k1b2 hgw2 hst2
  clear hbv12
  have HC:=hide (number_no rb tv ts en (n + 1) _ hst3 hq)
  go_wp2_with fail
  refine (HC.out).mono ?_
  rintro e wz ⟨rfl,hbz⟩
  unfold gaveUpAt
  go_wp2_with fail
  exact ⟨rfl,grownBy_trans hgw3 (grownBy_below hbz),rfl⟩
set_option maxHeartbeats 1000000 in
set_option maxRecDepth 100000 in
theorem expr_minus (rb : Nat) (tv : Value) (ts : List Tok) (hall : ts.all isAlone = true) (en n f deep : Nat) (w : World) (h : St rb tv ts en n w) (hx2 : ¬ (peekT ts n).kind = 2) (hm : isT ts n [45] = true) (hz : isT ts (n + 1) [48] = false) (hq : (peekT ts (n + 1)).kind = 2) :
    Calls Tryz.prog 133 #[.pointer (some ⟨rb,0,none⟩),.int .i64 (deep : Int)] w (PostE rb tv ts en (f + 1) w (.inl (eD 1 (posn ts en n) (-(numN (peekT ts (n + 1)).text.data.toList : Int)) ⟨#[]⟩ [],n + 2))):=by
  have hn:=isT_lt hm (by simp)
  have hn1:=number_lt hq
  have hbd:=(alone_number (List.all_eq_true.1 hall _ (peekT_mem hn1)) hq).2.2.2
  have hal : Below w.heap.size w (w.alloc (Obj.cells #[.int .i64 0,.int .i64 0,.int .i64 0,.string ⟨#[]⟩,.slice none 0 0] 49)):=(Below.refl _ w).alloc (Nat.le_refl _) _
  have HH:=hide (here_any rb tv ts en n _ (h.below hal))
  have hrl:=h.lt
  have HX:=hide h
  go_enter Tryz.func133,Tryz.ntmps133
  go_wp2_with fail
  refine (HH.out).mono ?_
  rintro e w1 ⟨rfl,hb1⟩
  have k0q:=block_below (heap_alloc_new w _) hb1
  have hl1 : w.heap.size < w1.heap.size:=(Array.getElem?_eq_some_iff.1 k0q).1
  have hB1 : Below w.heap.size w w1:=hal.trans (hb1.mono hal.size)
  obtain ⟨w2,hw2⟩ : ∃ w2,w2 = w1.alloc (Obj.cells #[.int .i64 0,.int .i64 (posn ts en n),.int .i64 0,.string ⟨#[]⟩,.slice none 0 0] 49):=⟨_,rfl⟩
  have hal2 : Below w1.heap.size w1 w2:=by rw [hw2]; exact (Below.refl _ w1).alloc (Nat.le_refl _) _
  have k1b0 : w2.heap[w1.heap.size]? = some (Obj.cells #[.int .i64 0,.int .i64 (posn ts en n),.int .i64 0,.string ⟨#[]⟩,.slice none 0 0] 49 (0,0)):=by rw [hw2]; exact heap_alloc_new w1 _
  have k0b0:=block_below k0q hal2
  have hB2 : Below w.heap.size w w2:=hB1.trans (hal2.mono hB1.size)
  have hst0:=h.below hB2
  have hgw0:=grownBy_below (r:=some rb) hB2
  have hp:=peek_any rb tv ts en n w2 hst0
  obtain ⟨kk,hkk⟩ : ∃ y,y = (peekT ts n).kind:=⟨_,rfl⟩
  obtain ⟨pp,hpp⟩ : ∃ y,y = (peekT ts n).pos:=⟨_,rfl⟩
  obtain ⟨tx,htx⟩ : ∃ y,y = (peekT ts n).text:=⟨_,rfl⟩
  rw [← hkk,← hpp,← htx] at hp
  have bk : (kk == 2) = false:=by rw [hkk]; simpa using hx2
  unfold tokVal at hp
  rw [hw2] at hp
  have HP:=hide hp
  have hfk:=field_kind kk pp tx
  clear hp hkk hpp htx HH hal hb1 h hB1
  go_wp2_with fail
  refine (HP.out).mono ?_
  rintro e w3 ⟨rfl,hb3⟩
  rw [← hw2] at hb3
  clear HP hw2 k0q hal2 hB2 hx2
  have g1:=grownBy_below (r:=some rb) hb3
  have hst1:=hst0.below hb3
  have k0b1:=block_keep k0b0 g1 (by omega)
  have k1b1:=block_keep k1b0 g1 (by omega)
  have hgw1:=grownBy_trans hgw0 g1
  clear g1 k0b0 k1b0 hgw0 hst0
  clear hb3
  have HC:=hide (takes_yes rb tv ts en n ⟨#[45]⟩ _ hst1 hm hn)
  go_wp2_with fail
  refine (HC.out).mono ?_
  rintro e wv11 ⟨rfl,hgv11,hsv11⟩
  clear HC
  have g2:=hgv11
  have hst2:=hsv11
  have k0b2:=block_keep k0b1 g2 (by omega)
  have k1b2:=block_keep k1b1 g2 (by omega)
  have hgw2:=grownBy_trans hgw1 g2
  clear g2 k0b1 k1b1 hgw1 hst1
  clear hgv11 hsv11
  have hc:=is_at rb tv ts en (n + 1) ⟨#[48]⟩ _ hst2
  rw [show isT ts (n + 1) (ByteArray.mk #[48]).data.toList = false from hz] at hc
  have HC:=hide hc
  clear hc
  go_wp2_with fail
  refine (HC.out).mono ?_
  rintro e wv12 ⟨rfl,hbv12⟩
  clear HC
  have g3:=grownBy_below (r:=some rb) hbv12
  have hst3:=hst2.below hbv12
  have k0b3:=block_keep k0b2 g3 (by omega)
  have k1b3:=block_keep k1b2 g3 (by omega)
  have hgw3:=grownBy_trans hgw2 g3
  clear g3 k0b2 k1b2 hgw2 hst2
  clear hbv12
  have HQ:=hide hq
  clear hq hz hm
  have HC:=hide (number_yes rb tv ts hall en (n + 1) _ hst3 HQ.out)
  go_wp2_with fail
  refine (HC.out).mono ?_
  rintro e wv13 ⟨rfl,hgv13,hsv13⟩
  clear HC
  have g4:=hgv13
  have hst4:=hsv13
  have k0b4:=block_keep k0b3 g4 (by omega)
  have k1b4:=block_keep k1b3 g4 (by omega)
  have hgw4:=grownBy_trans hgw3 g4
  clear g4 k0b3 k1b3 hgw3 hst3
  clear hgv13 hsv13
  obtain ⟨nn,hnn⟩ : ∃ nn : Nat,nn = numN (peekT ts (n + 1)).text.data.toList:=⟨_,rfl⟩
  rw [← hnn] at hbd ⊢
  have HNN:=hide hnn
  clear hnn
  obtain ⟨p0,p1,p2,p3,p4,pf,pl⟩:=five k0b4
  obtain ⟨e0,e1,e2,e3,e4,ef,el⟩:=five k1b4
  have HR:=hide hst4.1
  clear k0b4 k1b4 hst4
  go_wp2_with fail
  refine bodyPost_ret (v:=.agg #[.int .i64 1,.int .i64 (posn ts en n),.int .i64 (-(nn : Int)),.string ⟨#[]⟩,.slice none 0 0]) (by simp [results,Tryz.results133,go_sem,p0,p1,p2,p3,p4]) rfl ?_
  have hgF:=grownBy_setCell (grownBy_setCell (grownBy_setCell (grownBy_setCell (grownBy_setCell (grownBy_setCell (grownBy_setCell (hgw4) (p:=⟨w1.heap.size,0,none⟩) (by simp; omega) (.int .i64 1)) (p:=⟨w1.heap.size,2,none⟩) (by simp; omega) (.int .i64 (-(nn : Int)))) (p:=⟨w.heap.size,0,none⟩) (by simp) (.int .i64 1)) (p:=⟨w.heap.size,1,none⟩) (by simp) (.int .i64 (posn ts en n))) (p:=⟨w.heap.size,2,none⟩) (by simp) (.int .i64 (-(nn : Int)))) (p:=⟨w.heap.size,3,none⟩) (by simp) (.string ⟨#[]⟩)) (p:=⟨w.heap.size,4,none⟩) (by simp) (.slice none 0 0)
  refine ⟨hgF,[.int .i64 1,.int .i64 (posn ts en n),.int .i64 (-(nn : Int)),.string ⟨#[]⟩,.slice none 0 0],rfl,?_,HX.out.keep hgF ?_ hn1⟩
  · exact ⟨1,posn ts en n,(-(nn : Int)),⟨#[]⟩,.slice none 0 0,[],rfl,by rw [HNN.out],RS.nil _ _ _ _ _ _⟩
  · exact block_setCell (block_setCell (block_setCell (block_setCell (block_setCell (block_setCell (block_setCell (HR.out) (by simp; omega)) (by simp; omega)) (by simp; omega)) (by simp; omega)) (by simp; omega)) (by simp; omega)) (by simp; omega)
set_option maxHeartbeats 1000000 in
set_option maxRecDepth 100000 in
theorem expr_name (rb : Nat) (tv : Value) (ts : List Tok) (hall : ts.all isAlone = true) (en n f deep : Nat) (w : World) (h : St rb tv ts en n w) (hx2 : ¬ (peekT ts n).kind = 2) (hm : isT ts n [45] = false) (hN : isNameT (peekT ts n) = true) :
    Calls Tryz.prog 133 #[.pointer (some ⟨rb,0,none⟩),.int .i64 (deep : Int)] w (PostE rb tv ts en (f + 1) w (.inl (eD 2 (posn ts en n) 0 (peekT ts n).text [],n + 1))):=by
  have hn:=isNameT_lt hN
  have hal : Below w.heap.size w (w.alloc (Obj.cells #[.int .i64 0,.int .i64 0,.int .i64 0,.string ⟨#[]⟩,.slice none 0 0] 49)):=(Below.refl _ w).alloc (Nat.le_refl _) _
  have HH:=hide (here_any rb tv ts en n _ (h.below hal))
  have hrl:=h.lt
  have HX:=hide h
  go_enter Tryz.func133,Tryz.ntmps133
  go_wp2_with fail
  refine (HH.out).mono ?_
  rintro e w1 ⟨rfl,hb1⟩
  have k0q:=block_below (heap_alloc_new w _) hb1
  have hl1 : w.heap.size < w1.heap.size:=(Array.getElem?_eq_some_iff.1 k0q).1
  have hB1 : Below w.heap.size w w1:=hal.trans (hb1.mono hal.size)
  obtain ⟨w2,hw2⟩ : ∃ w2,w2 = w1.alloc (Obj.cells #[.int .i64 0,.int .i64 (posn ts en n),.int .i64 0,.string ⟨#[]⟩,.slice none 0 0] 49):=⟨_,rfl⟩
  have hal2 : Below w1.heap.size w1 w2:=by rw [hw2]; exact (Below.refl _ w1).alloc (Nat.le_refl _) _
  have k1b0 : w2.heap[w1.heap.size]? = some (Obj.cells #[.int .i64 0,.int .i64 (posn ts en n),.int .i64 0,.string ⟨#[]⟩,.slice none 0 0] 49 (0,0)):=by rw [hw2]; exact heap_alloc_new w1 _
  have k0b0:=block_below k0q hal2
  have hB2 : Below w.heap.size w w2:=hB1.trans (hal2.mono hB1.size)
  have hst0:=h.below hB2
  have hgw0:=grownBy_below (r:=some rb) hB2
  have hp:=peek_any rb tv ts en n w2 hst0
  obtain ⟨kk,hkk⟩ : ∃ y,y = (peekT ts n).kind:=⟨_,rfl⟩
  obtain ⟨pp,hpp⟩ : ∃ y,y = (peekT ts n).pos:=⟨_,rfl⟩
  obtain ⟨tx,htx⟩ : ∃ y,y = (peekT ts n).text:=⟨_,rfl⟩
  rw [← hkk,← hpp,← htx] at hp
  have bk : (kk == 2) = false:=by rw [hkk]; simpa using hx2
  unfold tokVal at hp
  rw [hw2] at hp
  have HP:=hide hp
  have hfk:=field_kind kk pp tx
  clear hp hkk hpp htx HH hal hb1 h hB1
  go_wp2_with fail
  refine (HP.out).mono ?_
  rintro e w3 ⟨rfl,hb3⟩
  rw [← hw2] at hb3
  clear HP hw2 k0q hal2 hB2 hx2
  have g1:=grownBy_below (r:=some rb) hb3
  have hst1:=hst0.below hb3
  have k0b1:=block_keep k0b0 g1 (by omega)
  have k1b1:=block_keep k1b0 g1 (by omega)
  have hgw1:=grownBy_trans hgw0 g1
  clear g1 k0b0 k1b0 hgw0 hst0
  clear hb3
  have HC:=hide (takes_no rb tv ts en n ⟨#[45]⟩ _ hst1 hm)
  go_wp2_with fail
  refine (HC.out).mono ?_
  rintro e wv11 ⟨rfl,hbv11⟩
  clear HC
  have g2:=grownBy_below (r:=some rb) hbv11
  have hst2:=hst1.below hbv11
  have k0b2:=block_keep k0b1 g2 (by omega)
  have k1b2:=block_keep k1b1 g2 (by omega)
  have hgw2:=grownBy_trans hgw1 g2
  clear g2 k0b1 k1b1 hgw1 hst1
  clear hbv11
  have hc:=isName_any rb tv ts en n _ hst2
  rw [hN] at hc
  have HC:=hide hc
  clear hc
  go_wp2_with fail
  refine (HC.out).mono ?_
  rintro e wv12 ⟨rfl,hbv12⟩
  clear HC
  have g3:=grownBy_below (r:=some rb) hbv12
  have hst3:=hst2.below hbv12
  have k0b3:=block_keep k0b2 g3 (by omega)
  have k1b3:=block_keep k1b2 g3 (by omega)
  have hgw3:=grownBy_trans hgw2 g3
  clear g3 k0b2 k1b2 hgw2 hst2
  clear hbv12
  have HN:=hide hN
  clear hN hm
  have HC:=hide (name_yes rb tv ts en n _ hst3 HN.out)
  go_wp2_with fail
  refine (HC.out).mono ?_
  rintro e wv13 ⟨rfl,hgv13,hsv13⟩
  clear HC
  have g4:=hgv13
  have hst4:=hsv13
  have k0b4:=block_keep k0b3 g4 (by omega)
  have k1b4:=block_keep k1b3 g4 (by omega)
  have hgw4:=grownBy_trans hgw3 g4
  clear g4 k0b3 k1b3 hgw3 hst3
  clear hgv13 hsv13
  obtain ⟨nm,hnm⟩ : ∃ nm,nm = (peekT ts n).text:=⟨_,rfl⟩
  rw [← hnm]
  have HNM:=hide hnm
  clear hnm
  obtain ⟨p0,p1,p2,p3,p4,pf,pl⟩:=five k0b4
  obtain ⟨e0,e1,e2,e3,e4,ef,el⟩:=five k1b4
  have HR:=hide hst4.1
  clear k0b4 k1b4 hst4
  go_wp2_with fail
  refine bodyPost_ret (v:=.agg #[.int .i64 2,.int .i64 (posn ts en n),.int .i64 0,.string nm,.slice none 0 0]) (by simp [results,Tryz.results133,go_sem,p0,p1,p2,p3,p4]) rfl ?_
  have hgF:=grownBy_setCell (grownBy_setCell (grownBy_setCell (grownBy_setCell (grownBy_setCell (grownBy_setCell (grownBy_setCell (hgw4) (p:=⟨w1.heap.size,0,none⟩) (by simp; omega) (.int .i64 2)) (p:=⟨w1.heap.size,3,none⟩) (by simp; omega) (.string nm)) (p:=⟨w.heap.size,0,none⟩) (by simp) (.int .i64 2)) (p:=⟨w.heap.size,1,none⟩) (by simp) (.int .i64 (posn ts en n))) (p:=⟨w.heap.size,2,none⟩) (by simp) (.int .i64 0)) (p:=⟨w.heap.size,3,none⟩) (by simp) (.string nm)) (p:=⟨w.heap.size,4,none⟩) (by simp) (.slice none 0 0)
  refine ⟨hgF,[.int .i64 2,.int .i64 (posn ts en n),.int .i64 0,.string nm,.slice none 0 0],rfl,?_,HX.out.keep hgF ?_ hn⟩
  · exact ⟨2,posn ts en n,0,nm,.slice none 0 0,[],rfl,by rw [HNM.out],RS.nil _ _ _ _ _ _⟩
  · exact block_setCell (block_setCell (block_setCell (block_setCell (block_setCell (block_setCell (block_setCell (HR.out) (by simp; omega)) (by simp; omega)) (by simp; omega)) (by simp; omega)) (by simp; omega)) (by simp; omega)) (by simp; omega)
set_option maxHeartbeats 1000000 in
set_option maxRecDepth 100000 in
theorem expr_deep (rb : Nat) (tv : Value) (ts : List Tok) (hall : ts.all isAlone = true) (en n f deep : Nat) (w : World) (h : St rb tv ts en n w) (hx2 : ¬ (peekT ts n).kind = 2) (hm : isT ts n [45] = false) (hN : isNameT (peekT ts n) = false) (hd : ¬ deep < 60) (hd2 : deep≤60) :
    Calls Tryz.prog 133 #[.pointer (some ⟨rb,0,none⟩),.int .i64 (deep : Int)] w (PostE rb tv ts en (f + 1) w (.inr n)):=by
  have hal : Below w.heap.size w (w.alloc (Obj.cells #[.int .i64 0,.int .i64 0,.int .i64 0,.string ⟨#[]⟩,.slice none 0 0] 49)):=(Below.refl _ w).alloc (Nat.le_refl _) _
  have HH:=hide (here_any rb tv ts en n _ (h.below hal))
  have hrl:=h.lt
  have HX:=hide h
  go_enter Tryz.func133,Tryz.ntmps133
  go_wp2_with fail
  refine (HH.out).mono ?_
  rintro e w1 ⟨rfl,hb1⟩
  have k0q:=block_below (heap_alloc_new w _) hb1
  have hl1 : w.heap.size < w1.heap.size:=(Array.getElem?_eq_some_iff.1 k0q).1
  have hB1 : Below w.heap.size w w1:=hal.trans (hb1.mono hal.size)
  obtain ⟨w2,hw2⟩ : ∃ w2,w2 = w1.alloc (Obj.cells #[.int .i64 0,.int .i64 (posn ts en n),.int .i64 0,.string ⟨#[]⟩,.slice none 0 0] 49):=⟨_,rfl⟩
  have hal2 : Below w1.heap.size w1 w2:=by rw [hw2]; exact (Below.refl _ w1).alloc (Nat.le_refl _) _
  have k1b0 : w2.heap[w1.heap.size]? = some (Obj.cells #[.int .i64 0,.int .i64 (posn ts en n),.int .i64 0,.string ⟨#[]⟩,.slice none 0 0] 49 (0,0)):=by rw [hw2]; exact heap_alloc_new w1 _
  have k0b0:=block_below k0q hal2
  have hB2 : Below w.heap.size w w2:=hB1.trans (hal2.mono hB1.size)
  have hst0:=h.below hB2
  have hgw0:=grownBy_below (r:=some rb) hB2
  have hp:=peek_any rb tv ts en n w2 hst0
  obtain ⟨kk,hkk⟩ : ∃ y,y = (peekT ts n).kind:=⟨_,rfl⟩
  obtain ⟨pp,hpp⟩ : ∃ y,y = (peekT ts n).pos:=⟨_,rfl⟩
  obtain ⟨tx,htx⟩ : ∃ y,y = (peekT ts n).text:=⟨_,rfl⟩
  rw [← hkk,← hpp,← htx] at hp
  have bk : (kk == 2) = false:=by rw [hkk]; simpa using hx2
  unfold tokVal at hp
  rw [hw2] at hp
  have HP:=hide hp
  have hfk:=field_kind kk pp tx
  clear hp hkk hpp htx HH hal hb1 h hB1
  go_wp2_with fail
  refine (HP.out).mono ?_
  rintro e w3 ⟨rfl,hb3⟩
  rw [← hw2] at hb3
  clear HP hw2 k0q hal2 hB2 hx2
  have g1:=grownBy_below (r:=some rb) hb3
  have hst1:=hst0.below hb3
  have k0b1:=block_keep k0b0 g1 (by omega)
  have k1b1:=block_keep k1b0 g1 (by omega)
  have hgw1:=grownBy_trans hgw0 g1
  clear g1 k0b0 k1b0 hgw0 hst0
  clear hb3
  have HC:=hide (takes_no rb tv ts en n ⟨#[45]⟩ _ hst1 hm)
  go_wp2_with fail
  refine (HC.out).mono ?_
  rintro e wv11 ⟨rfl,hbv11⟩
  clear HC
  have g2:=grownBy_below (r:=some rb) hbv11
  have hst2:=hst1.below hbv11
  have k0b2:=block_keep k0b1 g2 (by omega)
  have k1b2:=block_keep k1b1 g2 (by omega)
  have hgw2:=grownBy_trans hgw1 g2
  clear g2 k0b1 k1b1 hgw1 hst1
  clear hbv11
  have hc:=isName_any rb tv ts en n _ hst2
  rw [hN] at hc
  have HC:=hide hc
  clear hc
  go_wp2_with fail
  refine (HC.out).mono ?_
  rintro e wv12 ⟨rfl,hbv12⟩
  clear HC
  have g3:=grownBy_below (r:=some rb) hbv12
  have hst3:=hst2.below hbv12
  have k0b3:=block_keep k0b2 g3 (by omega)
  have k1b3:=block_keep k1b2 g3 (by omega)
  have hgw3:=grownBy_trans hgw2 g3
  clear g3 k0b2 k1b2 hgw2 hst2
  clear hbv12
  clear hN hm
  have HC:=hide (giveUp_any rb tv ts en (n) _ hst3)
  go_wp2_with fail
  refine (HC.out).mono ?_
  rintro e wz ⟨rfl,hbz⟩
  unfold gaveUpAt
  go_wp2_with fail
  exact ⟨rfl,grownBy_trans hgw3 (grownBy_below hbz),rfl⟩
set_option maxHeartbeats 1000000 in
set_option maxRecDepth 100000 in
theorem expr_none (rb : Nat) (tv : Value) (ts : List Tok) (hall : ts.all isAlone = true) (en n f deep : Nat) (w : World) (h : St rb tv ts en n w) (hx2 : ¬ (peekT ts n).kind = 2) (hm : isT ts n [45] = false) (hN : isNameT (peekT ts n) = false) (hd : deep < 60) (ho : isT ts n [40] = false) :
    Calls Tryz.prog 133 #[.pointer (some ⟨rb,0,none⟩),.int .i64 (deep : Int)] w (PostE rb tv ts en (f + 1) w (.inr n)):=by
  have hal : Below w.heap.size w (w.alloc (Obj.cells #[.int .i64 0,.int .i64 0,.int .i64 0,.string ⟨#[]⟩,.slice none 0 0] 49)):=(Below.refl _ w).alloc (Nat.le_refl _) _
  have HH:=hide (here_any rb tv ts en n _ (h.below hal))
  have hrl:=h.lt
  have HX:=hide h
  go_enter Tryz.func133,Tryz.ntmps133
  go_wp2_with fail
  refine (HH.out).mono ?_
  rintro e w1 ⟨rfl,hb1⟩
  have k0q:=block_below (heap_alloc_new w _) hb1
  have hl1 : w.heap.size < w1.heap.size:=(Array.getElem?_eq_some_iff.1 k0q).1
  have hB1 : Below w.heap.size w w1:=hal.trans (hb1.mono hal.size)
  obtain ⟨w2,hw2⟩ : ∃ w2,w2 = w1.alloc (Obj.cells #[.int .i64 0,.int .i64 (posn ts en n),.int .i64 0,.string ⟨#[]⟩,.slice none 0 0] 49):=⟨_,rfl⟩
  have hal2 : Below w1.heap.size w1 w2:=by rw [hw2]; exact (Below.refl _ w1).alloc (Nat.le_refl _) _
  have k1b0 : w2.heap[w1.heap.size]? = some (Obj.cells #[.int .i64 0,.int .i64 (posn ts en n),.int .i64 0,.string ⟨#[]⟩,.slice none 0 0] 49 (0,0)):=by rw [hw2]; exact heap_alloc_new w1 _
  have k0b0:=block_below k0q hal2
  have hB2 : Below w.heap.size w w2:=hB1.trans (hal2.mono hB1.size)
  have hst0:=h.below hB2
  have hgw0:=grownBy_below (r:=some rb) hB2
  have hp:=peek_any rb tv ts en n w2 hst0
  obtain ⟨kk,hkk⟩ : ∃ y,y = (peekT ts n).kind:=⟨_,rfl⟩
  obtain ⟨pp,hpp⟩ : ∃ y,y = (peekT ts n).pos:=⟨_,rfl⟩
  obtain ⟨tx,htx⟩ : ∃ y,y = (peekT ts n).text:=⟨_,rfl⟩
  rw [← hkk,← hpp,← htx] at hp
  have bk : (kk == 2) = false:=by rw [hkk]; simpa using hx2
  unfold tokVal at hp
  rw [hw2] at hp
  have HP:=hide hp
  have hfk:=field_kind kk pp tx
  clear hp hkk hpp htx HH hal hb1 h hB1
  go_wp2_with fail
  refine (HP.out).mono ?_
  rintro e w3 ⟨rfl,hb3⟩
  rw [← hw2] at hb3
  clear HP hw2 k0q hal2 hB2 hx2
  have g1:=grownBy_below (r:=some rb) hb3
  have hst1:=hst0.below hb3
  have k0b1:=block_keep k0b0 g1 (by omega)
  have k1b1:=block_keep k1b0 g1 (by omega)
  have hgw1:=grownBy_trans hgw0 g1
  clear g1 k0b0 k1b0 hgw0 hst0
  clear hb3
  have HC:=hide (takes_no rb tv ts en n ⟨#[45]⟩ _ hst1 hm)
  go_wp2_with fail
  refine (HC.out).mono ?_
  rintro e wv11 ⟨rfl,hbv11⟩
  clear HC
  have g2:=grownBy_below (r:=some rb) hbv11
  have hst2:=hst1.below hbv11
  have k0b2:=block_keep k0b1 g2 (by omega)
  have k1b2:=block_keep k1b1 g2 (by omega)
  have hgw2:=grownBy_trans hgw1 g2
  clear g2 k0b1 k1b1 hgw1 hst1
  clear hbv11
  have hc:=isName_any rb tv ts en n _ hst2
  rw [hN] at hc
  have HC:=hide hc
  clear hc
  go_wp2_with fail
  refine (HC.out).mono ?_
  rintro e wv12 ⟨rfl,hbv12⟩
  clear HC
  have g3:=grownBy_below (r:=some rb) hbv12
  have hst3:=hst2.below hbv12
  have k0b3:=block_keep k0b2 g3 (by omega)
  have k1b3:=block_keep k1b2 g3 (by omega)
  have hgw3:=grownBy_trans hgw2 g3
  clear g3 k0b2 k1b2 hgw2 hst2
  clear hbv12
  clear hN hm
  have HC:=hide (takes_no rb tv ts en n ⟨#[40]⟩ _ hst3 ho)
  go_wp2_with fail
  refine (HC.out).mono ?_
  rintro e wv13 ⟨rfl,hbv13⟩
  clear HC
  have g4:=grownBy_below (r:=some rb) hbv13
  have hst4:=hst3.below hbv13
  have k0b4:=block_keep k0b3 g4 (by omega)
  have k1b4:=block_keep k1b3 g4 (by omega)
  have hgw4:=grownBy_trans hgw3 g4
  clear g4 k0b3 k1b3 hgw3 hst3
  clear hbv13
  have HC:=hide (giveUp_any rb tv ts en (n) _ hst4)
  go_wp2_with fail
  refine (HC.out).mono ?_
  rintro e wz ⟨rfl,hbz⟩
  unfold gaveUpAt
  go_wp2_with fail
  exact ⟨rfl,grownBy_trans hgw4 (grownBy_below hbz),rfl⟩
end Go.Proofs.YtipngnjffjajpaaGreatDoor
