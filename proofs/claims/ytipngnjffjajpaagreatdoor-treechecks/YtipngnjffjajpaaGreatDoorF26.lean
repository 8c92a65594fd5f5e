/- Package tree: Parse of any text. -/
import Derived.Test.YtipngnjffjajpaaGreatDoorF19
import Derived.Test.YtipngnjffjajpaaGreatDoorF25
namespace Go.Proofs.YtipngnjffjajpaaGreatDoor.Tx
open Go.RowKit
set_option linter.unusedVariables false
/-- what Parse answers: a tree; or where, and why there is none. -/
def parseR (s : ByteArray) : Sum (List D × List D) (Int × Int) :=
  if s.size≤6000 then
    if scanErr s = 0 then
      match pTree (scanToks s) s.size with
      | .inr m => .inr (posn (scanToks s) s.size m,1)
      | .inl ((ds,l),_) => if ckT 61 (2 * (scanToks s).length + 3) ds l = 0 then .inl (ds,l) else .inr (0,ckT 61 (2 * (scanToks s).length + 3) ds l)
    else .inr ((scanPos s : Int),(scanErr s : Int))
  else .inr (0,2)
def ParseSaid (s : ByteArray) (r : Sum (List D × List D) (Int × Int)) (e : Ending) (w' : World) : Prop:=match r with
  | .inl (ds,l) => ∃ v,e = .returned (.tuple #[v,.int .i64 0,.int .i64 0])∧ZT w' 61 (2 * (scanToks s).length + 3) v ds l
  | .inr (p,r) => e = .returned (.tuple #[.agg #[.slice none 0 0,.slice none 0 0],.int .i64 p,.int .i64 r])
def ParsePost (s : ByteArray) (w : World) (e : Ending) (w' : World) : Prop:=Ov w w'∧ParseSaid s (parseR s) e w'
theorem scanF_len (s : ByteArray) : ∀ (f : Nat) (note : Bool) (i : Nat) (ts : List Tok),scanF s f note i = .inl ts→ts.length≤s.size - i
  | 0,note,i,ts,h => by
    have h' : (Sum.inl [] : Sum (List Tok) (Nat × Nat)) = .inl ts:=h
    injection h' with h'
    rw [← h']; simp
  | f + 1,note,i,ts,h => by
    unfold scanF at h
    have hge:=skipL_ge note s.data.toList i
    split at h
    · split at h
      · rename_i hlt he
        have hk:=tokKN_end he
        revert h
        cases hr : scanF s f false (tokKN s (skipL note s.data.toList i)).2 with
        | inl ts' =>
          intro h
          injection h with h
          have:=scanF_len s f false _ ts' hr
          rw [← h,List.length_cons]
          omega
        | inr x => intro h; cases h
      · cases h
    · injection h with h
      rw [← h]; simp
theorem scan_few (s : ByteArray) (h : s.size≤6000) : (scanToks s).length≤6000:=by
  unfold scanToks
  split
  · rename_i ts hs
    have:=scanF_len s _ _ _ ts hs
    omega
  · simp
set_option maxHeartbeats 4000000 in
set_option maxRecDepth 100000 in
theorem parse_c (s : ByteArray) (hs : s.size≤maxLen) (w : World) : Calls Tryz.prog 10 #[.string s] w (ParsePost s w):=by
  have hml : s.size≤9223372036854775807:=hs
  obtain ⟨res,hres⟩:=nm (parseR s)
  unfold ParsePost
  rw [← hres]
  have HR:=hide hres
  obtain ⟨V,hV⟩:=nm (w.alloc (.cells #[.slice none 0 0,.slice none 0 0] 25))
  obtain ⟨bt,hbt⟩:=nm w.heap.size
  have HBV : Hx (Ov w V):=by show Ov _ _; rw [hV]; exact bA _ _
  have HXV : Hx (Bx bt [.slice none 0 0,.slice none 0 0] V):=by show Bx _ _ _; rw [hV,hbt]; exact Bx.new w [.slice none 0 0,.slice none 0 0] 25
  have HLT : Hx (bt < V.heap.size):=HXV.o.lt
  have HBT:=hide hbt
  have KS:=hide (Scan_any s hs V)
  clear hres hs
  go_enter Tryz.func10,Tryz.ntmps10
  go_wp2_with fail
  rw [← hV,← hbt]
  clear hV hbt
  refine KS.o.mono ?_
  rintro e w1 ⟨v,ts,p,r,rfl,hown,hb,hif⟩
  have HB1 : Hx (Ov w w1):=over_trans HBV.o hb
  have HX1:=hide (HXV.o.over hb)
  have hsz:=hb.size
  clear KS HXV
  obtain ⟨va,vn,vc,rfl⟩:=own_form hown
  by_cases hgood : s.size≤6000∧scanErr s = 0
  · obtain ⟨h6,he⟩:=hgood
    rw [if_pos h6] at hif
    obtain ⟨rfl,rfl,hr⟩:=hif
    rw [he] at hr
    subst hr
    have hk:=own_len hown
    have KR:=hide (read_c (en:=s.size) (scanToks_alone s h6) w1 (tokAt_of hown (scan_few s h6)))
    have hsd:=pTree_ok (scanToks s) s.size (scanToks_alone s h6)
    have hpr : parseR s = match pTree (scanToks s) s.size with
      | .inr m => .inr (posn (scanToks s) s.size m,1)
      | .inl ((ds,l),_) => if ckT 61 (2 * (scanToks s).length + 3) ds l = 0 then .inl (ds,l) else .inr (0,ckT 61 (2 * (scanToks s).length + 3) ds l):=by
      unfold parseR
      rw [if_pos h6,if_pos he]
    have HPR:=hide (HR.o.trans hpr)
    have HSD:=hide hsd
    clear hown hb hk hsd hpr he
    go_wp2_with fail
    refine KR.o.mono ?_
    rintro e w2 ⟨hb2,hsaid⟩
    have HB2 : Hx (Ov w w2):=over_trans HB1.o hb2
    have HX2:=hide (HX1.o.over hb2)
    have hsz2:=hb2.size
    have hpr:=HPR.o
    have hsd:=HSD.o
    clear KR HPR HSD hb2
    revert hsaid hpr hsd
    generalize pTree (scanToks s) s.size = pt
    intro hsaid hpr hsd
    rcases pt with ⟨⟨ds,l⟩,n⟩ | m
    · obtain ⟨a,c,a2,c2,rfl,ho1,ho2,-,-⟩:=hsaid
      obtain ⟨hs1,hs2⟩:=hsd (ds,l) n rfl
      dsimp only at hpr hs1 hs2
      have hZ : ∀ W : World,(∀ k,w1.heap.size≤k→k < w2.heap.size→some k≠none→W.heap[k]? = w2.heap[k]?)→ZT W 61 (2 * (scanToks s).length + 3) (.agg #[.slice a ds.length c,.slice a2 l.length c2]) ds l:=fun W hW => ⟨a,c,a2,c2,rfl,(ho1 W hW).imp fun cs d hm hh => hh.z (hs1 d hm),(ho2 W hW).imp fun cs d hm hh => hh.z (hs2 d hm)⟩
      have HZ:=hide hZ
      obtain ⟨ck,hck⟩:=nm (ckT 61 (2 * (scanToks s).length + 3) ds l)
      rw [← hck] at hpr
      have KC : Hx (∀ X,Ov w2 X→Ro 14 #[.agg #[.slice a ds.length c,.slice a2 l.length c2]] X (.int .i64 ck)):=fun X hX => by
        rw [hck]
        exact check_c 61 _ ds l _ X ((HZ.o w2 fun _ _ _ _ => rfl).over hX)
      have HP:=hide hpr
      clear hpr ho1 ho2 hs1 hs2 hsd hZ hck
      generalize ds.length = nd at KC HZ ⊢
      generalize l.length = nl at KC HZ ⊢
      have HY2 : Hx (Bx w2.heap.size [.slice a nd c,.slice a2 nl c2] (w2.alloc (.cells #[.slice a nd c,.slice a2 nl c2] 25))):=Bx.new w2 [.slice a nd c,.slice a2 nl c2] 25
      go_wp2_with fail
      refine (KC.o _ (bA _ _)).mono ?_
      rintro e w3 ⟨rfl,hb3⟩
      have HB23 : Hx (Ov w2 w3):=over_trans (bA _ _) hb3
      have HX3:=hide ((HX2.o.over (bA _ _)).over hb3)
      have HY3:=hide (HY2.o.over hb3)
      have hsz3:=HB23.o.size
      clear KC hb3 HY2
      obtain ⟨t0,t1⟩:=rc2 HX3.o.row
      have f0:=HX3.o.fz 0
      have f1:=HX3.o.fz 1
      obtain ⟨y0,y1⟩:=rc2 HY3.o.row
      have hlt:=HLT.o
      have hne : bt≠w2.heap.size:=by omega
      have hne2 : w2.heap.size≠bt:=by omega
      by_cases hc0 : ck = 0
      · subst hc0
        go_wp2_with fail
        obtain ⟨V9,hV9⟩:=nm ((w3.setCell ⟨bt,0,none⟩ (.slice a nd c)).setCell ⟨bt,1,none⟩ (.slice a2 nl c2))
        have hX9 : Bx bt [.slice a nd c,.slice a2 nl c2] V9:=by rw [hV9]; exact (HX3.o.set (j:=0) (by simp)).set (j:=1) (by simp)
        have hO9 : Ov w V9:=by rw [hV9]; exact ((over_trans HB2.o HB23.o).setCell (by have:=HBT.o; simp; omega) _).setCell (by have:=HBT.o; simp; omega) _
        have hz9:=HZ.o V9 fun k h1 h2 _ => by
          rw [hV9,Below.heap_setCell _ _ _ _ (by show k≠bt; omega),Below.heap_setCell _ _ _ _ (by show k≠bt; omega)]
          exact HB23.o.block k h2
        rw [← hV9]
        have d0:=hX9.row 0 _ rfl
        have d1:=hX9.row 1 _ rfl
        refine bodyPost_ret (v:=.tuple #[.agg #[.slice a nd c,.slice a2 nl c2],.int .i64 0,.int .i64 0]) (by simp [results,Tryz.results10,go_sem,d0,d1]) rfl ⟨hO9,?_⟩
        rw [show res = .inl (ds,l) by have h:=HP.o; simpa using h]
        exact ⟨_,rfl,hz9⟩
      · go_wp2_with fail
        obtain ⟨V9,hV9⟩:=nm ((w3.setCell ⟨bt,0,none⟩ (.slice none 0 0)).setCell ⟨bt,1,none⟩ (.slice none 0 0))
        have hX9 : Bx bt [.slice none 0 0,.slice none 0 0] V9:=by rw [hV9]; exact (HX3.o.set (j:=0) (by simp)).set (j:=1) (by simp)
        have hO9 : Ov w V9:=by rw [hV9]; exact ((over_trans HB2.o HB23.o).setCell (by have:=HBT.o; simp; omega) _).setCell (by have:=HBT.o; simp; omega) _
        rw [← hV9]
        have d0:=hX9.row 0 _ rfl
        have d1:=hX9.row 1 _ rfl
        refine bodyPost_ret (v:=.tuple #[.agg #[.slice none 0 0,.slice none 0 0],.int .i64 0,.int .i64 ck]) (by simp [results,Tryz.results10,go_sem,d0,d1]) rfl ⟨hO9,?_⟩
        rw [show res = .inr (0,ck) from HP.o.trans (if_neg hc0)]
        exact rfl
    · obtain rfl:=hsaid
      dsimp only at hpr
      have HP:=hide hpr
      have HX3 : Hx (Bx bt [.slice none 0 0,.slice none 0 0] (w2.alloc (.cells #[.slice none 0 0,.slice none 0 0] 25))):=HX2.o.over (bA _ _)
      obtain ⟨t0,t1⟩:=rc2 HX3.o.row
      have f0:=HX3.o.fz 0
      have f1:=HX3.o.fz 1
      clear hpr hsd
      go_wp2_with fail
      obtain ⟨V9,hV9⟩:=nm (((w2.alloc (.cells #[.slice none 0 0,.slice none 0 0] 25)).setCell ⟨bt,0,none⟩ (.slice none 0 0)).setCell ⟨bt,1,none⟩ (.slice none 0 0))
      have hX9 : Bx bt [.slice none 0 0,.slice none 0 0] V9:=by rw [hV9]; exact (HX3.o.set (j:=0) (by simp)).set (j:=1) (by simp)
      have hO9 : Ov w V9:=by rw [hV9]; exact ((over_trans HB2.o (bA _ _)).setCell (by have:=HBT.o; simp; omega) _).setCell (by have:=HBT.o; simp; omega) _
      rw [← hV9]
      have d0:=hX9.row 0 _ rfl
      have d1:=hX9.row 1 _ rfl
      refine bodyPost_ret (v:=.tuple #[.agg #[.slice none 0 0,.slice none 0 0],.int .i64 (posn (scanToks s) s.size m),.int .i64 1]) (by simp [results,Tryz.results10,go_sem,d0,d1]) rfl ⟨hO9,?_⟩
      rw [HP.o]
      exact rfl
  · have hr : res = .inr ((p : Int),(r : Int))∧r≠0:=by
      rw [HR.o]
      unfold parseR
      by_cases h6 : s.size≤6000
      · rw [if_pos h6] at hif ⊢
        obtain ⟨-,rfl,rfl⟩:=hif
        have he : ¬ scanErr s = 0:=fun h => hgood ⟨h6,h⟩
        rw [if_neg he]
        exact ⟨rfl,he⟩
      · rw [if_neg h6] at hif ⊢
        obtain ⟨-,rfl,rfl⟩:=hif
        exact ⟨rfl,by omega⟩
    obtain ⟨hr1,hr2⟩:=hr
    have HP:=hide hr1
    have hri : ¬ (r : Int) = 0:=by omega
    obtain ⟨t0,t1⟩:=rc2 HX1.o.row
    have f0:=HX1.o.fz 0
    have f1:=HX1.o.fz 1
    clear hown hb hif hr1 hgood
    go_wp2_with fail
    obtain ⟨V9,hV9⟩:=nm ((w1.setCell ⟨bt,0,none⟩ (.slice none 0 0)).setCell ⟨bt,1,none⟩ (.slice none 0 0))
    have hX9 : Bx bt [.slice none 0 0,.slice none 0 0] V9:=by rw [hV9]; exact (HX1.o.set (j:=0) (by simp)).set (j:=1) (by simp)
    have hO9 : Ov w V9:=by rw [hV9]; exact ((HB1.o).setCell (by have:=HBT.o; simp; omega) _).setCell (by have:=HBT.o; simp; omega) _
    rw [← hV9]
    have d0:=hX9.row 0 _ rfl
    have d1:=hX9.row 1 _ rfl
    refine bodyPost_ret (v:=.tuple #[.agg #[.slice none 0 0,.slice none 0 0],.int .i64 (p : Int),.int .i64 (r : Int)]) (by simp [results,Tryz.results10,go_sem,d0,d1]) rfl ⟨hO9,?_⟩
    rw [HP.o]
    exact rfl
def smallB : ByteArray:=⟨#[97,99,116,111,114,32,97,59,10,111,117,116,32,99,32,123,97,58,32,97,125,59,10,109,97,105,110,32,123,10,32,32,112,117,116,32,99,32,40,49,32,43,32,50,41,59,10,125,10]⟩
def smallD : List D:=[deD 1 0 ⟨#[97]⟩ noS false [] [] [] noE,deD 5 9 ⟨#[99]⟩ noS true [polD 16 ⟨#[97]⟩ false [⟨#[97]⟩]] [] [] noE]
def smallL : List D:=[stD 4 32 noS ⟨#[99]⟩ (eD 3 38 0 noS [eD 1 39 1 noS [],eD 1 43 2 noS []]) [] [] []]
set_option maxRecDepth 100000 in
theorem small_parse : parseR smallB = .inl (smallD,smallL):=by kernel_rfl
set_option maxRecDepth 100000 in
theorem small_check : ckT 61 (2 * (scanToks smallB).length + 3) smallD smallL = 0:=by kernel_rfl
theorem dS_inj {x y : ByteArray} (h : dS x = dS y) : x = y:=by
  unfold dS at h
  injection h with h
  injection h with h
  have:=ba_of_list h
  rw [this]
theorem dI_inj {x y : Int} (h : dI x = dI y) : x = y:=by
  unfold dI at h
  injection h with h
  injection h with h1 h2
set_option maxHeartbeats 4000000 in
set_option maxRecDepth 100000 in
theorem treeBegun_c (w : World) : Ro 12 #[] w (.bool true):=by
  have KP:=hide (parse_c smallB (by have h : smallB.size = 49:=rfl; rw [h]; unfold maxLen; omega) w)
  go_enter Tryz.func12,Tryz.ntmps12
  go_wp2_with fail
  refine KP.o.mono ?_
  rintro e w1 ⟨hb,hsaid⟩
  rw [small_parse] at hsaid
  obtain ⟨v,rfl,hz⟩:=hsaid
  have KC : Hx (∀ X,Ov w1 X→Ro 14 #[v] X (.int .i64 0)):=fun X hX => by
    have h:=check_c 61 _ smallD smallL v X (hz.over hX)
    rw [small_check] at h
    exact h
  obtain ⟨a,c,a2,c2,rfl,hD,hM⟩:=hz
  obtain ⟨b,off,rfl,cs,hl,hcs,hr⟩:=hM.at (j:=0) (by decide)
  have hr' : ZC w1 61 (2 * (scanToks smallB).length + 2 + 1) cs (stD 4 32 noS ⟨#[99]⟩ (eD 3 38 0 noS [eD 1 39 1 noS [],eD 1 43 2 noS []]) [] [] []):=hr
  obtain ⟨kd,at_,x,y,e0,e1,e2,e3,q,q1,q2,e,aA,cA,args,aT,cT,th,aE,cE,el,rfl,hd,-⟩:=hr'
  unfold stD at hd
  injection hd with hd
  simp only [List.cons.injEq] at hd
  obtain ⟨hk,-,-,hy,-⟩:=hd
  obtain rfl:=dI_inj hk
  obtain rfl:=dS_inj hy
  have d0 : w1.cell? ⟨b,off,none⟩ = some (.int .i64 4):=by have:=hcs 0 _ rfl; simpa using this
  have d3 : w1.cell? ⟨b,off + 3,none⟩ = some (.string ⟨#[99]⟩):=by have:=hcs 3 _ rfl; simpa using this
  have HB1:=hide hb
  replace KC : Hx (∀ X,Ov w1 X→Ro 14 #[.agg #[.slice a 2 c,.slice (some ⟨b,off,none⟩) 1 c2]] X (.int .i64 0)):=KC
  clear KP hb hD hM hcs hl hr
  have z0 : (w1.alloc (.cells #[.slice a 2 c,.slice (some ⟨b,off,none⟩) 1 c2] 25)).cell? ⟨b,off,none⟩ = some (.int .i64 4):=alUp d0 _
  have z3 : (w1.alloc (.cells #[.slice a 2 c,.slice (some ⟨b,off,none⟩) 1 c2] 25)).cell? ⟨b,off + 3,none⟩ = some (.string ⟨#[99]⟩):=alUp d3 _
  have e1 : smallD.length = 2:=rfl
  have e2 : smallL.length = 1:=rfl
  rw [e1,e2]
  clear e1 e2 d0 d3
  go_wp2_with fail
  refine (KC.o _ (bA _ _)).mono ?_
  rintro e w2 ⟨rfl,hb⟩
  have HB2:=hide (over_trans HB1.o (over_trans (bA _ _) hb))
  clear hb KC z0 z3
  go_wp2_with fail
  go_ret
  exact ⟨rfl,HB2.o⟩
end Go.Proofs.YtipngnjffjajpaaGreatDoor.Tx
