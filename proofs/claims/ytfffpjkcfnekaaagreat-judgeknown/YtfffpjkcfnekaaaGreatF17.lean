/- The lowest level, as who goes through commands makes it. -/
import Derived.Test.YtfffpjkcfnekaaaGreatF16
set_option linter.unusedVariables false
set_option maxHeartbeats 8000000
set_option maxRecDepth 100000
namespace Go.Proofs.YtfffpjkcfnekaaaGreat.Ex
open Go.RowKit
open Go.Value renaming slice -> O, int -> U, bool -> zg, agg -> zh, pointer -> zj, tuple -> zm
open Go.IntKind renaming i64 -> zd
open Go.Obj renaming cells -> ze
open Go.Ending renaming returned -> zk
theorem Bj {W:World} {b g o:Nat} (h:b≠g) (u:Value):(W.setCell ⟨b,o,none⟩ u).heap[g]? = W.heap[g]?:=by
 simp [World.setCell,Array.getElem?_modify,h]
theorem IU {W:World} {B:Nat} {v:Value} {k g n c:Nat} {xs:List Value} (h:W.ownsRow B 4 1 v k xs) (hg:g < B\/W.heap.size<=g):NR v (O (some ⟨g,0,none⟩) n c):=by
 cases hv:v.ownBlock with
 | none=>exact Or.inl hv
 | some x=>
  have h2:=MS h hv
  refine Or.inr ?_
  rw [hv]
  simp [Value.ownBlock]
  omega
theorem PS {w wp:World} {n:Nat} {v:Value} (h6:n<=6) (hw:w.heap.size+1+1<=wp.heap.size) (hor:wp.ownsRow (w.heap.size+1+1) 4 1 v n (List.replicate n (zg true))) (u0 u1:Value) :
  Be w (((wp.setCell ⟨w.heap.size+1,0,none⟩ u0).setCell ⟨w.heap.size+1,1,none⟩ u1).alloc (.cells (Array.replicate n (zg false)) 4)) (zh #[v,O (some ⟨wp.heap.size,0,none⟩) n n]) (Bw n):=by
 refine ⟨_,_,rfl,?_,?_,IU hor (Or.inr (Nat.le_refl _))⟩
 ·simp only [Bw,List.length_replicate,A1,List.map_replicate]
  exact B9 (Jb (Bm (Bm hor (by simp) _) (by simp) _) _) (by omega)
 ·simp only [Bw,List.length_replicate,A1,List.map_replicate]
  refine ⟨by simp,Or.inr ⟨wp.heap.size,n,Array.replicate n (zg false),rfl,by omega,?_,Nat.le_refl _,by unfold maxLen;omega,by simp,by simp⟩⟩
  have:=AJ ((wp.setCell ⟨w.heap.size+1,0,none⟩ u0).setCell ⟨w.heap.size+1,1,none⟩ u1) (.cells (Array.replicate n (zg false)) 4)
  simpa [World.setCell] using this
theorem Pz {w wp:World} {n g:Nat} {v:Value} (h6:n<=6) (hg:w.heap.size+1+1<=g) (hor:wp.ownsRow (g+1) 4 1 v n (List.replicate n (zg true))) (hrow:wp.heap[g]? = some (.cells (Array.replicate n (zg false)) 4 (0,0))) (u0 u1:Value) :
  Be w ((wp.setCell ⟨w.heap.size+1,0,none⟩ u0).setCell ⟨w.heap.size+1,1,none⟩ u1) (zh #[v,O (some ⟨g,0,none⟩) n n]) (Bw n):=by
 refine ⟨_,_,rfl,?_,?_,IU hor (Or.inl (Nat.lt_succ_self _))⟩
 ·simp only [Bw,List.length_replicate,A1,List.map_replicate]
  exact B9 (Bm (Bm hor (by simp;omega) _) (by simp;omega) _) (by omega)
 ·simp only [Bw,List.length_replicate,A1,List.map_replicate]
  refine ⟨by simp,Or.inr ⟨g,n,Array.replicate n (zg false),rfl,by omega,?_,Nat.le_refl _,by unfold maxLen;omega,by simp,by simp⟩⟩
  rw [Bj (by omega),Bj (by omega)]
  exact hrow
theorem NH {w wp:World} {o1 o2 o3 o4:Obj} {B:Nat} (h:Below B ((((w.alloc o1).alloc o2).alloc o3).alloc o4).drew wp) (hB:w.heap.size+1+1+1 < B):wp.heap[w.heap.size+1+1]? = some o3/\wp.heap[w.heap.size+1+1+1]? = some o4:=by
 have h5:=h.block
 refine ⟨?_,?_⟩
 ·rw [h5 _ (by omega)]
  show ((((w.heap.push o1).push o2).push o3).push o4)[_]? = _
  simp [Array.getElem_push]
 ·rw [h5 _ (by omega)]
  show ((((w.heap.push o1).push o2).push o3).push o4)[_]? = _
  simp [Array.getElem_push]
theorem ER (n:Nat) (h1:1<=n) (h6:n<=6) (ga gn gc sa sn sc ya yn yc oa on oc va vn vc fa fn fc ba bn bc la ln lc ka kn kc) (w:World) :
  Calls Tryz.prog 104 #[zh #[U zd n,O ga gn gc,O sa sn sc,O ya yn yc,O oa on oc,O va vn vc,O fa fn fc,O ba bn bc,O la ln lc,O ka kn kc]] w fun e w'=>∃ vj,e=zk vj/\Be w w' vj (Bw n)/\Ov w w':=by
 have hmk:=fun w=>DD n h6 w
 go_enter Tryz.func104,Tryz.ntmps104
 go_wp2_with fail
 go_region_with (go_at_call 165;refine (MO n h1 h6 _ _ (by simp <;> omega) (by simp [go_sem])).mono ?_;rintro e wp ⟨vr,rfl,hor,hbp⟩;obtain ⟨xa,xn,xc,rfl⟩:=Ak hor;have hbw:Ov w wp:=(by refine Below.trans ?_ (hbp.mono (by simp <;> omega));repeat (first | exact Below.refl _ _ | refine Below.drew ?_ | refine Below.alloc ?_ (by simp <;> omega) _));have ec:wp.cell? ⟨w.heap.size,0,none⟩=some (U zd n):=(by rw [(Al hbp).1 _ _ (by simp <;> omega)];simp [go_sem]);have e0:wp.cell? ⟨w.heap.size+1,0,none⟩=some (O none 0 0):=(by rw [(Al hbp).1 _ _ (by simp <;> omega)];simp [go_sem]);have e1:wp.cell? ⟨w.heap.size+1,1,none⟩=some (O none 0 0):=(by rw [(Al hbp).1 _ _ (by simp <;> omega)];simp [go_sem]);have f0:wp.frozen? ⟨w.heap.size+1,0,none⟩=false:=(by rw [(Al hbp).2 _ _ (by simp <;> omega)];simp [go_sem]);have f1:wp.frozen? ⟨w.heap.size+1,1,none⟩=false:=(by rw [(Al hbp).2 _ _ (by simp <;> omega)];simp [go_sem]);have ltp:w.heap.size+1 < wp.heap.size:=(bL e0);have e0a:∀ o,(wp.alloc o).cell? ⟨w.heap.size+1,0,none⟩=some (O none 0 0):=(fun o=>Ab (bA wp o) _ _ e0);have e1a:∀ o,(wp.alloc o).cell? ⟨w.heap.size+1,1,none⟩=some (O none 0 0):=(fun o=>Ab (bA wp o) _ _ e1);have f0a:∀ o,(wp.alloc o).frozen? ⟨w.heap.size+1,0,none⟩=false:=(fun o=>by rw [(Al (bA wp o)).2 _ _ ltp];exact f0);have f1a:∀ o,(wp.alloc o).frozen? ⟨w.heap.size+1,1,none⟩=false:=(fun o=>by rw [(Al (bA wp o)).2 _ _ ltp];exact f1);have HOR:=Aa hor;have HBP:=Aa hbp;have HBW:=Aa hbw;clear hor hbp hbw)
 all_goals go_wp2_with fail
 all_goals first
  | exact bodyPost_ret (v:=zh #[O xa xn xc,O (some ⟨wp.heap.size,0,none⟩) n n]) (by simp [results,Tryz.results104,go_sem,e0,e1,ltp]) rfl ⟨_,rfl,PS h6 (by omega) (B9 HOR.o (by simp <;> omega)) _ _,((HBW.o.setCell (by simp <;> omega) _).setCell (by simp <;> omega) _).alloc (by simp [World.setCell] <;> omega) _⟩
  | exact bodyPost_ret (v:=zh #[O xa xn xc,O (some ⟨w.heap.size+1+1,0,none⟩) n n]) (by simp [results,Tryz.results104,go_sem,e0,e1]) rfl ⟨_,rfl,Pz h6 (by omega) (B9 HOR.o (by simp <;> omega)) (NH HBP.o (by simp <;> omega)).1 _ _,(HBW.o.setCell (by simp <;> omega) _).setCell (by simp <;> omega) _⟩
  | exact bodyPost_ret (v:=zh #[O xa xn xc,O (some ⟨w.heap.size+1+1+1,0,none⟩) n n]) (by simp [results,Tryz.results104,go_sem,e0,e1]) rfl ⟨_,rfl,Pz h6 (by omega) (B9 HOR.o (by simp <;> omega)) (NH HBP.o (by simp <;> omega)).2 _ _,(HBW.o.setCell (by simp <;> omega) _).setCell (by simp <;> omega) _⟩
end Go.Proofs.YtfffpjkcfnekaaaGreat.Ex
