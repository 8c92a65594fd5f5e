/- The lowest level, as who goes through commands makes it: slices.Repeat of one bool. -/
import Derived.Test.YtfffpjkcfnekaaaGreatF14
import Derived.Laws.CopyOwn
set_option linter.unusedVariables false
set_option maxHeartbeats 8000000
set_option maxRecDepth 100000
namespace Go.Proofs.YtfffpjkcfnekaaaGreat.Ex
open Go.RowKit
open Go.Value renaming slice -> O, int -> U, bool -> zg, agg -> zh, pointer -> zj, tuple -> zm
open Go.IntKind renaming i64 -> zd
open Go.Obj renaming cells -> ze
open Go.Ending renaming returned -> zk
theorem MT (z:Int) (hz:z=1\/z=2\/z=3\/z=4\/z=5\/z=6) (w:World):Calls Tryz.prog 240 #[U .u64 1,U .u64 z] w fun e w'=>e=zk (zm #[U .u64 0,U .u64 z])/\Ov w w':=by
 rcases hz with rfl | rfl | rfl | rfl | rfl | rfl
 all_goals
  go_enter Tryz.func240,Tryz.ntmps240
  go_wp2_with fail
  exact bodyPost_ret (v:=_) (by simp [results,Tryz.results240,go_sem];decide) rfl ⟨rfl,Below.refl _ _⟩
theorem E6 (z:Int) (hz:z=1\/z=2\/z=3\/z=4\/z=5\/z=6) (w:World):Calls Tryz.prog 212 #[U .u64 1,U .u64 z] w fun e w'=>e=zk (zm #[U .u64 0,U .u64 z])/\Ov w w':=by
 have K:=Aa (MT z hz)
 rcases hz with rfl | rfl | rfl | rfl | rfl | rfl
 all_goals
  go_enter Tryz.func212,Tryz.ntmps212
  go_wp2_with fail
  refine (K.o _).mono ?_
  rintro e w1 ⟨rfl,hb1⟩
  go_wp2_with fail
  exact bodyPost_ret (v:=_) (by simp [results,Tryz.results212,go_sem]) rfl ⟨rfl,hb1⟩
theorem sz4:(Tryz.prog.info? 4).map (·.size)=some 1:=by kernel_rfl
theorem D4 (W:World) (b j m k:Nat) (l l' cs:List Value) (z:Int) (hrow:W.heap[b]? = some (.cells l.toArray 4 (0,0))) (hn:cs.length=Nat.min j m:=by decide) (hp:l.take cs.length=cs:=by rfl) (hf:j+cs.length<=l.length:=by decide) (h1:∀ v∈cs,v=zg true:=by simp) (hz:goInt cs.length=U zd z:=by rfl) (hl:l.take j++cs++l.drop (j+cs.length)=l':=by rfl) :
  (Builtin.copy_ #[48,48] 3 #[O (some ⟨b,j,none⟩) m m,O (some ⟨b,0,none⟩) j k]).run Tryz.prog W=.ok (U zd z) (W.setRow b l'.toArray):=by
 have h:=run_copy_row (P:=Tryz.prog) W 48 48 3 4 b j m m ⟨b,0,none⟩ j k l.toArray 4 cs Tryz.underlying48 sz4 hrow hn (fun i v hv=>?_) (by simpa using hf) (fun v hv=>by rw [h1 v hv];rfl)
 ·rw [hz] at h
  rw [h,<-hl]
 ·have hb:=Lib.cell_of_heap hrow i
  rw [<-hp,List.getElem?_take] at hv
  split at hv
  ·have e:(⟨b,0,none⟩:Addr).add i=⟨b,i,none⟩:=by simp [Addr.add];omega
   rw [e,hb]
   simpa using hv
  ·simp at hv
theorem Kk {W:World} {g:Nat} (h:W.cell? ⟨g,0,none⟩=some (zg true)):∀ (j:Nat) (v:Value),([zg true]:List Value)[j]? = some v->W.cell? ((⟨g,0,none⟩:Addr).add j)=some v:=fun j v hj=>by
 rcases j with _ | j
 ·simp at hj;subst hj;simpa [Addr.add] using h
 ·simp at hj
theorem Pk (g:Nat) (w:World) (hlt:g < w.heap.size) (hg:w.cell? ⟨g,0,none⟩=some (zg true)):Calls Tryz.prog 165 #[O (some ⟨g,0,none⟩) 1 1,U zd 1] w fun e w'=>∃ v,e=zk v/\w'.ownsRow w.heap.size 4 1 v 1 [zg true]/\Ov w w':=by
 have K:=Aa (E6 1 (by decide))
 go_enter Tryz.func165,Tryz.ntmps165
 go_wp2_with fail
 refine (K.o _).mono ?_
 rintro e w1 ⟨rfl,hb1⟩
 have hs1:=hb1.size
 have hmk:(Instr.makeSlice 48 (U zd 1) (U zd 1)).run Tryz.prog w1=.ok (O (some ⟨w1.heap.size,0,none⟩) 1 1) (w1.alloc (ze #[zg false] 4)):=DD 1 (by decide) w1
 have hbz:=bA w1 (ze #[zg false] 4)
 have hcp:=Kk (Ab hbz _ _ (Ab hb1 _ _ hg))
 clear hg
 go_wp2_with (refine wpList_copy_splice rfl (.tmp 31) (.tmp 32) 48 48 rfl 4 Tryz.underlying48 sz4 (some ⟨w1.heap.size,0,none⟩) (some ⟨g,0,none⟩) 1 1 1 1 rfl rfl w1.heap.size 0 [zg false] 4 (heap_alloc_new w1 _) [zg true] (by decide) (fun _=>⟨rfl,_,rfl,hcp⟩) (by simp) (by simp [Value.oneCell']) w1.heap.size w1 hbz (Nat.le_refl _) ?_)
 intro w2 hrow hb2
 have hrow:=hrow.out
 simp [splice] at hrow
 clear hbz hmk hcp
 go_wp2_with fail
 go_loopw [8] (fun i wq=>((i=U zd 1/\wq.heap[w1.heap.size]? = some (ze #[zg true] 4 (0,0))))/\Ov w1 wq) (fun i _=>1 - (intOf i).toNat)
 case atStart=>exact ⟨⟨rfl,hrow⟩,hb2⟩
 case round=>
  clear hrow hb2
  obtain ⟨hh,hB⟩:=hrel
  rcases hh with ⟨rfl,hrow⟩
  ·have HROW:=Aa hrow
   clear hrow
   go_wp2_with fail
   exact bodyPost_ret (v:=O (some ⟨w1.heap.size,0,none⟩) 1 1) (by simp [results,Tryz.results165,go_sem]) rfl ⟨_,rfl,⟨rfl,Or.inr ⟨w1.heap.size,1,_,rfl,hs1,HROW.o,Nat.le_refl _,by decide,rfl,rfl⟩⟩,hb1.trans (hB.mono hs1)⟩
theorem Pj (g:Nat) (w:World) (hlt:g < w.heap.size) (hg:w.cell? ⟨g,0,none⟩=some (zg true)):Calls Tryz.prog 165 #[O (some ⟨g,0,none⟩) 1 1,U zd 2] w fun e w'=>∃ v,e=zk v/\w'.ownsRow w.heap.size 4 1 v 2 [zg true,zg true]/\Ov w w':=by
 have K:=Aa (E6 2 (by decide))
 go_enter Tryz.func165,Tryz.ntmps165
 go_wp2_with fail
 refine (K.o _).mono ?_
 rintro e w1 ⟨rfl,hb1⟩
 have hs1:=hb1.size
 have hmk:(Instr.makeSlice 48 (U zd 2) (U zd 2)).run Tryz.prog w1=.ok (O (some ⟨w1.heap.size,0,none⟩) 2 2) (w1.alloc (ze #[zg false,zg false] 4)):=DD 2 (by decide) w1
 have hbz:=bA w1 (ze #[zg false,zg false] 4)
 have hcp:=Kk (Ab hbz _ _ (Ab hb1 _ _ hg))
 clear hg
 go_wp2_with (refine wpList_copy_splice rfl (.tmp 31) (.tmp 32) 48 48 rfl 4 Tryz.underlying48 sz4 (some ⟨w1.heap.size,0,none⟩) (some ⟨g,0,none⟩) 2 2 1 1 rfl rfl w1.heap.size 0 [zg false,zg false] 4 (heap_alloc_new w1 _) [zg true] (by decide) (fun _=>⟨rfl,_,rfl,hcp⟩) (by simp) (by simp [Value.oneCell']) w1.heap.size w1 hbz (Nat.le_refl _) ?_)
 intro w2 hrow hb2
 have hrow:=hrow.out
 simp [splice] at hrow
 clear hbz hmk hcp
 go_wp2_with fail
 go_loopw [8] (fun i wq=>((i=U zd 1/\wq.heap[w1.heap.size]? = some (ze #[zg true,zg false] 4 (0,0)))\/(i=U zd 2/\wq.heap[w1.heap.size]? = some (ze #[zg true,zg true] 4 (0,0))))/\Ov w1 wq) (fun i _=>2 - (intOf i).toNat)
 case atStart=>exact ⟨Or.inl ⟨rfl,hrow⟩,hb2⟩
 case round=>
  clear hrow hb2
  obtain ⟨hh,hB⟩:=hrel
  rcases hh with ⟨rfl,hrow⟩ | ⟨rfl,hrow⟩
  ·have hcopy:=D4 wr.drew w1.heap.size 1 1 2 [zg true,zg false] [zg true,zg true] [zg true] 1 hrow
   have HROW:=Aa hrow
   clear hrow
   go_wp2_with fail
   go_region_with fail
   simp [Act.put]
   go_wp2_with fail
   refine ⟨⟨Or.inr (⟨by first | rfl | go_num,setRow_heap _ _ _ _ _ _ HROW.o⟩),below_setRow hB.drew (Nat.le_refl _) _⟩,by simp [intOf];decide⟩
  ·have HROW:=Aa hrow
   clear hrow
   go_wp2_with fail
   exact bodyPost_ret (v:=O (some ⟨w1.heap.size,0,none⟩) 2 2) (by simp [results,Tryz.results165,go_sem]) rfl ⟨_,rfl,⟨rfl,Or.inr ⟨w1.heap.size,2,_,rfl,hs1,HROW.o,Nat.le_refl _,by decide,rfl,rfl⟩⟩,hb1.trans (hB.mono hs1)⟩
theorem Pi (g:Nat) (w:World) (hlt:g < w.heap.size) (hg:w.cell? ⟨g,0,none⟩=some (zg true)):Calls Tryz.prog 165 #[O (some ⟨g,0,none⟩) 1 1,U zd 3] w fun e w'=>∃ v,e=zk v/\w'.ownsRow w.heap.size 4 1 v 3 [zg true,zg true,zg true]/\Ov w w':=by
 have K:=Aa (E6 3 (by decide))
 go_enter Tryz.func165,Tryz.ntmps165
 go_wp2_with fail
 refine (K.o _).mono ?_
 rintro e w1 ⟨rfl,hb1⟩
 have hs1:=hb1.size
 have hmk:(Instr.makeSlice 48 (U zd 3) (U zd 3)).run Tryz.prog w1=.ok (O (some ⟨w1.heap.size,0,none⟩) 3 3) (w1.alloc (ze #[zg false,zg false,zg false] 4)):=DD 3 (by decide) w1
 have hbz:=bA w1 (ze #[zg false,zg false,zg false] 4)
 have hcp:=Kk (Ab hbz _ _ (Ab hb1 _ _ hg))
 clear hg
 go_wp2_with (refine wpList_copy_splice rfl (.tmp 31) (.tmp 32) 48 48 rfl 4 Tryz.underlying48 sz4 (some ⟨w1.heap.size,0,none⟩) (some ⟨g,0,none⟩) 3 3 1 1 rfl rfl w1.heap.size 0 [zg false,zg false,zg false] 4 (heap_alloc_new w1 _) [zg true] (by decide) (fun _=>⟨rfl,_,rfl,hcp⟩) (by simp) (by simp [Value.oneCell']) w1.heap.size w1 hbz (Nat.le_refl _) ?_)
 intro w2 hrow hb2
 have hrow:=hrow.out
 simp [splice] at hrow
 clear hbz hmk hcp
 go_wp2_with fail
 go_loopw [8] (fun i wq=>((i=U zd 1/\wq.heap[w1.heap.size]? = some (ze #[zg true,zg false,zg false] 4 (0,0)))\/(i=U zd 2/\wq.heap[w1.heap.size]? = some (ze #[zg true,zg true,zg false] 4 (0,0)))\/(i=U zd 3/\wq.heap[w1.heap.size]? = some (ze #[zg true,zg true,zg true] 4 (0,0))))/\Ov w1 wq) (fun i _=>3 - (intOf i).toNat)
 case atStart=>exact ⟨Or.inl ⟨rfl,hrow⟩,hb2⟩
 case round=>
  clear hrow hb2
  obtain ⟨hh,hB⟩:=hrel
  rcases hh with ⟨rfl,hrow⟩ | ⟨rfl,hrow⟩ | ⟨rfl,hrow⟩
  ·have hcopy:=D4 wr.drew w1.heap.size 1 2 3 [zg true,zg false,zg false] [zg true,zg true,zg false] [zg true] 1 hrow
   have HROW:=Aa hrow
   clear hrow
   go_wp2_with fail
   go_region_with fail
   simp [Act.put]
   go_wp2_with fail
   refine ⟨⟨Or.inr (Or.inl (⟨by first | rfl | go_num,setRow_heap _ _ _ _ _ _ HROW.o⟩)),below_setRow hB.drew (Nat.le_refl _) _⟩,by simp [intOf];decide⟩
  ·have hcopy:=D4 wr.drew w1.heap.size 2 1 3 [zg true,zg true,zg false] [zg true,zg true,zg true] [zg true] 1 hrow
   have HROW:=Aa hrow
   clear hrow
   go_wp2_with fail
   go_region_with fail
   simp [Act.put]
   go_wp2_with fail
   refine ⟨⟨Or.inr (Or.inr (⟨by first | rfl | go_num,setRow_heap _ _ _ _ _ _ HROW.o⟩)),below_setRow hB.drew (Nat.le_refl _) _⟩,by simp [intOf];decide⟩
  ·have HROW:=Aa hrow
   clear hrow
   go_wp2_with fail
   exact bodyPost_ret (v:=O (some ⟨w1.heap.size,0,none⟩) 3 3) (by simp [results,Tryz.results165,go_sem]) rfl ⟨_,rfl,⟨rfl,Or.inr ⟨w1.heap.size,3,_,rfl,hs1,HROW.o,Nat.le_refl _,by decide,rfl,rfl⟩⟩,hb1.trans (hB.mono hs1)⟩
theorem Ph (g:Nat) (w:World) (hlt:g < w.heap.size) (hg:w.cell? ⟨g,0,none⟩=some (zg true)):Calls Tryz.prog 165 #[O (some ⟨g,0,none⟩) 1 1,U zd 4] w fun e w'=>∃ v,e=zk v/\w'.ownsRow w.heap.size 4 1 v 4 [zg true,zg true,zg true,zg true]/\Ov w w':=by
 have K:=Aa (E6 4 (by decide))
 go_enter Tryz.func165,Tryz.ntmps165
 go_wp2_with fail
 refine (K.o _).mono ?_
 rintro e w1 ⟨rfl,hb1⟩
 have hs1:=hb1.size
 have hmk:(Instr.makeSlice 48 (U zd 4) (U zd 4)).run Tryz.prog w1=.ok (O (some ⟨w1.heap.size,0,none⟩) 4 4) (w1.alloc (ze #[zg false,zg false,zg false,zg false] 4)):=DD 4 (by decide) w1
 have hbz:=bA w1 (ze #[zg false,zg false,zg false,zg false] 4)
 have hcp:=Kk (Ab hbz _ _ (Ab hb1 _ _ hg))
 clear hg
 go_wp2_with (refine wpList_copy_splice rfl (.tmp 31) (.tmp 32) 48 48 rfl 4 Tryz.underlying48 sz4 (some ⟨w1.heap.size,0,none⟩) (some ⟨g,0,none⟩) 4 4 1 1 rfl rfl w1.heap.size 0 [zg false,zg false,zg false,zg false] 4 (heap_alloc_new w1 _) [zg true] (by decide) (fun _=>⟨rfl,_,rfl,hcp⟩) (by simp) (by simp [Value.oneCell']) w1.heap.size w1 hbz (Nat.le_refl _) ?_)
 intro w2 hrow hb2
 have hrow:=hrow.out
 simp [splice] at hrow
 clear hbz hmk hcp
 go_wp2_with fail
 go_loopw [8] (fun i wq=>((i=U zd 1/\wq.heap[w1.heap.size]? = some (ze #[zg true,zg false,zg false,zg false] 4 (0,0)))\/(i=U zd 2/\wq.heap[w1.heap.size]? = some (ze #[zg true,zg true,zg false,zg false] 4 (0,0)))\/(i=U zd 4/\wq.heap[w1.heap.size]? = some (ze #[zg true,zg true,zg true,zg true] 4 (0,0))))/\Ov w1 wq) (fun i _=>4 - (intOf i).toNat)
 case atStart=>exact ⟨Or.inl ⟨rfl,hrow⟩,hb2⟩
 case round=>
  clear hrow hb2
  obtain ⟨hh,hB⟩:=hrel
  rcases hh with ⟨rfl,hrow⟩ | ⟨rfl,hrow⟩ | ⟨rfl,hrow⟩
  ·have hcopy:=D4 wr.drew w1.heap.size 1 3 4 [zg true,zg false,zg false,zg false] [zg true,zg true,zg false,zg false] [zg true] 1 hrow
   have HROW:=Aa hrow
   clear hrow
   go_wp2_with fail
   go_region_with fail
   simp [Act.put]
   go_wp2_with fail
   refine ⟨⟨Or.inr (Or.inl (⟨by first | rfl | go_num,setRow_heap _ _ _ _ _ _ HROW.o⟩)),below_setRow hB.drew (Nat.le_refl _) _⟩,by simp [intOf];decide⟩
  ·have hcopy:=D4 wr.drew w1.heap.size 2 2 4 [zg true,zg true,zg false,zg false] [zg true,zg true,zg true,zg true] [zg true,zg true] 2 hrow
   have HROW:=Aa hrow
   clear hrow
   go_wp2_with fail
   go_region_with fail
   simp [Act.put]
   go_wp2_with fail
   refine ⟨⟨Or.inr (Or.inr (⟨by first | rfl | go_num,setRow_heap _ _ _ _ _ _ HROW.o⟩)),below_setRow hB.drew (Nat.le_refl _) _⟩,by simp [intOf];decide⟩
  ·have HROW:=Aa hrow
   clear hrow
   go_wp2_with fail
   exact bodyPost_ret (v:=O (some ⟨w1.heap.size,0,none⟩) 4 4) (by simp [results,Tryz.results165,go_sem]) rfl ⟨_,rfl,⟨rfl,Or.inr ⟨w1.heap.size,4,_,rfl,hs1,HROW.o,Nat.le_refl _,by decide,rfl,rfl⟩⟩,hb1.trans (hB.mono hs1)⟩
theorem Pg (g:Nat) (w:World) (hlt:g < w.heap.size) (hg:w.cell? ⟨g,0,none⟩=some (zg true)):Calls Tryz.prog 165 #[O (some ⟨g,0,none⟩) 1 1,U zd 5] w fun e w'=>∃ v,e=zk v/\w'.ownsRow w.heap.size 4 1 v 5 [zg true,zg true,zg true,zg true,zg true]/\Ov w w':=by
 have K:=Aa (E6 5 (by decide))
 go_enter Tryz.func165,Tryz.ntmps165
 go_wp2_with fail
 refine (K.o _).mono ?_
 rintro e w1 ⟨rfl,hb1⟩
 have hs1:=hb1.size
 have hmk:(Instr.makeSlice 48 (U zd 5) (U zd 5)).run Tryz.prog w1=.ok (O (some ⟨w1.heap.size,0,none⟩) 5 5) (w1.alloc (ze #[zg false,zg false,zg false,zg false,zg false] 4)):=DD 5 (by decide) w1
 have hbz:=bA w1 (ze #[zg false,zg false,zg false,zg false,zg false] 4)
 have hcp:=Kk (Ab hbz _ _ (Ab hb1 _ _ hg))
 clear hg
 go_wp2_with (refine wpList_copy_splice rfl (.tmp 31) (.tmp 32) 48 48 rfl 4 Tryz.underlying48 sz4 (some ⟨w1.heap.size,0,none⟩) (some ⟨g,0,none⟩) 5 5 1 1 rfl rfl w1.heap.size 0 [zg false,zg false,zg false,zg false,zg false] 4 (heap_alloc_new w1 _) [zg true] (by decide) (fun _=>⟨rfl,_,rfl,hcp⟩) (by simp) (by simp [Value.oneCell']) w1.heap.size w1 hbz (Nat.le_refl _) ?_)
 intro w2 hrow hb2
 have hrow:=hrow.out
 simp [splice] at hrow
 clear hbz hmk hcp
 go_wp2_with fail
 go_loopw [8] (fun i wq=>((i=U zd 1/\wq.heap[w1.heap.size]? = some (ze #[zg true,zg false,zg false,zg false,zg false] 4 (0,0)))\/(i=U zd 2/\wq.heap[w1.heap.size]? = some (ze #[zg true,zg true,zg false,zg false,zg false] 4 (0,0)))\/(i=U zd 4/\wq.heap[w1.heap.size]? = some (ze #[zg true,zg true,zg true,zg true,zg false] 4 (0,0)))\/(i=U zd 5/\wq.heap[w1.heap.size]? = some (ze #[zg true,zg true,zg true,zg true,zg true] 4 (0,0))))/\Ov w1 wq) (fun i _=>5 - (intOf i).toNat)
 case atStart=>exact ⟨Or.inl ⟨rfl,hrow⟩,hb2⟩
 case round=>
  clear hrow hb2
  obtain ⟨hh,hB⟩:=hrel
  rcases hh with ⟨rfl,hrow⟩ | ⟨rfl,hrow⟩ | ⟨rfl,hrow⟩ | ⟨rfl,hrow⟩
  ·have hcopy:=D4 wr.drew w1.heap.size 1 4 5 [zg true,zg false,zg false,zg false,zg false] [zg true,zg true,zg false,zg false,zg false] [zg true] 1 hrow
   have HROW:=Aa hrow
   clear hrow
   go_wp2_with fail
   go_region_with fail
   simp [Act.put]
   go_wp2_with fail
   refine ⟨⟨Or.inr (Or.inl (⟨by first | rfl | go_num,setRow_heap _ _ _ _ _ _ HROW.o⟩)),below_setRow hB.drew (Nat.le_refl _) _⟩,by simp [intOf];decide⟩
  ·have hcopy:=D4 wr.drew w1.heap.size 2 3 5 [zg true,zg true,zg false,zg false,zg false] [zg true,zg true,zg true,zg true,zg false] [zg true,zg true] 2 hrow
   have HROW:=Aa hrow
   clear hrow
   go_wp2_with fail
   go_region_with fail
   simp [Act.put]
   go_wp2_with fail
   refine ⟨⟨Or.inr (Or.inr (Or.inl (⟨by first | rfl | go_num,setRow_heap _ _ _ _ _ _ HROW.o⟩))),below_setRow hB.drew (Nat.le_refl _) _⟩,by simp [intOf];decide⟩
  ·have hcopy:=D4 wr.drew w1.heap.size 4 1 5 [zg true,zg true,zg true,zg true,zg false] [zg true,zg true,zg true,zg true,zg true] [zg true] 1 hrow
   have HROW:=Aa hrow
   clear hrow
   go_wp2_with fail
   go_region_with fail
   simp [Act.put]
   go_wp2_with fail
   refine ⟨⟨Or.inr (Or.inr (Or.inr (⟨by first | rfl | go_num,setRow_heap _ _ _ _ _ _ HROW.o⟩))),below_setRow hB.drew (Nat.le_refl _) _⟩,by simp [intOf];decide⟩
  ·have HROW:=Aa hrow
   clear hrow
   go_wp2_with fail
   exact bodyPost_ret (v:=O (some ⟨w1.heap.size,0,none⟩) 5 5) (by simp [results,Tryz.results165,go_sem]) rfl ⟨_,rfl,⟨rfl,Or.inr ⟨w1.heap.size,5,_,rfl,hs1,HROW.o,Nat.le_refl _,by decide,rfl,rfl⟩⟩,hb1.trans (hB.mono hs1)⟩
theorem Pf (g:Nat) (w:World) (hlt:g < w.heap.size) (hg:w.cell? ⟨g,0,none⟩=some (zg true)):Calls Tryz.prog 165 #[O (some ⟨g,0,none⟩) 1 1,U zd 6] w fun e w'=>∃ v,e=zk v/\w'.ownsRow w.heap.size 4 1 v 6 [zg true,zg true,zg true,zg true,zg true,zg true]/\Ov w w':=by
 have K:=Aa (E6 6 (by decide))
 go_enter Tryz.func165,Tryz.ntmps165
 go_wp2_with fail
 refine (K.o _).mono ?_
 rintro e w1 ⟨rfl,hb1⟩
 have hs1:=hb1.size
 have hmk:(Instr.makeSlice 48 (U zd 6) (U zd 6)).run Tryz.prog w1=.ok (O (some ⟨w1.heap.size,0,none⟩) 6 6) (w1.alloc (ze #[zg false,zg false,zg false,zg false,zg false,zg false] 4)):=DD 6 (by decide) w1
 have hbz:=bA w1 (ze #[zg false,zg false,zg false,zg false,zg false,zg false] 4)
 have hcp:=Kk (Ab hbz _ _ (Ab hb1 _ _ hg))
 clear hg
 go_wp2_with (refine wpList_copy_splice rfl (.tmp 31) (.tmp 32) 48 48 rfl 4 Tryz.underlying48 sz4 (some ⟨w1.heap.size,0,none⟩) (some ⟨g,0,none⟩) 6 6 1 1 rfl rfl w1.heap.size 0 [zg false,zg false,zg false,zg false,zg false,zg false] 4 (heap_alloc_new w1 _) [zg true] (by decide) (fun _=>⟨rfl,_,rfl,hcp⟩) (by simp) (by simp [Value.oneCell']) w1.heap.size w1 hbz (Nat.le_refl _) ?_)
 intro w2 hrow hb2
 have hrow:=hrow.out
 simp [splice] at hrow
 clear hbz hmk hcp
 go_wp2_with fail
 go_loopw [8] (fun i wq=>((i=U zd 1/\wq.heap[w1.heap.size]? = some (ze #[zg true,zg false,zg false,zg false,zg false,zg false] 4 (0,0)))\/(i=U zd 2/\wq.heap[w1.heap.size]? = some (ze #[zg true,zg true,zg false,zg false,zg false,zg false] 4 (0,0)))\/(i=U zd 4/\wq.heap[w1.heap.size]? = some (ze #[zg true,zg true,zg true,zg true,zg false,zg false] 4 (0,0)))\/(i=U zd 6/\wq.heap[w1.heap.size]? = some (ze #[zg true,zg true,zg true,zg true,zg true,zg true] 4 (0,0))))/\Ov w1 wq) (fun i _=>6 - (intOf i).toNat)
 case atStart=>exact ⟨Or.inl ⟨rfl,hrow⟩,hb2⟩
 case round=>
  clear hrow hb2
  obtain ⟨hh,hB⟩:=hrel
  rcases hh with ⟨rfl,hrow⟩ | ⟨rfl,hrow⟩ | ⟨rfl,hrow⟩ | ⟨rfl,hrow⟩
  ·have hcopy:=D4 wr.drew w1.heap.size 1 5 6 [zg true,zg false,zg false,zg false,zg false,zg false] [zg true,zg true,zg false,zg false,zg false,zg false] [zg true] 1 hrow
   have HROW:=Aa hrow
   clear hrow
   go_wp2_with fail
   go_region_with fail
   simp [Act.put]
   go_wp2_with fail
   refine ⟨⟨Or.inr (Or.inl (⟨by first | rfl | go_num,setRow_heap _ _ _ _ _ _ HROW.o⟩)),below_setRow hB.drew (Nat.le_refl _) _⟩,by simp [intOf];decide⟩
  ·have hcopy:=D4 wr.drew w1.heap.size 2 4 6 [zg true,zg true,zg false,zg false,zg false,zg false] [zg true,zg true,zg true,zg true,zg false,zg false] [zg true,zg true] 2 hrow
   have HROW:=Aa hrow
   clear hrow
   go_wp2_with fail
   go_region_with fail
   simp [Act.put]
   go_wp2_with fail
   refine ⟨⟨Or.inr (Or.inr (Or.inl (⟨by first | rfl | go_num,setRow_heap _ _ _ _ _ _ HROW.o⟩))),below_setRow hB.drew (Nat.le_refl _) _⟩,by simp [intOf];decide⟩
  ·have hcopy:=D4 wr.drew w1.heap.size 4 2 6 [zg true,zg true,zg true,zg true,zg false,zg false] [zg true,zg true,zg true,zg true,zg true,zg true] [zg true,zg true] 2 hrow
   have HROW:=Aa hrow
   clear hrow
   go_wp2_with fail
   go_region_with fail
   simp [Act.put]
   go_wp2_with fail
   refine ⟨⟨Or.inr (Or.inr (Or.inr (⟨by first | rfl | go_num,setRow_heap _ _ _ _ _ _ HROW.o⟩))),below_setRow hB.drew (Nat.le_refl _) _⟩,by simp [intOf];decide⟩
  ·have HROW:=Aa hrow
   clear hrow
   go_wp2_with fail
   exact bodyPost_ret (v:=O (some ⟨w1.heap.size,0,none⟩) 6 6) (by simp [results,Tryz.results165,go_sem]) rfl ⟨_,rfl,⟨rfl,Or.inr ⟨w1.heap.size,6,_,rfl,hs1,HROW.o,Nat.le_refl _,by decide,rfl,rfl⟩⟩,hb1.trans (hB.mono hs1)⟩
theorem MO (n:Nat) (h1:1<=n) (h6:n<=6) (g:Nat) (w:World) (hlt:g < w.heap.size) (hg:w.cell? ⟨g,0,none⟩=some (zg true)):Calls Tryz.prog 165 #[O (some ⟨g,0,none⟩) 1 1,U zd n] w fun e w'=>∃ v,e=zk v/\w'.ownsRow w.heap.size 4 1 v n (List.replicate n (zg true))/\Ov w w':=by
 rcases (by omega:n=1\/n=2\/n=3\/n=4\/n=5\/n=6) with rfl | rfl | rfl | rfl | rfl | rfl
 ·exact Pk g w hlt hg
 ·exact Pj g w hlt hg
 ·exact Pi g w hlt hg
 ·exact Ph g w hlt hg
 ·exact Pg g w hlt hg
 ·exact Pf g w hlt hg
end Go.Proofs.YtfffpjkcfnekaaaGreat.Ex
