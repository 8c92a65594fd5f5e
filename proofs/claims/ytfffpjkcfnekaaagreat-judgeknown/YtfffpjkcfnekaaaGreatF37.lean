/- A run of any program: where the commands begin. -/
import Derived.Laws.EntriesVeiled
import Derived.Test.YtfffpjkcfnekaaaGreatF36
import Derived.Test.YtfffpjkcfnekaaaGreatF34
set_option linter.unusedVariables false
set_option maxHeartbeats 8000000
set_option maxRecDepth 100000
namespace Go.Proofs.YtfffpjkcfnekaaaGreat.Ex
open Go.RowKit
open Go.Value renaming slice -> O, int -> U, bool -> zg, agg -> zh, pointer -> zj, tuple -> zm
open Go.IntKind renaming i64 -> zd
open Go.Obj renaming cells -> ze
open Go.Ending renaming returned -> zk
theorem CP {cs:List Value} {w w':World} {b:Nat} {a:Array Value} {t:Nat} (ha:a.toList=cs) (hb:b=w.heap.size) (hw:Ov (w.alloc (.cells a t)) w'):Ae cs w' b:=by
 subst hb
 rw [<-ha]
 exact (Ae.newA a t w).over hw
theorem Oj (w:World):Calls Tryz.prog 38 #[] w fun e w'=>∃ bi bo bv bm,e=zk (DX bi bo bv bm)/\D7 bi bo bv bm w'/\Ov w w'/\(w.heap.size < bi/\bi < bo/\bo < bv/\bv < bm/\bm < w'.heap.size)/\∀ j,w'.frozen? ⟨bi,j,none⟩=false:=by
 go_enter Tryz.func38,Tryz.ntmps38
 go_wp2_with fail
 have hbr:=fun (W:World) (o:Obj)=>bA W o
 refine bodyPost_ret (v:=DX (w.heap.size+1) (w.heap.size+1+1) (w.heap.size+1+1+1) (w.heap.size+1+1+1+1)) (by simp [results,Tryz.results38,go_sem]) rfl ⟨_,_,_,_,rfl,⟨?_,?_,?_,?_⟩,?_,?_,?_⟩
 ·exact CP rfl (by simp) (Ac (Ac (hbr _ _) (hbr _ _)) (hbr _ _))
 ·exact CP rfl (by simp) (Ac (hbr _ _) (hbr _ _))
 ·exact CP rfl (by simp) (hbr _ _)
 ·exact CP rfl (by simp) (Below.refl _ _)
 ·exact Ac (Ac (Ac (Ac (hbr _ _) (hbr _ _)) (hbr _ _)) (hbr _ _)) (hbr _ _)
 ·refine ⟨by omega,by omega,by omega,by omega,by simp⟩
 ·intro j
  simp [go_sem]
structure Bad (bi bo bv bm bp:Nat) (w:World):Prop where
 ins:Ae [O (some ⟨bp,0,none⟩) 1 1,O none 0 0] w bi
 pol:Ae [U zd 0,O none 0 0] w bp
 outs:Ae [O none 0 0,O none 0 0] w bo
 vars:Ae [zg false,O none 0 0,O none 0 0] w bv
 main:Ae CK w bm
abbrev Nk (bi bo bv bm:Nat):Value:=zh #[U zd 2,O none 0 0,O none 0 0,O (some ⟨bi,0,none⟩) 1 1,O (some ⟨bo,0,none⟩) 1 1,O (some ⟨bv,0,none⟩) 1 1,O none 0 0,O (some ⟨bm,0,none⟩) 2 2]
def PH (w:World) (e:Ending) (w':World):Prop:=∃ bi bo bv bm bp,e=zk (Nk bi bo bv bm)/\Bad bi bo bv bm bp w'/\Ov w w'
theorem JK (w:World):Calls Tryz.prog 39 #[] w (PH w):=by
 have hbel:Ov w (w.alloc (ze #[U zd 0,O none 0 0,O none 0 0,O none 0 0,O none 0 0,O none 0 0,O none 0 0,O none 0 0] 31)):=bA w _
 have hrow:=Ae.newA #[U zd 0,O none 0 0,O none 0 0,O none 0 0,O none 0 0,O none 0 0,O none 0 0,O none 0 0] 31 w
 have hz:∀ j,(w.alloc (ze #[U zd 0,O none 0 0,O none 0 0,O none 0 0,O none 0 0,O none 0 0,O none 0 0,O none 0 0] 31)).frozen? ⟨w.heap.size,j,none⟩=false:=fun j=>by simp [go_sem]
 have K1:=Aa (Oj (w.alloc (ze #[U zd 0,O none 0 0,O none 0 0,O none 0 0,O none 0 0,O none 0 0,O none 0 0,O none 0 0] 31)))
 have HB:=Aa hbel
 have HR:=Aa hrow
 have HZ:=Aa hz
 clear hbel hrow hz
 unfold PH
 go_enter Tryz.func39,Tryz.ntmps39
 go_wp2_with fail
 refine (K1.o).mono ?_
 rintro e w2 ⟨bi,bo,bv,bm,rfl,hS,hb2,⟨l0,l1,l2,l3,l4⟩,hzi⟩
 have hsz:(w.alloc (ze #[U zd 0,O none 0 0,O none 0 0,O none 0 0,O none 0 0,O none 0 0,O none 0 0,O none 0 0] 31)).heap.size=w.heap.size+1:=by simp
 have hB2:=HB.o.trans (hb2.mono HB.o.size)
 have hr2:=HR.o.over hb2
 have hz2:∀ j,w2.frozen? ⟨w.heap.size,j,none⟩=false:=fun j=>((Al hb2).2 _ _ (by rw [hsz];omega)).trans (HZ.o j)
 have n1:bi≠w2.heap.size:=by omega
 have n2:w.heap.size≠w2.heap.size:=by omega
 have n3:w.heap.size≠bi:=by omega
 have n4:bi≠w2.heap.size+1:=by omega
 have n5:w.heap.size≠w2.heap.size+1:=by omega
 have b1:bi < w2.heap.size:=by omega
 have b2:w.heap.size < w2.heap.size:=by omega
 obtain ⟨c0,c1⟩:=rc2 hS.ins
 have z0:=hzi 0
 have z1:=hzi 1
 have r0:=hr2 0 _ rfl
 have y0:=hz2 0
 have r1:=hr2 1 _ rfl
 have y1:=hz2 1
 have r2:=hr2 2 _ rfl
 have y2:=hz2 2
 have r3:=hr2 3 _ rfl
 have y3:=hz2 3
 have r4:=hr2 4 _ rfl
 have y4:=hz2 4
 have r5:=hr2 5 _ rfl
 have y5:=hz2 5
 have r6:=hr2 6 _ rfl
 have y6:=hz2 6
 have r7:=hr2 7 _ rfl
 have y7:=hz2 7
 have HS:=Aa hS
 have HB2:=Aa hB2
 have HR2:=Aa hr2
 have L0:=Aa l0
 have L1:=Aa l1
 have L2:=Aa l2
 have L3:=Aa l3
 have L4:=Aa l4
 clear hS hB2 hr2 hz2 hzi hb2 K1 l0 l1 l2 l3 l4 hsz
 unfold DX
 go_wp2_with fail
 have hbr:=fun (W:World) (o:Obj)=>bA W o
 have l0:=L0.o
 have l1:=L1.o
 have l2:=L2.o
 have l3:=L3.o
 have l4:=L4.o
 simp at l0
 have hsz:(((((((((w2.setCell ⟨bi,0,none⟩ (O (some ⟨w2.heap.size+1,0,none⟩) 1 1)).setCell ⟨w.heap.size,0,none⟩ (U zd 2)).setCell ⟨w.heap.size,1,none⟩ (O none 0 0)).setCell ⟨w.heap.size,2,none⟩ (O none 0 0)).setCell ⟨w.heap.size,3,none⟩ (O (some ⟨bi,0,none⟩) 1 1)).setCell ⟨w.heap.size,4,none⟩ (O (some ⟨bo,0,none⟩) 1 1)).setCell ⟨w.heap.size,5,none⟩ (O (some ⟨bv,0,none⟩) 1 1)).setCell ⟨w.heap.size,6,none⟩ (O none 0 0)).setCell ⟨w.heap.size,7,none⟩ (O (some ⟨bm,0,none⟩) 2 2)).heap.size=w2.heap.size:=by simp [World.setCell]
 have hF:=(((((((((((HR2.o.other (b':=bi) (j:=0) (v:=O (some ⟨w2.heap.size+1,0,none⟩) 1 1) n3).set (j:=0) (v:=U zd 2) (by simp)).set (j:=1) (v:=O none 0 0) (by simp)).set (j:=2) (v:=O none 0 0) (by simp)).set (j:=3) (v:=O (some ⟨bi,0,none⟩) 1 1) (by simp)).set (j:=4) (v:=O (some ⟨bo,0,none⟩) 1 1) (by simp)).set (j:=5) (v:=O (some ⟨bv,0,none⟩) 1 1) (by simp)).set (j:=6) (v:=O none 0 0) (by simp)).set (j:=7) (v:=O (some ⟨bm,0,none⟩) 2 2) (by simp)).over (hbr _ (ze #[U zd 2,O none 0 0,O none 0 0,O (some ⟨bi,0,none⟩) 1 1,O (some ⟨bo,0,none⟩) 1 1,O (some ⟨bv,0,none⟩) 1 1,O none 0 0,O (some ⟨bm,0,none⟩) 2 2] 31))).over (hbr _ (ze #[U zd 0,O none 0 0] 87)))
 have hin:=(((((((((((HS.o.ins.set (j:=0) (v:=O (some ⟨w2.heap.size+1,0,none⟩) 1 1) (by simp)).other (b':=w.heap.size) (j:=0) (v:=U zd 2) (by omega)).other (b':=w.heap.size) (j:=1) (v:=O none 0 0) (by omega)).other (b':=w.heap.size) (j:=2) (v:=O none 0 0) (by omega)).other (b':=w.heap.size) (j:=3) (v:=O (some ⟨bi,0,none⟩) 1 1) (by omega)).other (b':=w.heap.size) (j:=4) (v:=O (some ⟨bo,0,none⟩) 1 1) (by omega)).other (b':=w.heap.size) (j:=5) (v:=O (some ⟨bv,0,none⟩) 1 1) (by omega)).other (b':=w.heap.size) (j:=6) (v:=O none 0 0) (by omega)).other (b':=w.heap.size) (j:=7) (v:=O (some ⟨bm,0,none⟩) 2 2) (by omega)).over (hbr _ (ze #[U zd 2,O none 0 0,O none 0 0,O (some ⟨bi,0,none⟩) 1 1,O (some ⟨bo,0,none⟩) 1 1,O (some ⟨bv,0,none⟩) 1 1,O none 0 0,O (some ⟨bm,0,none⟩) 2 2] 31))).over (hbr _ (ze #[U zd 0,O none 0 0] 87)))
 have hpl:Ae [U zd 0,O none 0 0] (((((((((((w2.setCell ⟨bi,0,none⟩ (O (some ⟨w2.heap.size+1,0,none⟩) 1 1)).setCell ⟨w.heap.size,0,none⟩ (U zd 2)).setCell ⟨w.heap.size,1,none⟩ (O none 0 0)).setCell ⟨w.heap.size,2,none⟩ (O none 0 0)).setCell ⟨w.heap.size,3,none⟩ (O (some ⟨bi,0,none⟩) 1 1)).setCell ⟨w.heap.size,4,none⟩ (O (some ⟨bo,0,none⟩) 1 1)).setCell ⟨w.heap.size,5,none⟩ (O (some ⟨bv,0,none⟩) 1 1)).setCell ⟨w.heap.size,6,none⟩ (O none 0 0)).setCell ⟨w.heap.size,7,none⟩ (O (some ⟨bm,0,none⟩) 2 2)).alloc (ze #[U zd 2,O none 0 0,O none 0 0,O (some ⟨bi,0,none⟩) 1 1,O (some ⟨bo,0,none⟩) 1 1,O (some ⟨bv,0,none⟩) 1 1,O none 0 0,O (some ⟨bm,0,none⟩) 2 2] 31)).alloc (ze #[U zd 0,O none 0 0] 87)) (w2.heap.size+1):=by
  have:=Ae.newA #[U zd 0,O none 0 0] 87 ((((((((((w2.setCell ⟨bi,0,none⟩ (O (some ⟨w2.heap.size+1,0,none⟩) 1 1)).setCell ⟨w.heap.size,0,none⟩ (U zd 2)).setCell ⟨w.heap.size,1,none⟩ (O none 0 0)).setCell ⟨w.heap.size,2,none⟩ (O none 0 0)).setCell ⟨w.heap.size,3,none⟩ (O (some ⟨bi,0,none⟩) 1 1)).setCell ⟨w.heap.size,4,none⟩ (O (some ⟨bo,0,none⟩) 1 1)).setCell ⟨w.heap.size,5,none⟩ (O (some ⟨bv,0,none⟩) 1 1)).setCell ⟨w.heap.size,6,none⟩ (O none 0 0)).setCell ⟨w.heap.size,7,none⟩ (O (some ⟨bm,0,none⟩) 2 2)).alloc (ze #[U zd 2,O none 0 0,O none 0 0,O (some ⟨bi,0,none⟩) 1 1,O (some ⟨bo,0,none⟩) 1 1,O (some ⟨bv,0,none⟩) 1 1,O none 0 0,O (some ⟨bm,0,none⟩) 2 2] 31))
  simpa [World.setCell] using this
 have hou:=(((((((((((HS.o.outs.other (b':=bi) (j:=0) (v:=O (some ⟨w2.heap.size+1,0,none⟩) 1 1) (by omega)).other (b':=w.heap.size) (j:=0) (v:=U zd 2) (by omega)).other (b':=w.heap.size) (j:=1) (v:=O none 0 0) (by omega)).other (b':=w.heap.size) (j:=2) (v:=O none 0 0) (by omega)).other (b':=w.heap.size) (j:=3) (v:=O (some ⟨bi,0,none⟩) 1 1) (by omega)).other (b':=w.heap.size) (j:=4) (v:=O (some ⟨bo,0,none⟩) 1 1) (by omega)).other (b':=w.heap.size) (j:=5) (v:=O (some ⟨bv,0,none⟩) 1 1) (by omega)).other (b':=w.heap.size) (j:=6) (v:=O none 0 0) (by omega)).other (b':=w.heap.size) (j:=7) (v:=O (some ⟨bm,0,none⟩) 2 2) (by omega)).over (hbr _ (ze #[U zd 2,O none 0 0,O none 0 0,O (some ⟨bi,0,none⟩) 1 1,O (some ⟨bo,0,none⟩) 1 1,O (some ⟨bv,0,none⟩) 1 1,O none 0 0,O (some ⟨bm,0,none⟩) 2 2] 31))).over (hbr _ (ze #[U zd 0,O none 0 0] 87)))
 have hva:=(((((((((((HS.o.vars.other (b':=bi) (j:=0) (v:=O (some ⟨w2.heap.size+1,0,none⟩) 1 1) (by omega)).other (b':=w.heap.size) (j:=0) (v:=U zd 2) (by omega)).other (b':=w.heap.size) (j:=1) (v:=O none 0 0) (by omega)).other (b':=w.heap.size) (j:=2) (v:=O none 0 0) (by omega)).other (b':=w.heap.size) (j:=3) (v:=O (some ⟨bi,0,none⟩) 1 1) (by omega)).other (b':=w.heap.size) (j:=4) (v:=O (some ⟨bo,0,none⟩) 1 1) (by omega)).other (b':=w.heap.size) (j:=5) (v:=O (some ⟨bv,0,none⟩) 1 1) (by omega)).other (b':=w.heap.size) (j:=6) (v:=O none 0 0) (by omega)).other (b':=w.heap.size) (j:=7) (v:=O (some ⟨bm,0,none⟩) 2 2) (by omega)).over (hbr _ (ze #[U zd 2,O none 0 0,O none 0 0,O (some ⟨bi,0,none⟩) 1 1,O (some ⟨bo,0,none⟩) 1 1,O (some ⟨bv,0,none⟩) 1 1,O none 0 0,O (some ⟨bm,0,none⟩) 2 2] 31))).over (hbr _ (ze #[U zd 0,O none 0 0] 87)))
 have hma:=(((((((((((HS.o.main.other (b':=bi) (j:=0) (v:=O (some ⟨w2.heap.size+1,0,none⟩) 1 1) (by omega)).other (b':=w.heap.size) (j:=0) (v:=U zd 2) (by omega)).other (b':=w.heap.size) (j:=1) (v:=O none 0 0) (by omega)).other (b':=w.heap.size) (j:=2) (v:=O none 0 0) (by omega)).other (b':=w.heap.size) (j:=3) (v:=O (some ⟨bi,0,none⟩) 1 1) (by omega)).other (b':=w.heap.size) (j:=4) (v:=O (some ⟨bo,0,none⟩) 1 1) (by omega)).other (b':=w.heap.size) (j:=5) (v:=O (some ⟨bv,0,none⟩) 1 1) (by omega)).other (b':=w.heap.size) (j:=6) (v:=O none 0 0) (by omega)).other (b':=w.heap.size) (j:=7) (v:=O (some ⟨bm,0,none⟩) 2 2) (by omega)).over (hbr _ (ze #[U zd 2,O none 0 0,O none 0 0,O (some ⟨bi,0,none⟩) 1 1,O (some ⟨bo,0,none⟩) 1 1,O (some ⟨bv,0,none⟩) 1 1,O none 0 0,O (some ⟨bm,0,none⟩) 2 2] 31))).over (hbr _ (ze #[U zd 0,O none 0 0] 87)))
 obtain ⟨e0,e1,e2,e3,e4,e5,e6,e7⟩:=rc8 hF
 have hBf:Ov w (((((((((((w2.setCell ⟨bi,0,none⟩ (O (some ⟨w2.heap.size+1,0,none⟩) 1 1)).setCell ⟨w.heap.size,0,none⟩ (U zd 2)).setCell ⟨w.heap.size,1,none⟩ (O none 0 0)).setCell ⟨w.heap.size,2,none⟩ (O none 0 0)).setCell ⟨w.heap.size,3,none⟩ (O (some ⟨bi,0,none⟩) 1 1)).setCell ⟨w.heap.size,4,none⟩ (O (some ⟨bo,0,none⟩) 1 1)).setCell ⟨w.heap.size,5,none⟩ (O (some ⟨bv,0,none⟩) 1 1)).setCell ⟨w.heap.size,6,none⟩ (O none 0 0)).setCell ⟨w.heap.size,7,none⟩ (O (some ⟨bm,0,none⟩) 2 2)).alloc (ze #[U zd 2,O none 0 0,O none 0 0,O (some ⟨bi,0,none⟩) 1 1,O (some ⟨bo,0,none⟩) 1 1,O (some ⟨bv,0,none⟩) 1 1,O none 0 0,O (some ⟨bm,0,none⟩) 2 2] 31)).alloc (ze #[U zd 0,O none 0 0] 87)):=(((((((((((HB2.o.setCell (p:=⟨bi,0,none⟩) (by simp;omega) (O (some ⟨w2.heap.size+1,0,none⟩) 1 1)).setCell (p:=⟨w.heap.size,0,none⟩) (by simp) (U zd 2)).setCell (p:=⟨w.heap.size,1,none⟩) (by simp) (O none 0 0)).setCell (p:=⟨w.heap.size,2,none⟩) (by simp) (O none 0 0)).setCell (p:=⟨w.heap.size,3,none⟩) (by simp) (O (some ⟨bi,0,none⟩) 1 1)).setCell (p:=⟨w.heap.size,4,none⟩) (by simp) (O (some ⟨bo,0,none⟩) 1 1)).setCell (p:=⟨w.heap.size,5,none⟩) (by simp) (O (some ⟨bv,0,none⟩) 1 1)).setCell (p:=⟨w.heap.size,6,none⟩) (by simp) (O none 0 0)).setCell (p:=⟨w.heap.size,7,none⟩) (by simp) (O (some ⟨bm,0,none⟩) 2 2)).alloc (by rw [hsz];omega) (ze #[U zd 2,O none 0 0,O none 0 0,O (some ⟨bi,0,none⟩) 1 1,O (some ⟨bo,0,none⟩) 1 1,O (some ⟨bv,0,none⟩) 1 1,O none 0 0,O (some ⟨bm,0,none⟩) 2 2] 31)).alloc (by simp [World.setCell];omega) (ze #[U zd 0,O none 0 0] 87))
 refine bodyPost_ret (v:=Nk bi bo bv bm) ?_ rfl ⟨bi,bo,bv,bm,w2.heap.size+1,rfl,⟨hin,hpl,hou,hva,hma⟩,hBf⟩
 generalize (((((((((((w2.setCell ⟨bi,0,none⟩ (O (some ⟨w2.heap.size+1,0,none⟩) 1 1)).setCell ⟨w.heap.size,0,none⟩ (U zd 2)).setCell ⟨w.heap.size,1,none⟩ (O none 0 0)).setCell ⟨w.heap.size,2,none⟩ (O none 0 0)).setCell ⟨w.heap.size,3,none⟩ (O (some ⟨bi,0,none⟩) 1 1)).setCell ⟨w.heap.size,4,none⟩ (O (some ⟨bo,0,none⟩) 1 1)).setCell ⟨w.heap.size,5,none⟩ (O (some ⟨bv,0,none⟩) 1 1)).setCell ⟨w.heap.size,6,none⟩ (O none 0 0)).setCell ⟨w.heap.size,7,none⟩ (O (some ⟨bm,0,none⟩) 2 2)).alloc (ze #[U zd 2,O none 0 0,O none 0 0,O (some ⟨bi,0,none⟩) 1 1,O (some ⟨bo,0,none⟩) 1 1,O (some ⟨bv,0,none⟩) 1 1,O none 0 0,O (some ⟨bm,0,none⟩) 2 2] 31)).alloc (ze #[U zd 0,O none 0 0] 87))=WZ at e0 e1 e2 e3 e4 e5 e6 e7 ⊢
 simp [results,Tryz.results39,go_sem,e0,e1,e2,e3,e4,e5,e6,e7]
def Hw:Lab:=⟨[⟨0,[]⟩],[]⟩
theorem Ka {bi bo bv bm bp:Nat} {w:World} (h:Bad bi bo bv bm bp w):BE 1 1 2 none 0 0 none 0 0 (some ⟨bi,0,none⟩) 1 1 (some ⟨bo,0,none⟩) 1 1 (some ⟨bv,0,none⟩) 1 1 none 0 0 (some ⟨bm,0,none⟩) 2 2 [] [] [Hw] [⟨[],[]⟩] [(false,⟨[],[]⟩)] [] [sm1,sm2] w:=by
 have h0:=C0 (bi:=bo) (bo:=bo) (bv:=bv) (bm:=bm) (w:=w) ⟨h.outs,h.outs,h.vars,h.main⟩
 refine ⟨A4 2 (by omega) (by omega),h0.grants,h0.speak,h0.speakL,?_,h0.outs,h0.vars,h0.funcs,h0.main,fun h=>absurd h (by simp),fun h=>absurd h (by simp)⟩
 refine ⟨by simp [maxLen],some ⟨bi,0,none⟩,1,rfl,fun _=>⟨bi,0,rfl,fun i hi=>?_⟩⟩
 have:i=0:=by simp at hi;omega
 subst this
 refine ⟨_,_,h.ins 0 _ rfl,h.ins 1 _ rfl,⟨_,_,rfl,fun _=>⟨bp,0,rfl,fun k hk=>?_⟩⟩,B4⟩
 have:k=0:=by simp [Hw] at hk;omega
 subst this
 exact ⟨h.pol 0 _ rfl,_,h.pol 1 _ rfl,⟨none,0,rfl,fun h=>absurd rfl h⟩⟩
theorem PB:Ey.xP 1 1 2 1 1 1 0 [] [] [Hw] [⟨[],[]⟩] [(false,⟨[],[]⟩)] [] [sm1,sm2]:=by
 refine ⟨rfl,by simp,fun x hx=>absurd hx (by simp),⟨?_,?_,C4.labs.2.2⟩,C4.many,C4.body,C4.main⟩
 ·intro b hb
  simp at hb
  rcases hb with rfl | rfl
  ·rfl
  ·rfl
 ·intro v hv
  simp at hv
  subst hv
  rfl
theorem Ev {n K kf:Nat} {gs:List (Int × Int)} {vs:List (Bool × Lab)} {ls:List Lab} {fs:List FnD} {main:List D} {st st':ISt} (h:Bz n K kf gs vs ls fs main st) (h':Bz n K kf gs vs ls fs main st'):st=st':=by
 obtain ⟨k,e,m,l⟩:=h
 obtain ⟨k',e',m',l'⟩:=h'
 rcases Nat.lt_trichotomy k k' with hk | hk | hk
 ·have:=l' k hk
  rw [<-e,m] at this
  cases this
 ·rw [e,e',hk]
 ·have:=l k' hk
  rw [<-e',m'] at this
  cases this
def qO:Lab:=⟨[],[⟨0,[]⟩]⟩
theorem IR:Bz 2 1 1 [] [(false,⟨[],[]⟩)] [Hw] [] [sm1,sm2] ⟨[⟨[true,false],[true,true]⟩],[],false⟩:=⟨1,by rfl,rfl,fun j hj=>by
 have:j=0:=by omega
 subst this
 rfl⟩
theorem Oq:Bz 1 1 1 [] [(false,⟨[],[]⟩)] [Hw] [] [sm1,sm2] ⟨[⟨[true],[true]⟩],[],false⟩:=⟨1,by rfl,rfl,fun j hj=>by
 have:j=0:=by omega
 subst this
 rfl⟩
theorem Km:BQ 1 1 1 [] [] [⟨[true],[true]⟩] [] [(false,⟨[],[]⟩)] [⟨[],[]⟩] [⟨[],[]⟩] [] [sm1,sm2]=[]:=by rfl
theorem J9:BQ 2 1 1 [] [] [⟨[true,false],[true,true]⟩] [] [(false,⟨[],[]⟩)] [Hw] [⟨[],[]⟩] [] [sm1,sm2]=[(1,4)]:=by rfl
theorem Pl:BQ 1 1 1 [] [] [⟨[true],[true]⟩] [] [(false,⟨[],[]⟩)] [Hw] [qO] [] [sm1,sm2]=[]:=by rfl
structure Qq (bi bo bv bm p1 p2:Nat) (w:World):Prop where
 ins:Ae [O (some ⟨p2,0,none⟩) 1 1,O none 0 0] w bi
 pol2:Ae [U zd 0,O none 0 0] w p2
 outs:Ae [O none 0 0,O (some ⟨p1,0,none⟩) 1 1] w bo
 pol1:Ae [U zd 0,O none 0 0] w p1
 vars:Ae [zg false,O none 0 0,O none 0 0] w bv
 main:Ae CK w bm
theorem Qq.over {bi bo bv bm p1 p2:Nat} {w w':World} (h:Qq bi bo bv bm p1 p2 w) (hb:Ov w w'):Qq bi bo bv bm p1 p2 w':=⟨h.ins.over hb,h.pol2.over hb,h.outs.over hb,h.pol1.over hb,h.vars.over hb,h.main.over hb⟩
theorem Po {p:Nat} {w:World} (h:Ae [U zd 0,O none 0 0] w p):AC w (O (some ⟨p,0,none⟩) 1 1) [⟨0,[]⟩]:=⟨_,_,rfl,fun _=>⟨p,0,rfl,fun k hk=>by
 have:k=0:=by simp at hk;omega
 subst this
 exact ⟨h 0 _ rfl,_,h 1 _ rfl,⟨none,0,rfl,fun h=>absurd rfl h⟩⟩⟩⟩
theorem Pn {bi bo bv bm p1 p2:Nat} {w:World} (h:Qq bi bo bv bm p1 p2 w):BE 1 1 1 none 0 0 none 0 0 (some ⟨bi,0,none⟩) 1 1 (some ⟨bo,0,none⟩) 1 1 (some ⟨bv,0,none⟩) 1 1 none 0 0 (some ⟨bm,0,none⟩) 2 2 [] [] [Hw] [qO] [(false,⟨[],[]⟩)] [] [sm1,sm2] w:=by
 have one:∀ {b:Nat} {x y:Value} {L:Lab},Ae [x,y] w b->AC w x L.r->AC w y L.w->Bb w (O (some ⟨b,0,none⟩) 1 1) [L]:=fun hr hx hy=>⟨by simp [maxLen],_,1,rfl,fun _=>⟨_,0,rfl,fun i hi=>by
  have:i=0:=by simp at hi;omega
  subst this
  exact ⟨_,_,hr 0 _ rfl,hr 1 _ rfl,hx,hy⟩⟩⟩
 refine ⟨A4 1 (by omega) (by omega),⟨none,0,rfl,fun h=>absurd rfl h⟩,⟨none,0,rfl,fun h=>absurd rfl h⟩,by simp,one h.ins (Po h.pol2) B4,one h.outs B4 (Po h.pol1),?_,?_,?_,fun h=>absurd h (by simp),fun h=>absurd h (by simp)⟩
 ·refine ⟨by simp [maxLen],some ⟨bv,0,none⟩,1,rfl,fun _=>⟨bv,0,rfl,fun i hi=>?_⟩⟩
  have:i=0:=by simp at hi;omega
  subst this
  exact ⟨_,_,h.vars 0 _ rfl,h.vars 1 _ rfl,h.vars 2 _ rfl,B4,B4⟩
 ·exact ⟨by simp,none,0,rfl,fun h=>absurd rfl h⟩
 ·refine ⟨by simp [maxLen],some ⟨bm,0,none⟩,2,rfl,fun _=>⟨bm,0,rfl,fun i d hd=>?_⟩⟩
  match i,hd with
  | 0,hd=>
   simp at hd
   subst hd
   refine ⟨CK.take 9,rfl,fun j u hu=>?_,3,0,0,_,_,_,xD 0 0 [],_,[],_,[],_,[],rfl,rfl,A4 _ (by omega) (by omega),A4 _ (by omega) (by omega),A4 _ (by omega) (by omega),⟨0,0,_,[],rfl,rfl,A4 _ (by omega) (by omega),A4 _ (by omega) (by omega),Cb⟩,Cb,Cb,Cb⟩
   rw [List.getElem?_take] at hu
   split at hu
   ·have:=h.main j u hu
    simpa using this
   ·cases hu
  | 1,hd=>
   simp at hd
   subst hd
   refine ⟨CK.drop 9,rfl,fun j u hu=>?_,4,0,0,_,_,_,xD 2 0 [],_,[],_,[],_,[],rfl,rfl,A4 _ (by omega) (by omega),A4 _ (by omega) (by omega),A4 _ (by omega) (by omega),⟨2,0,_,[],rfl,rfl,A4 _ (by omega) (by omega),A4 _ (by omega) (by omega),Cb⟩,Cb,Cb,Cb⟩
   rw [List.getElem?_drop] at hu
   have:=h.main (9+j) u hu
   simpa [Nat.add_assoc] using this
  | i+2,hd=>simp at hd
theorem qX:Ey.xP 1 1 1 1 1 1 0 [] [] [Hw] [qO] [(false,⟨[],[]⟩)] [] [sm1,sm2]:=by
 refine ⟨rfl,by simp,fun x hx=>absurd hx (by simp),⟨?_,C4.labs.2.1,C4.labs.2.2⟩,C4.many,C4.body,C4.main⟩
 intro b hb
 simp at hb
 rcases hb with rfl | rfl
 ·rfl
 ·rfl
theorem Ge {m:Int} {bi bo bv bm:Nat} {ls ms:List Lab} {w:World} {n:Nat} {st:ISt} (hm:m=n) (hP:BE 1 1 m none 0 0 none 0 0 (some ⟨bi,0,none⟩) 1 1 (some ⟨bo,0,none⟩) 1 1 (some ⟨bv,0,none⟩) 1 1 none 0 0 (some ⟨bm,0,none⟩) 2 2 [] [] ls ms [(false,⟨[],[]⟩)] [] [sm1,sm2] w) (hX:Ey.xP 1 1 m 1 1 1 0 [] [] ls ms [(false,⟨[],[]⟩)] [] [sm1,sm2]) (hI:Bz n 1 1 [] [(false,⟨[],[]⟩)] ls [] [sm1,sm2] st) :
  Calls Tryz.prog 10 #[zh #[U zd m,O none 0 0,O none 0 0,O (some ⟨bi,0,none⟩) 1 1,O (some ⟨bo,0,none⟩) 1 1,O (some ⟨bv,0,none⟩) 1 1,O none 0 0,O (some ⟨bm,0,none⟩) 2 2]] w fun e w'=>e=zk (zm #[zg (decide (BQ n 1 1 [] [] st.vs st.fs [(false,⟨[],[]⟩)] ls ms [] [sm1,sm2]=[])),U zd 0])/\Ov w w':=by
 refine (NM 1 1 m none 0 0 none 0 0 (some ⟨bi,0,none⟩) 1 1 (some ⟨bo,0,none⟩) 1 1 (some ⟨bv,0,none⟩) 1 1 none 0 0 (some ⟨bm,0,none⟩) 2 2 [] [] ls ms [(false,⟨[],[]⟩)] [] [sm1,sm2] w hP (fun why=>why=0 ↔ Ey.xP 1 1 m 1 1 1 0 [] [] ls ms [(false,⟨[],[]⟩)] [] [sm1,sm2]) (fun W hW=>Ey.scopeCheck_any 1 1 m none 0 0 none 0 0 (some ⟨bi,0,none⟩) 1 1 (some ⟨bo,0,none⟩) 1 1 (some ⟨bv,0,none⟩) 1 1 none 0 0 (some ⟨bm,0,none⟩) 2 2 [] [] ls ms [(false,⟨[],[]⟩)] [] [sm1,sm2] W (hP.over hW)) (fun h=>(h.1 rfl).ok) (fun h=>by have:=(h.1 rfl).lim.2.2.2.2;simpa using this)).mono ?_
 rintro e w' ⟨why,hw,hb,⟨hne,-⟩ | ⟨-,-,n',st',hn,rfl,hi,-⟩⟩
 ·exact absurd (hw.2 hX) hne
 ·obtain rfl:n'=n:=by omega
  obtain rfl:=Ev hI hi
  exact ⟨rfl,hb⟩
theorem Jt {m:Int} {bi bo bv bm:Nat} {ls ms:List Lab} {w:World} {n:Nat} {st:ISt} (hm:m=n) (hP:BE 1 1 m none 0 0 none 0 0 (some ⟨bi,0,none⟩) 1 1 (some ⟨bo,0,none⟩) 1 1 (some ⟨bv,0,none⟩) 1 1 none 0 0 (some ⟨bm,0,none⟩) 2 2 [] [] ls ms [(false,⟨[],[]⟩)] [] [sm1,sm2] w) (hX:Ey.xP 1 1 m 1 1 1 0 [] [] ls ms [(false,⟨[],[]⟩)] [] [sm1,sm2]) (hI:Bz n 1 1 [] [(false,⟨[],[]⟩)] ls [] [sm1,sm2] st) :
  Calls Tryz.prog 35 #[zh #[U zd m,O none 0 0,O none 0 0,O (some ⟨bi,0,none⟩) 1 1,O (some ⟨bo,0,none⟩) 1 1,O (some ⟨bv,0,none⟩) 1 1,O none 0 0,O (some ⟨bm,0,none⟩) 2 2]] w fun e w'=>∃ fv B,e=zk (zm #[fv,U zd 0])/\w'.ownsRow B 89 2 fv (BQ n 1 1 [] [] st.vs st.fs [(false,⟨[],[]⟩)] ls ms [] [sm1,sm2]).length (DI (BQ n 1 1 [] [] st.vs st.fs [(false,⟨[],[]⟩)] ls ms [] [sm1,sm2]))/\Ov w w':=by
 refine (J8 1 1 m none 0 0 none 0 0 (some ⟨bi,0,none⟩) 1 1 (some ⟨bo,0,none⟩) 1 1 (some ⟨bv,0,none⟩) 1 1 none 0 0 (some ⟨bm,0,none⟩) 2 2 [] [] ls ms [(false,⟨[],[]⟩)] [] [sm1,sm2] w hP (fun why=>why=0 ↔ Ey.xP 1 1 m 1 1 1 0 [] [] ls ms [(false,⟨[],[]⟩)] [] [sm1,sm2]) (fun W hW=>Ey.scopeCheck_any 1 1 m none 0 0 none 0 0 (some ⟨bi,0,none⟩) 1 1 (some ⟨bo,0,none⟩) 1 1 (some ⟨bv,0,none⟩) 1 1 none 0 0 (some ⟨bm,0,none⟩) 2 2 [] [] ls ms [(false,⟨[],[]⟩)] [] [sm1,sm2] W (hP.over hW)) (fun h=>(h.1 rfl).ok) (fun h=>by have:=(h.1 rfl).lim.2.2.2.2;simpa using this)).mono ?_
 rintro e w' ⟨why,hw,hb,⟨hne,-⟩ | ⟨-,-,n',st',fv,B,hn,rfl,hi,-,-,-,-,-,ho⟩⟩
 ·exact absurd (hw.2 hX) hne
 ·obtain rfl:n'=n:=by omega
  obtain rfl:=Ev hI hi
  exact ⟨fv,B,rfl,ho,hb⟩
theorem Oi (w:World):Calls Tryz.prog 38 #[] w fun e w'=>∃ bi bo bv bm,e=zk (DX bi bo bv bm)/\D7 bi bo bv bm w'/\Ov w w'/\(w.heap.size < bi/\bi < bo/\bo < bv/\bv < bm/\bm < w'.heap.size)/\(∀ j,w'.frozen? ⟨bi,j,none⟩=false)/\∀ j,w'.frozen? ⟨bo,j,none⟩=false:=by
 go_enter Tryz.func38,Tryz.ntmps38
 go_wp2_with fail
 have hbr:=fun (W:World) (o:Obj)=>bA W o
 refine bodyPost_ret (v:=DX (w.heap.size+1) (w.heap.size+1+1) (w.heap.size+1+1+1) (w.heap.size+1+1+1+1)) (by simp [results,Tryz.results38,go_sem]) rfl ⟨_,_,_,_,rfl,⟨?_,?_,?_,?_⟩,?_,?_,?_,?_⟩
 ·exact CP rfl (by simp) (Ac (Ac (hbr _ _) (hbr _ _)) (hbr _ _))
 ·exact CP rfl (by simp) (Ac (hbr _ _) (hbr _ _))
 ·exact CP rfl (by simp) (hbr _ _)
 ·exact CP rfl (by simp) (Below.refl _ _)
 ·exact Ac (Ac (Ac (Ac (hbr _ _) (hbr _ _)) (hbr _ _)) (hbr _ _)) (hbr _ _)
 ·refine ⟨by omega,by omega,by omega,by omega,by simp⟩
 ·intro j
  simp [go_sem]
 ·intro j
  simp [go_sem]
theorem I0:Bz 1 1 1 [] [(false,⟨[],[]⟩)] [⟨[],[]⟩] [] [sm1,sm2] ⟨[⟨[true],[true]⟩],[],false⟩:=⟨1,by rfl,rfl,fun j hj=>by
 have:j=0:=by omega
 subst this
 rfl⟩
theorem F2 (w:World):Calls Tryz.prog 11 #[] w fun e w'=>e=zk (zg true)/\Ov w w':=by
 have KS:=Aa Oi
 have KB:=Aa JK
 go_enter Tryz.func11,Tryz.ntmps11
 go_wp2_with fail
 refine (KS.o _).mono ?_
 rintro e w1 ⟨bi,bo,bv,bm,rfl,hS,hb1,-,-,-⟩
 have KF:=Aa (Ge (m:=1) rfl (C0 hS) C4 (st:=⟨[⟨[true],[true]⟩],[],false⟩) I0)
 rw [Km] at KF
 have HB1:=Aa hb1
 clear hS hb1
 unfold DX
 go_wp2_with fail
 refine (KF.o).mono ?_
 rintro e w2 ⟨rfl,hb2⟩
 have HB2:=Aa (HB1.o.trans (hb2.mono HB1.o.size))
 clear hb2 KF
 go_wp2_with fail
 refine (KS.o _).mono ?_
 rintro e w3 ⟨bi,bo,bv,bm,rfl,hS,hb3,⟨l0,l1,l2,l3,l4⟩,zi,zo⟩
 have HB3:=Aa (HB2.o.trans (hb3.mono HB2.o.size))
 obtain ⟨c0,c1⟩:=rc2 hS.ins
 obtain ⟨d0,d1⟩:=rc2 hS.outs
 have z0:=zi 0
 have y1:=zo 1
 have b1:bi < w3.heap.size:=by omega
 have b2:bo < w3.heap.size:=by omega
 have n1:bi≠bo:=by omega
 have n2:bo≠bi:=by omega
 have n3:bi≠w3.heap.size:=by omega
 have n4:bo≠w3.heap.size:=by omega
 have n5:bi≠w3.heap.size+1:=by omega
 have n6:bo≠w3.heap.size+1:=by omega
 have n7:bi≠w3.heap.size+1+1:=by omega
 have n8:bo≠w3.heap.size+1+1:=by omega
 have hO4:Ov (w3.setCell ⟨bo,1,none⟩ (O (some ⟨w3.heap.size+1,0,none⟩) 1 1)) ((((w3.setCell ⟨bo,1,none⟩ (O (some ⟨w3.heap.size+1,0,none⟩) 1 1)).alloc (ze #[U zd 1,O none 0 0,O none 0 0,O (some ⟨bi,0,none⟩) 1 1,O (some ⟨bo,0,none⟩) 1 1,O (some ⟨bv,0,none⟩) 1 1,O none 0 0,O (some ⟨bm,0,none⟩) 2 2] 31)).alloc (ze #[U zd 0,O none 0 0] 87)).alloc (ze #[U zd 0,O none 0 0] 87)):=((bA _ _).trans ((bA _ _).mono (by simp))).trans ((bA _ _).mono (by simp;omega))
 have g0:((((w3.setCell ⟨bo,1,none⟩ (O (some ⟨w3.heap.size+1,0,none⟩) 1 1)).alloc (ze #[U zd 1,O none 0 0,O none 0 0,O (some ⟨bi,0,none⟩) 1 1,O (some ⟨bo,0,none⟩) 1 1,O (some ⟨bv,0,none⟩) 1 1,O none 0 0,O (some ⟨bm,0,none⟩) 2 2] 31)).alloc (ze #[U zd 0,O none 0 0] 87)).alloc (ze #[U zd 0,O none 0 0] 87)).cell? ⟨bi,0,none⟩=some (O none 0 0):=((hS.ins.other (b':=bo) (j:=1) (v:=(O (some ⟨w3.heap.size+1,0,none⟩) 1 1)) n1).over hO4) 0 _ rfl
 have g1:((((w3.setCell ⟨bo,1,none⟩ (O (some ⟨w3.heap.size+1,0,none⟩) 1 1)).alloc (ze #[U zd 1,O none 0 0,O none 0 0,O (some ⟨bi,0,none⟩) 1 1,O (some ⟨bo,0,none⟩) 1 1,O (some ⟨bv,0,none⟩) 1 1,O none 0 0,O (some ⟨bm,0,none⟩) 2 2] 31)).alloc (ze #[U zd 0,O none 0 0] 87)).alloc (ze #[U zd 0,O none 0 0] 87)).frozen? ⟨bi,0,none⟩=false:=((Al hO4).2 bi 0 (by simpa [World.setCell] using b1)).trans (Ba.trans z0)
 have hrP:Ae [U zd 1,O none 0 0,O none 0 0,O (some ⟨bi,0,none⟩) 1 1,O (some ⟨bo,0,none⟩) 1 1,O (some ⟨bv,0,none⟩) 1 1,O none 0 0,O (some ⟨bm,0,none⟩) 2 2] (((((w3.setCell ⟨bo,1,none⟩ (O (some ⟨w3.heap.size+1,0,none⟩) 1 1)).alloc (ze #[U zd 1,O none 0 0,O none 0 0,O (some ⟨bi,0,none⟩) 1 1,O (some ⟨bo,0,none⟩) 1 1,O (some ⟨bv,0,none⟩) 1 1,O none 0 0,O (some ⟨bm,0,none⟩) 2 2] 31)).alloc (ze #[U zd 0,O none 0 0] 87)).alloc (ze #[U zd 0,O none 0 0] 87)).setCell ⟨bi,0,none⟩ (O (some ⟨w3.heap.size+1+1,0,none⟩) 1 1)) w3.heap.size:=by
  have:=((Ae.newA #[U zd 1,O none 0 0,O none 0 0,O (some ⟨bi,0,none⟩) 1 1,O (some ⟨bo,0,none⟩) 1 1,O (some ⟨bv,0,none⟩) 1 1,O none 0 0,O (some ⟨bm,0,none⟩) 2 2] 31 (w3.setCell ⟨bo,1,none⟩ (O (some ⟨w3.heap.size+1,0,none⟩) 1 1))).over (bA _ (ze #[U zd 0,O none 0 0] 87))).over (bA _ (ze #[U zd 0,O none 0 0] 87))
  exact (show Ae [U zd 1,O none 0 0,O none 0 0,O (some ⟨bi,0,none⟩) 1 1,O (some ⟨bo,0,none⟩) 1 1,O (some ⟨bv,0,none⟩) 1 1,O none 0 0,O (some ⟨bm,0,none⟩) 2 2] ((((w3.setCell ⟨bo,1,none⟩ (O (some ⟨w3.heap.size+1,0,none⟩) 1 1)).alloc (ze #[U zd 1,O none 0 0,O none 0 0,O (some ⟨bi,0,none⟩) 1 1,O (some ⟨bo,0,none⟩) 1 1,O (some ⟨bv,0,none⟩) 1 1,O none 0 0,O (some ⟨bm,0,none⟩) 2 2] 31)).alloc (ze #[U zd 0,O none 0 0] 87)).alloc (ze #[U zd 0,O none 0 0] 87)) w3.heap.size by simpa [World.setCell] using this).other (b':=bi) (j:=0) (v:=(O (some ⟨w3.heap.size+1+1,0,none⟩) 1 1)) (by omega)
 have hp1:Ae [U zd 0,O none 0 0] (((((w3.setCell ⟨bo,1,none⟩ (O (some ⟨w3.heap.size+1,0,none⟩) 1 1)).alloc (ze #[U zd 1,O none 0 0,O none 0 0,O (some ⟨bi,0,none⟩) 1 1,O (some ⟨bo,0,none⟩) 1 1,O (some ⟨bv,0,none⟩) 1 1,O none 0 0,O (some ⟨bm,0,none⟩) 2 2] 31)).alloc (ze #[U zd 0,O none 0 0] 87)).alloc (ze #[U zd 0,O none 0 0] 87)).setCell ⟨bi,0,none⟩ (O (some ⟨w3.heap.size+1+1,0,none⟩) 1 1)) (w3.heap.size+1):=by
  have:=(Ae.newA #[U zd 0,O none 0 0] 87 ((w3.setCell ⟨bo,1,none⟩ (O (some ⟨w3.heap.size+1,0,none⟩) 1 1)).alloc (ze #[U zd 1,O none 0 0,O none 0 0,O (some ⟨bi,0,none⟩) 1 1,O (some ⟨bo,0,none⟩) 1 1,O (some ⟨bv,0,none⟩) 1 1,O none 0 0,O (some ⟨bm,0,none⟩) 2 2] 31))).over (bA _ (ze #[U zd 0,O none 0 0] 87))
  exact (show Ae [U zd 0,O none 0 0] ((((w3.setCell ⟨bo,1,none⟩ (O (some ⟨w3.heap.size+1,0,none⟩) 1 1)).alloc (ze #[U zd 1,O none 0 0,O none 0 0,O (some ⟨bi,0,none⟩) 1 1,O (some ⟨bo,0,none⟩) 1 1,O (some ⟨bv,0,none⟩) 1 1,O none 0 0,O (some ⟨bm,0,none⟩) 2 2] 31)).alloc (ze #[U zd 0,O none 0 0] 87)).alloc (ze #[U zd 0,O none 0 0] 87)) (w3.heap.size+1) by simpa [World.setCell] using this).other (b':=bi) (j:=0) (v:=(O (some ⟨w3.heap.size+1+1,0,none⟩) 1 1)) (by omega)
 have hp2:Ae [U zd 0,O none 0 0] (((((w3.setCell ⟨bo,1,none⟩ (O (some ⟨w3.heap.size+1,0,none⟩) 1 1)).alloc (ze #[U zd 1,O none 0 0,O none 0 0,O (some ⟨bi,0,none⟩) 1 1,O (some ⟨bo,0,none⟩) 1 1,O (some ⟨bv,0,none⟩) 1 1,O none 0 0,O (some ⟨bm,0,none⟩) 2 2] 31)).alloc (ze #[U zd 0,O none 0 0] 87)).alloc (ze #[U zd 0,O none 0 0] 87)).setCell ⟨bi,0,none⟩ (O (some ⟨w3.heap.size+1+1,0,none⟩) 1 1)) (w3.heap.size+1+1):=by
  have:=Ae.newA #[U zd 0,O none 0 0] 87 (((w3.setCell ⟨bo,1,none⟩ (O (some ⟨w3.heap.size+1,0,none⟩) 1 1)).alloc (ze #[U zd 1,O none 0 0,O none 0 0,O (some ⟨bi,0,none⟩) 1 1,O (some ⟨bo,0,none⟩) 1 1,O (some ⟨bv,0,none⟩) 1 1,O none 0 0,O (some ⟨bm,0,none⟩) 2 2] 31)).alloc (ze #[U zd 0,O none 0 0] 87))
  exact (show Ae [U zd 0,O none 0 0] ((((w3.setCell ⟨bo,1,none⟩ (O (some ⟨w3.heap.size+1,0,none⟩) 1 1)).alloc (ze #[U zd 1,O none 0 0,O none 0 0,O (some ⟨bi,0,none⟩) 1 1,O (some ⟨bo,0,none⟩) 1 1,O (some ⟨bv,0,none⟩) 1 1,O none 0 0,O (some ⟨bm,0,none⟩) 2 2] 31)).alloc (ze #[U zd 0,O none 0 0] 87)).alloc (ze #[U zd 0,O none 0 0] 87)) (w3.heap.size+1+1) by simpa [World.setCell] using this).other (b':=bi) (j:=0) (v:=(O (some ⟨w3.heap.size+1+1,0,none⟩) 1 1)) (by omega)
 have hQ:Qq bi bo bv bm (w3.heap.size+1) (w3.heap.size+1+1) (((((w3.setCell ⟨bo,1,none⟩ (O (some ⟨w3.heap.size+1,0,none⟩) 1 1)).alloc (ze #[U zd 1,O none 0 0,O none 0 0,O (some ⟨bi,0,none⟩) 1 1,O (some ⟨bo,0,none⟩) 1 1,O (some ⟨bv,0,none⟩) 1 1,O none 0 0,O (some ⟨bm,0,none⟩) 2 2] 31)).alloc (ze #[U zd 0,O none 0 0] 87)).alloc (ze #[U zd 0,O none 0 0] 87)).setCell ⟨bi,0,none⟩ (O (some ⟨w3.heap.size+1+1,0,none⟩) 1 1)):=⟨((hS.ins.other (b':=bo) (j:=1) (v:=(O (some ⟨w3.heap.size+1,0,none⟩) 1 1)) n1).over hO4).set (j:=0) (v:=(O (some ⟨w3.heap.size+1+1,0,none⟩) 1 1)) (by simp),hp2,((hS.outs.set (j:=1) (v:=(O (some ⟨w3.heap.size+1,0,none⟩) 1 1)) (by simp)).over hO4).other (b':=bi) (j:=0) (v:=(O (some ⟨w3.heap.size+1+1,0,none⟩) 1 1)) n2,hp1,((hS.vars.other (b':=bo) (j:=1) (v:=(O (some ⟨w3.heap.size+1,0,none⟩) 1 1)) (by omega)).over hO4).other (b':=bi) (j:=0) (v:=(O (some ⟨w3.heap.size+1+1,0,none⟩) 1 1)) (by omega),((hS.main.other (b':=bo) (j:=1) (v:=(O (some ⟨w3.heap.size+1,0,none⟩) 1 1)) (by omega)).over hO4).other (b':=bi) (j:=0) (v:=(O (some ⟨w3.heap.size+1+1,0,none⟩) 1 1)) (by omega)⟩
 have hB5:Ov w (((((w3.setCell ⟨bo,1,none⟩ (O (some ⟨w3.heap.size+1,0,none⟩) 1 1)).alloc (ze #[U zd 1,O none 0 0,O none 0 0,O (some ⟨bi,0,none⟩) 1 1,O (some ⟨bo,0,none⟩) 1 1,O (some ⟨bv,0,none⟩) 1 1,O none 0 0,O (some ⟨bm,0,none⟩) 2 2] 31)).alloc (ze #[U zd 0,O none 0 0] 87)).alloc (ze #[U zd 0,O none 0 0] 87)).setCell ⟨bi,0,none⟩ (O (some ⟨w3.heap.size+1+1,0,none⟩) 1 1)):=by
  have h2:=HB2.o.size
  have h3:Ov w (w3.setCell ⟨bo,1,none⟩ (O (some ⟨w3.heap.size+1,0,none⟩) 1 1)):=HB3.o.setCell (show w.heap.size<=bo by omega) _
  exact (h3.trans (hO4.mono h3.size)).setCell (show w.heap.size<=bi by omega) _
 have HQ:=Aa hQ
 have HRP:=Aa hrP
 have HB5:=Aa hB5
 clear hO4 hQ hrP hp1 hp2 hB5
 have HS:=Aa hS
 have HL:=Aa (And.intro l0 (And.intro l1 (And.intro l2 (And.intro l3 l4))))
 clear hS hb3 zi zo l0 l1 l2 l3 l4
 unfold DX
 go_wp2_with fail
 obtain ⟨W5,hW5⟩:=nm (((((w3.setCell ⟨bo,1,none⟩ (O (some ⟨w3.heap.size+1,0,none⟩) 1 1)).alloc (ze #[U zd 1,O none 0 0,O none 0 0,O (some ⟨bi,0,none⟩) 1 1,O (some ⟨bo,0,none⟩) 1 1,O (some ⟨bv,0,none⟩) 1 1,O none 0 0,O (some ⟨bm,0,none⟩) 2 2] 31)).alloc (ze #[U zd 0,O none 0 0] 87)).alloc (ze #[U zd 0,O none 0 0] 87)).setCell ⟨bi,0,none⟩ (O (some ⟨w3.heap.size+1+1,0,none⟩) 1 1))
 rw [<-hW5] at HQ HRP HB5 ⊢
 obtain ⟨bq,hbq⟩:=nm w3.heap.size
 rw [<-hbq] at HQ HRP ⊢
 clear hW5 hbq g0 g1 c0 c1 d0 d1 z0 y1 n1 n2 n3 n4 n5 n6 n7 n8 b1 b2 HS HL HB3 HB2 HB1
 refine (KB.o _).mono ?_
 rintro e w6 ⟨bi2,bo2,bv2,bm2,bp2,rfl,hBad,hb6⟩
 have KF:=Aa (Ge (m:=2) rfl (Ka hBad) PB IR)
 rw [J9] at KF
 have HB6:=Aa (HB5.o.trans (hb6.mono HB5.o.size))
 have HQ6:=Aa (HQ.o.over hb6)
 have HR6:=Aa (HRP.o.over hb6)
 clear hBad hb6 HQ HRP HB5
 unfold Nk
 go_wp2_with fail
 refine (KF.o).mono ?_
 rintro e w7 ⟨rfl,hb7⟩
 have HB7:=Aa (HB6.o.trans (hb7.mono HB6.o.size))
 have HQ7:=Aa (HQ6.o.over hb7)
 have HR7:=Aa (HR6.o.over hb7)
 clear hb7 HQ6 HR6 HB6 KF
 go_wp2_with fail
 refine (KB.o _).mono ?_
 rintro e w8 ⟨bi3,bo3,bv3,bm3,bp3,rfl,hBad,hb8⟩
 have KF:=Aa (Jt (m:=2) rfl (Ka hBad) PB IR)
 rw [J9] at KF
 have HB8:=Aa (HB7.o.trans (hb8.mono HB7.o.size))
 have HQ8:=Aa (HQ7.o.over hb8)
 have HR8:=Aa (HR7.o.over hb8)
 clear hBad hb8 HQ7 HR7 HB7
 unfold Nk
 go_wp2_with fail
 refine (KF.o).mono ?_
 rintro e w9 ⟨fv,B,rfl,ho,hb9⟩
 have HB9:=Aa (HB8.o.trans (hb9.mono HB8.o.size))
 have HQ9:=Aa (HQ8.o.over hb9)
 have hr9:=HR8.o.over hb9
 obtain ⟨q0,q1,q2,q3,q4,q5,q6,q7⟩:=rc8 hr9
 have KG:=Aa (Ge (m:=1) rfl (Pn HQ9.o) qX Oq)
 rw [Pl] at KG
 rcases id ho.2 with ⟨-,h0⟩ | ⟨g,cap,cur,rfl,-⟩
 ·exact absurd h0 (by simp)
 have x0:=ho.cells (g:=g) rfl 0 (U zd 1) rfl
 have x1:=ho.cells (g:=g) rfl 1 (U zd 4) rfl
 rw [Addr.add_lit] at x0 x1
 clear hb9 HQ8 HR8 HB8 KF hr9 ho
 go_wp2_with fail
 refine (KG.o).mono ?_
 rintro e w10 ⟨rfl,hb10⟩
 have HB10:=Aa (HB9.o.trans (hb10.mono HB9.o.size))
 obtain ⟨x0,x1⟩:=co2 hb10 x0 x1
 clear hb10 HQ9 HB9 KG q0 q1 q2 q3 q4 q5 q6 q7
 go_wp2_with fail
 go_ret
 exact ⟨rfl,HB10.o⟩
theorem Hs {m:Int} {K:Nat} {d:D} (h:A2 m K d=0):(Bn K d).length<=15:=by
 unfold A2 at h
 split at h
 ·omega
 ·rename_i h1
  have:=GE K d 15 (by omega) (by omega)
  omega
theorem D3 {K nv ni no:Nat} {funcs:Int} {fs:List FnD} {k:Nat}:∀ {l:List D},(∀ s∈l,Ey.xS K nv ni no funcs fs k s)->l.length<=A7 k l/\∀ s∈l,CW k s<=A7 k l
 | [],_=>⟨Nat.le_refl _,fun s hs=>by cases hs⟩
 | d::l,h=>by
  have h1:=D3 (l:=l) (fun s hs=>h s (List.mem_cons_of_mem _ hs))
  have h2:1<=CW k d:=by
   have:=h d (List.mem_cons_self ..)
   cases k with
   | zero=>exact this.elim
   | succ k=>unfold CW;omega
  have e:A7 k (d::l)=CW k d+A7 k l:=by simp [A7]
  rw [e]
  refine ⟨by simp only [List.length_cons];omega,fun s hs=>?_⟩
  rcases List.mem_cons.1 hs with rfl | hs
  ·omega
  ·have:=h1.2 s hs
   omega
theorem JX {K nv ni no:Nat} {funcs:Int} {fs:List FnD} (hfn:funcs<=fs.length) (hps:∀ f∈fs,f.ps.length<=4):∀ (k:Nat) (d:D),Ey.xS K nv ni no funcs fs k d->CW k d<=50->smS K k d
 | 0,d,h,_=>h.elim
 | k+1,d,h,hc=>by
  obtain ⟨⟨h1,hz⟩,hT,hE⟩:=h
  have cT:=D3 hT
  have cE:=D3 hE
  have e:CW (k+1) d=1+A7 k (Av d)+A7 k (Ax d):=rfl
  have hargs:(Ap d).length<=15:=by
   by_cases h2:Am d=2
   ·obtain ⟨ho,hl,-⟩:=h1.2.2.1 h2
    have hlt:(Ah d).toNat < fs.length:=by omega
    have:=hl _ (List.getElem?_eq_getElem hlt)
    have:=hps _ (List.getElem_mem hlt)
    omega
   ·rw [hz.2.2.2.1 h2]
    simp
  refine ⟨?_,hargs,fun a ha=>?_,by omega,by omega,fun x hx=>JX hfn hps k x (hT x hx) (by have:=cT.2 x hx;omega),fun x hx=>JX hfn hps k x (hE x hx) (by have:=cE.2 x hx;omega)⟩
  ·by_cases h23:Am d=2\/Am d=3
   ·have hk:=h1.2.2.2.2.2.1 h23
    cases K with
    | zero=>simp [Bn]
    | succ K=>simp [Bn,hk.2]
   ·exact Hs (h1.2.2.2.2.1 (by have:=h1.1;omega))
  ·by_cases h2:Am d=2
   ·exact Hs ((h1.2.2.1 h2).2.2 a ha)
   ·rw [hz.2.2.2.1 h2] at ha
    cases ha
theorem IP {kf:Nat}:∀ {fs:List FnD} {f:FnD},f∈fs->A7 kf f.body<=Ca kf fs
 | g::fs,f,h=>by
  have e:Ca kf (g::fs)=A7 kf g.body+Ca kf fs:=by simp [Ca]
  rw [e]
  rcases List.mem_cons.1 h with rfl | h
  ·omega
  ·have:=IP (kf:=kf) h
   omega
theorem Om {K kf:Nat} {m:Int} {vn yn on sn:Nat} {gs:List (Int × Int)} {sp:List Int} {ls ms:List Lab} {vs:List (Bool × Lab)} {fs:List FnD} {l:List D} (hX:Ey.xP K kf m vn yn on sn gs sp ls ms vs fs l) (hv:vn=vs.length) (hy:yn=ls.length) (ho:on=ms.length) (hs:sn=sp.length):smP K kf gs sp ls ms vs fs l:=by
 obtain ⟨n,hn,h1,h6,hg,h20,-⟩:=D5 hX.chk
 have hlim:=hX.lim
 have hm:=hX.many.1
 have hps:∀ f∈fs,f.ps.length<=4:=fun f hf=>by
  obtain ⟨i,hi,rfl⟩:=List.getElem_of_mem hf
  exact (hX.body i hi).1
 have lab:∀ b,Bo m gs b=0->(b.r.length<=4/\b.w.length<=4)/\(∀ p∈b.r,p.names.length<=6)/\∀ p∈b.w,p.names.length<=6:=fun b hb=>by
  obtain ⟨n',-,-,-,-,-,-,hin,-⟩:=J1 hb
  exact ⟨⟨hin.1.1,hin.2.1⟩,fun p hp=>(hin.1.2 p hp).2.1,fun p hp=>(hin.2.2 p hp).2.1⟩
 have cM:=D3 hX.main
 refine ⟨?_,by omega,by omega,by omega,by omega,by omega,fun b hb=>?_,fun f hf=>?_,by omega,fun d hd=>JX (Int.le_refl _) hps kf d (hX.main d hd) (by have:=cM.2 d hd;omega)⟩
 ·have:(AD gs).length=gs.length:=by simp [AD]
  omega
 ·rcases hb with hb | hb | hb
  ·exact lab b (hX.labs.1 b (List.mem_append_left _ hb))
  ·exact lab b (hX.labs.1 b (List.mem_append_right _ hb))
  ·obtain ⟨v,hv,rfl⟩:=List.mem_map.1 hb
   exact lab _ (hX.labs.2.1 v hv)
 ·obtain ⟨i,hi,rfl⟩:=List.getElem_of_mem hf
  obtain ⟨b1,b2,b3,b4,b5⟩:=hX.body i hi
  have cB:=D3 b4
  have cF:=IP (kf:=kf) (List.getElem_mem hi)
  exact ⟨by omega,by omega,fun d hd=>JX (by omega) hps kf d (b4 d hd) (by have:=cB.2 d hd;omega),Hs b5⟩
end Go.Proofs.YtfffpjkcfnekaaaGreat.Ex
