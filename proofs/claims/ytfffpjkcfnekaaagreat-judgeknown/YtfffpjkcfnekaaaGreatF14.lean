/- Levels of who goes through commands: joined, held against each other, of a label. -/
import Derived.Test.YtfffpjkcfnekaaaGreatF13
import Derived.RangeFuncNested
import Derived.RangeFuncBound
import Derived.RangeFuncCalls
import Derived.RangeFuncLeaves
import Derived.Shelf.Abstract
import Derived.Shelf.RegionOpen
import Derived.WalkKit
import Derived.OwnWalkIn
import Derived.TacticsInMore
import Derived.LoopNIn
import Derived.LoopIn
set_option linter.unusedVariables false
set_option maxHeartbeats 8000000
set_option maxRecDepth 100000
namespace Go.Proofs.YtfffpjkcfnekaaaGreat.Ex
open Go.RowKit
open Go.Value renaming slice -> O, int -> U, bool -> zg, agg -> zh, pointer -> zj, tuple -> zm
open Go.IntKind renaming i64 -> zd
open Go.Obj renaming cells -> ze
open Go.Ending renaming returned -> zk
theorem B9 {w:World} {B B' e s:Nat} {v:Value} {n:Nat} {xs:List Value} (h:w.ownsRow B e s v n xs) (hb:B'<=B):w.ownsRow B' e s v n xs:=by
 obtain ⟨h1,h | ⟨g,cap,cur,h2,h3,h4⟩⟩:=h
 ·exact ⟨h1,Or.inl h⟩
 ·exact ⟨h1,Or.inr ⟨g,cap,cur,h2,Nat.le_trans hb h3,h4⟩⟩
theorem Ak {w:World} {B e s:Nat} {v:Value} {n:Nat} {xs:List Value} (h:w.ownsRow B e s v n xs):∃ a n c,v=O a n c:=by
 obtain ⟨h1,⟨h,_⟩ | ⟨g,cap,cur,h2,h3,h4⟩⟩:=h
 ·exact ⟨_,_,_,h⟩
 ·exact ⟨_,_,_,h2⟩
theorem Jp (m:Int) (ga gn gc) (sa sn sc ya yn yc oa on oc va vn vc fa fn fc ba bn bc la ln lc ka kn kc gs) (lr lw kr kw:Value) (l k) (w:World) (hg:Az w (O ga gn gc) gs) (hl:AQ w (zh #[lr,lw]) l) (hk:AQ w (zh #[kr,kw]) k) (h2:Dp m gs l k=0) :
  Calls Tryz.prog 57 #[zh #[U zd m,O ga gn gc,O sa sn sc,O ya yn yc,O oa on oc,O va vn vc,O fa fn fc,O ba bn bc,O la ln lc,O ka kn kc],zh #[lr,lw],zh #[kr,kw]] w fun e w'=>e=zk (zg (Ay l k m.toNat))/\Ov w w':=by
 have hbel:Ov w (((w.alloc (ze #[U zd m,O ga gn gc,O sa sn sc,O ya yn yc,O oa on oc,O va vn vc,O fa fn fc,O ba bn bc,O la ln lc,O ka kn kc] 108)).alloc (ze #[lr,lw] 50)).alloc (ze #[kr,kw] 50)):=((bA w _).alloc (by simp) _).alloc (by simp;omega) _
 have K:=Aa (Hl m (O ga gn gc) gs (zh #[lr,lw]) (zh #[kr,kw]) l k _ (Af hg hbel) (Ag hl hbel) (Ag hk hbel))
 rw [h2] at K
 obtain ⟨a1,n1,c1',rfl⟩:∃ a n c,lr=O a n c:=by obtain ⟨x,y,e,⟨a,c,e2,-⟩,-⟩:=hl;simp at e;obtain ⟨rfl,rfl⟩:=e;exact ⟨_,_,_,e2⟩
 obtain ⟨a2,n2,c2',rfl⟩:∃ a n c,lw=O a n c:=by obtain ⟨x,y,e,-,⟨a,c,e2,-⟩⟩:=hl;simp at e;obtain ⟨rfl,rfl⟩:=e;exact ⟨_,_,_,e2⟩
 obtain ⟨a3,n3,c3',rfl⟩:∃ a n c,kr=O a n c:=by obtain ⟨x,y,e,⟨a,c,e2,-⟩,-⟩:=hk;simp at e;obtain ⟨rfl,rfl⟩:=e;exact ⟨_,_,_,e2⟩
 obtain ⟨a4,n4,c4',rfl⟩:∃ a n c,kw=O a n c:=by obtain ⟨x,y,e,-,⟨a,c,e2,-⟩⟩:=hk;simp at e;obtain ⟨rfl,rfl⟩:=e;exact ⟨_,_,_,e2⟩
 obtain ⟨c0,c1⟩:=rc2 (Nq w [U zd m,O ga gn gc,O sa sn sc,O ya yn yc,O oa on oc,O va vn vc,O fa fn fc,O ba bn bc,O la ln lc,O ka kn kc] 108 (ze #[O a1 n1 c1',O a2 n2 c2'] 50) (ze #[O a3 n3 c3',O a4 n4 c4'] 50))
 obtain ⟨d0,d1⟩:=rc2 (Np w (ze #[U zd m,O ga gn gc,O sa sn sc,O ya yn yc,O oa on oc,O va vn vc,O fa fn fc,O ba bn bc,O la ln lc,O ka kn kc] 108) [O a1 n1 c1',O a2 n2 c2'] 50 (ze #[O a3 n3 c3',O a4 n4 c4'] 50))
 obtain ⟨e0,e1⟩:=rc2 (O3 w (ze #[U zd m,O ga gn gc,O sa sn sc,O ya yn yc,O oa on oc,O va vn vc,O fa fn fc,O ba bn bc,O la ln lc,O ka kn kc] 108) (ze #[O a1 n1 c1',O a2 n2 c2'] 50) [O a3 n3 c3',O a4 n4 c4'] 50)
 clear hg hl hk h2
 go_enter Tryz.func57,Tryz.ntmps57
 go_wp2_with fail
 refine (K.o).mono ?_
 rintro e w1 ⟨rfl,hb1⟩
 have hB1:=hbel.trans (hb1.mono (by simp <;> omega))
 clear K c0 c1 d0 d1 e0 e1
 go_wp2_with fail
 exact bodyPost_ret (v:=zg (Ay l k m.toNat)) (by simp [results,Tryz.results57,go_sem]) rfl ⟨rfl,hB1⟩
theorem J3 (m:Int) (ga gn gc) (sa sn sc ya yn yc oa on oc va vn vc fa fn fc ba bn bc la ln lc ka kn kc gs) (lr lw kr kw:Value) (l k) (w:World) (hg:Az w (O ga gn gc) gs) (hl:AQ w (zh #[lr,lw]) l) (hk:AQ w (zh #[kr,kw]) k) (h2:Dp m gs l k=0) :
  Calls Tryz.prog 58 #[zh #[U zd m,O ga gn gc,O sa sn sc,O ya yn yc,O oa on oc,O va vn vc,O fa fn fc,O ba bn bc,O la ln lc,O ka kn kc],zh #[lr,lw],zh #[kr,kw]] w fun e w'=>∃ vj,e=zk vj/\Be w w' vj (Bs l k m.toNat)/\Ov w w':=by
 have hbel:Ov w ((((w.alloc (ze #[U zd m,O ga gn gc,O sa sn sc,O ya yn yc,O oa on oc,O va vn vc,O fa fn fc,O ba bn bc,O la ln lc,O ka kn kc] 108)).alloc (ze #[lr,lw] 50)).alloc (ze #[kr,kw] 50)).alloc (ze #[O none 0 0,O none 0 0] 50)):=(((bA w _).alloc (by simp) _).alloc (by simp;omega) _).alloc (by simp;omega) _
 have K:=Aa (Mf m (O ga gn gc) gs (zh #[lr,lw]) (zh #[kr,kw]) l k _ (Af hg hbel) (Ag hl hbel) (Ag hk hbel))
 rw [h2] at K
 obtain ⟨a1,n1,c1',rfl⟩:∃ a n c,lr=O a n c:=by obtain ⟨x,y,e,⟨a,c,e2,-⟩,-⟩:=hl;simp at e;obtain ⟨rfl,rfl⟩:=e;exact ⟨_,_,_,e2⟩
 obtain ⟨a2,n2,c2',rfl⟩:∃ a n c,lw=O a n c:=by obtain ⟨x,y,e,-,⟨a,c,e2,-⟩⟩:=hl;simp at e;obtain ⟨rfl,rfl⟩:=e;exact ⟨_,_,_,e2⟩
 obtain ⟨a3,n3,c3',rfl⟩:∃ a n c,kr=O a n c:=by obtain ⟨x,y,e,⟨a,c,e2,-⟩,-⟩:=hk;simp at e;obtain ⟨rfl,rfl⟩:=e;exact ⟨_,_,_,e2⟩
 obtain ⟨a4,n4,c4',rfl⟩:∃ a n c,kw=O a n c:=by obtain ⟨x,y,e,-,⟨a,c,e2,-⟩⟩:=hk;simp at e;obtain ⟨rfl,rfl⟩:=e;exact ⟨_,_,_,e2⟩
 obtain ⟨c0,c1⟩:=rc2 (Nq w [U zd m,O ga gn gc,O sa sn sc,O ya yn yc,O oa on oc,O va vn vc,O fa fn fc,O ba bn bc,O la ln lc,O ka kn kc] 108 (ze #[O a1 n1 c1',O a2 n2 c2'] 50) (ze #[O a3 n3 c3',O a4 n4 c4'] 50))
 obtain ⟨d0,d1⟩:=rc2 (Np w (ze #[U zd m,O ga gn gc,O sa sn sc,O ya yn yc,O oa on oc,O va vn vc,O fa fn fc,O ba bn bc,O la ln lc,O ka kn kc] 108) [O a1 n1 c1',O a2 n2 c2'] 50 (ze #[O a3 n3 c3',O a4 n4 c4'] 50))
 obtain ⟨e0,e1⟩:=rc2 (O3 w (ze #[U zd m,O ga gn gc,O sa sn sc,O ya yn yc,O oa on oc,O va vn vc,O fa fn fc,O ba bn bc,O la ln lc,O ka kn kc] 108) (ze #[O a1 n1 c1',O a2 n2 c2'] 50) [O a3 n3 c3',O a4 n4 c4'] 50)
 clear hg hl hk h2
 go_enter Tryz.func58,Tryz.ntmps58
 go_wp2_with fail
 refine (K.o).mono ?_
 rintro e w1 ⟨vj,rfl,hf,hb1⟩
 rw [if_pos trivial] at hf
 have hB1:=hbel.trans (hb1.mono (by simp <;> omega))
 obtain ⟨vr,vw,rfl,hr,hw,hap⟩:=hf
 have hr1:=B9 (B':=w.heap.size+1+1+1+1) hr (by simp)
 have hw1:=B9 (B':=w.heap.size+1+1+1+1) hw (by simp)
 obtain ⟨p1,q1,r1,rfl⟩:=Ak hr1
 obtain ⟨p2,q2,r2,rfl⟩:=Ak hw1
 have hbz:Ov w1 (w1.alloc (ze #[O p1 q1 r1,O p2 q2 r2] 50)):=bA w1 _
 have hlt:w.heap.size+1+1+1 < w1.heap.size:=by have:=hb1.size;simp at this;omega
 obtain ⟨hc,hfr⟩:=Al hb1
 obtain ⟨hc2,hfr2⟩:=Al hbz
 have x0:(w1.alloc (ze #[O p1 q1 r1,O p2 q2 r2] 50)).cell? ⟨w.heap.size+1+1+1,0,none⟩=some (O none 0 0):=by rw [hc2 _ _ (by first | omega | (simp <;> omega)),hc _ _ (by first | omega | (simp <;> omega))];simp [go_sem]
 have x1:(w1.alloc (ze #[O p1 q1 r1,O p2 q2 r2] 50)).cell? ⟨w.heap.size+1+1+1,1,none⟩=some (O none 0 0):=by rw [hc2 _ _ (by first | omega | (simp <;> omega)),hc _ _ (by first | omega | (simp <;> omega))];simp [go_sem]
 have f0:(w1.alloc (ze #[O p1 q1 r1,O p2 q2 r2] 50)).frozen? ⟨w.heap.size+1+1+1,0,none⟩=false:=by rw [hfr2 _ _ (by first | omega | (simp <;> omega)),hfr _ _ (by first | omega | (simp <;> omega))];simp [go_sem]
 have f1:(w1.alloc (ze #[O p1 q1 r1,O p2 q2 r2] 50)).frozen? ⟨w.heap.size+1+1+1,1,none⟩=false:=by rw [hfr2 _ _ (by first | omega | (simp <;> omega)),hfr _ _ (by first | omega | (simp <;> omega))];simp [go_sem]
 have HR:=Aa (C2 hr1 hbz)
 have HW:=Aa (C2 hw1 hbz)
 have HB:=Aa (hB1.trans (hbz.mono hB1.size))
 have HAP:=Aa hap
 have HLT:=Aa hlt
 clear K c0 c1 d0 d1 e0 e1 hr hw hr1 hw1 hap hc hfr hc2 hfr2 hb1 hB1 hbel hlt hbz
 go_wp2_with fail
 exact bodyPost_ret (v:=zh #[O p1 q1 r1,O p2 q2 r2]) (by simp [results,Tryz.results58,go_sem,x0,x1]) rfl ⟨_,rfl,⟨_,_,rfl,B9 (Bm (Bm HR.o (by simp) _) (by simp) _) (by omega),B9 (Bm (Bm HW.o (by simp) _) (by simp) _) (by omega),HAP.o⟩,(HB.o.setCell (by simp;omega) _).setCell (by simp;omega) _⟩
theorem Hd (m:Int) (ga gn gc) (sa sn sc ya yn yc oa on oc va vn vc fa fn fc ba bn bc la ln lc ka kn kc gs) (pr pw:Value) (bl:Lab) (w:World) (hg:Az w (O ga gn gc) gs) (hl:AC w pr bl.r) (hk:AC w pw bl.w) (h2:Bo m gs bl=0) :
  Calls Tryz.prog 114 #[zh #[U zd m,O ga gn gc,O sa sn sc,O ya yn yc,O oa on oc,O va vn vc,O fa fn fc,O ba bn bc,O la ln lc,O ka kn kc],zh #[pr,pw]] w fun e w'=>∃ vj,e=zk vj/\Be w w' vj (AA (AD gs) m.toNat bl)/\Ov w w':=by
 obtain ⟨a1,n1,z1,rfl⟩:=AO hl
 obtain ⟨a2,n2,z2,rfl⟩:=AO hk
 have hbel:Ov w (((w.alloc (ze #[U zd m,O ga gn gc,O sa sn sc,O ya yn yc,O oa on oc,O va vn vc,O fa fn fc,O ba bn bc,O la ln lc,O ka kn kc] 108)).alloc (ze #[O a1 n1 z1,O a2 n2 z2] 39)).alloc (ze #[O none 0 0,O none 0 0] 50)):=((bA w _).alloc (by simp) _).alloc (by simp;omega) _
 have K:=Aa (J0 m (O ga gn gc) gs (O a1 n1 z1) (O a2 n2 z2) bl _ (Af hg hbel) (Ai hl hbel) (Ai hk hbel))
 rw [h2] at K
 obtain ⟨c0,c1⟩:=rc2 (Nq w [U zd m,O ga gn gc,O sa sn sc,O ya yn yc,O oa on oc,O va vn vc,O fa fn fc,O ba bn bc,O la ln lc,O ka kn kc] 108 (ze #[O a1 n1 z1,O a2 n2 z2] 39) (ze #[O none 0 0,O none 0 0] 50))
 obtain ⟨d0,d1⟩:=rc2 (Np w (ze #[U zd m,O ga gn gc,O sa sn sc,O ya yn yc,O oa on oc,O va vn vc,O fa fn fc,O ba bn bc,O la ln lc,O ka kn kc] 108) [O a1 n1 z1,O a2 n2 z2] 39 (ze #[O none 0 0,O none 0 0] 50))
 clear hg hl hk h2
 go_enter Tryz.func114,Tryz.ntmps114
 go_wp2_with fail
 refine (K.o).mono ?_
 rintro e w1 ⟨vj,rfl,hf,hb1⟩
 rw [if_pos trivial] at hf
 have hB1:=hbel.trans (hb1.mono (by simp <;> omega))
 obtain ⟨vr,vw,rfl,hr,hw,hap⟩:=hf
 have hr1:=B9 (B':=w.heap.size+1+1+1) hr (by simp)
 have hw1:=B9 (B':=w.heap.size+1+1+1) hw (by simp)
 obtain ⟨p1,q1,r1,rfl⟩:=Ak hr1
 obtain ⟨p2,q2,r2,rfl⟩:=Ak hw1
 have hbz:Ov w1 (w1.alloc (ze #[O p1 q1 r1,O p2 q2 r2] 50)):=bA w1 _
 have hlt:w.heap.size+1+1 < w1.heap.size:=by have:=hb1.size;simp at this;omega
 obtain ⟨hc,hfr⟩:=Al hb1
 obtain ⟨hc2,hfr2⟩:=Al hbz
 have x0:(w1.alloc (ze #[O p1 q1 r1,O p2 q2 r2] 50)).cell? ⟨w.heap.size+1+1,0,none⟩=some (O none 0 0):=by rw [hc2 _ _ (by first | omega | (simp <;> omega)),hc _ _ (by first | omega | (simp <;> omega))];simp [go_sem]
 have x1:(w1.alloc (ze #[O p1 q1 r1,O p2 q2 r2] 50)).cell? ⟨w.heap.size+1+1,1,none⟩=some (O none 0 0):=by rw [hc2 _ _ (by first | omega | (simp <;> omega)),hc _ _ (by first | omega | (simp <;> omega))];simp [go_sem]
 have f0:(w1.alloc (ze #[O p1 q1 r1,O p2 q2 r2] 50)).frozen? ⟨w.heap.size+1+1,0,none⟩=false:=by rw [hfr2 _ _ (by first | omega | (simp <;> omega)),hfr _ _ (by first | omega | (simp <;> omega))];simp [go_sem]
 have f1:(w1.alloc (ze #[O p1 q1 r1,O p2 q2 r2] 50)).frozen? ⟨w.heap.size+1+1,1,none⟩=false:=by rw [hfr2 _ _ (by first | omega | (simp <;> omega)),hfr _ _ (by first | omega | (simp <;> omega))];simp [go_sem]
 have HR:=Aa (C2 hr1 hbz)
 have HW:=Aa (C2 hw1 hbz)
 have HB:=Aa (hB1.trans (hbz.mono hB1.size))
 have HAP:=Aa hap
 have HLT:=Aa hlt
 clear K c0 c1 d0 d1 hr hw hr1 hw1 hap hc hfr hc2 hfr2 hb1 hB1 hbel hlt hbz
 go_wp2_with fail
 exact bodyPost_ret (v:=zh #[O p1 q1 r1,O p2 q2 r2]) (by simp [results,Tryz.results114,go_sem,x0,x1]) rfl ⟨_,rfl,⟨_,_,rfl,B9 (Bm (Bm HR.o (by simp) _) (by simp) _) (by omega),B9 (Bm (Bm HW.o (by simp) _) (by simp) _) (by omega),HAP.o⟩,(HB.o.setCell (by simp;omega) _).setCell (by simp;omega) _⟩
end Go.Proofs.YtfffpjkcfnekaaaGreat.Ex
namespace Go.Proofs.YtfffpjkcfnekaaaGreat.Ex
def Bw (n:Nat):Lev:=⟨List.replicate n true,List.replicate n false⟩
def AF:Nat->D->List Int
 | 0,_=>[]
 | k+1,d=>if AI d=2 then [Bc d] else (AH d).flatMap (AF k)
def AZ (n:Nat) (L:List Lev) (l:Lev) (vs:List Int):Lev:=vs.foldl (fun l v=>Bs l (L.getD v.toNat AE) n) l
section walk
variable {σ:Type} (n K:Nat) (lev:σ->List Lev) (step:Int->D->Lev->σ->σ)
def En (cnt:D->Nat) (cnt1:List D->Nat) (rec:List D->Int->Lev->σ->σ) (p:Lev) (q:Int × σ) (d:D):Int × σ:=
 (q.1+(cnt d:Int),rec (Ax d) (q.1+1+(cnt1 (Av d):Int)) (AZ n (lev (step q.1 d p q.2)) p (AF K (AV d)))
  (rec (Av d) (q.1+1) (AZ n (lev (step q.1 d p q.2)) p (AF K (AV d))) (step q.1 d p q.2)))
def goS:Nat->List D->Int->Lev->σ->σ
 | 0,_,_,_,st=>st
 | k+1,l,a,p,st=>(l.foldl (En n K lev step (CW (k+1)) (A7 k) (goS k) p) (a,st)).2
def goF (flev:σ->List Lev) (kf:Nat) (q:Int × σ) (x:Nat × FnD):Int × σ:=
 (q.1+(A7 kf x.2.body:Int),goS n K lev step kf x.2.body q.1 ((flev q.2).getD x.1 AE) q.2)
def CA (flev:σ->List Lev) (kf:Nat) (fs:List FnD) (main:List D) (st:σ):σ:=
 let q:=((List.range fs.length).zip fs).foldl (goF n K lev step flev kf) (0,st)
 goS n K lev step kf main q.1 (Bw n) q.2
theorem Ds {R:σ->σ->Prop} (hr:∀ st,R st st) (ht:∀ {a b c},R a b->R b c->R a c) (hs:∀ a d p st,R st (step a d p st)) :
  ∀ (k:Nat) (l:List D) (a:Int) (p:Lev) (st:σ),R st (goS n K lev step k l a p st):=by
 intro k
 induction k with
 | zero=>intro l a p st;exact hr st
 | succ k ih=>
  intro l
  unfold goS
  induction l with
  | nil=>intro a p st;exact hr st
  | cons d l ihl=>
   intro a p st
   rw [List.foldl_cons]
   refine ht ?_ (ihl _ p _)
   exact ht (hs _ _ _ _) (ht (ih _ _ _ _) (ih _ _ _ _))
theorem F9 {R:σ->σ->Prop} (hr:∀ st,R st st) (ht:∀ {a b c},R a b->R b c->R a c) (hs:∀ a d p st,R st (step a d p st)) (flev:σ->List Lev) (kf:Nat) (fs main) (st:σ) :
  R st (CA n K lev step flev kf fs main st):=by
 unfold CA
 have h:∀ (xs:List (Nat × FnD)) (q:Int × σ),R q.2 (xs.foldl (goF n K lev step flev kf) q).2:=by
  intro xs
  induction xs with
  | nil=>intro q;exact hr _
  | cons x xs ih=>
   intro q
   rw [List.foldl_cons]
   exact ht (Ds n K lev step hr ht hs _ _ _ _ _) (ih (goF n K lev step flev kf q x))
 exact ht (h _ (0,st)) (Ds n K lev step hr ht hs _ _ _ _ _)
theorem GL {P:Nat->D->Prop} {P1:D->Prop} (hP:∀ k d,P (k+1) d->P1 d/\(∀ s∈Av d,P k s)/\∀ s∈Ax d,P k s) {R:σ->σ->Prop} (hr:∀ st,R st st) (ht:∀ {a b c},R a b->R b c->R a c) (hs:∀ a d p st,P1 d->R st (step a d p st)) :
  ∀ (k:Nat) (l:List D) (a:Int) (p:Lev) (st:σ),(∀ s∈l,P k s)->R st (goS n K lev step k l a p st):=by
 intro k
 induction k with
 | zero=>intro l a p st _;exact hr st
 | succ k ih=>
  intro l
  unfold goS
  induction l with
  | nil=>intro a p st _;exact hr st
  | cons d l ihl=>
   intro a p st hl
   obtain ⟨h1,h2,h3⟩:=hP k d (hl d (by simp))
   rw [List.foldl_cons]
   refine ht ?_ (ihl _ p _ fun s hs=>hl s (by simp [hs]))
   exact ht (hs _ _ _ _ h1) (ht (ih _ _ _ _ h2) (ih _ _ _ _ h3))
theorem Ft {P Pm:Nat->D->Prop} {P1:D->Prop} (hPm:∀ k d,Pm (k+1) d->P1 d/\(∀ s∈Av d,Pm k s)/\∀ s∈Ax d,Pm k s) {Q:Nat->Nat->D->Prop} (hQ:∀ i k d,Q i (k+1) d->P1 d/\(∀ s∈Av d,Q i k s)/\∀ s∈Ax d,Q i k s)
  {R:σ->σ->Prop} (hr:∀ st,R st st) (ht:∀ {a b c},R a b->R b c->R a c) (hs:∀ a d p st,P1 d->R st (step a d p st)) (flev:σ->List Lev) (kf:Nat) (fs:List FnD) (main:List D) (st:σ) (hf:∀ i (h:i < fs.length),∀ s∈fs[i].body,Q i kf s) (hm:∀ s∈main,Pm kf s) :
  R st (CA n K lev step flev kf fs main st):=by
 unfold CA
 have h:∀ (xs:List (Nat × FnD)) (q:Int × σ),(∀ x∈xs,∀ s∈x.2.body,Q x.1 kf s)->R q.2 (xs.foldl (goF n K lev step flev kf) q).2:=by
  intro xs
  induction xs with
  | nil=>intro q _;exact hr _
  | cons x xs ih=>
   intro q hx
   rw [List.foldl_cons]
   exact ht (GL n K lev step (hQ x.1) hr ht hs _ _ _ _ _ (hx x (by simp))) (ih (goF n K lev step flev kf q x) fun y hy=>hx y (by simp [hy]))
 refine ht (h _ (0,st) fun x hx=>?_) (GL n K lev step hPm hr ht hs _ _ _ _ _ hm)
 obtain ⟨i,hi,rfl⟩:=List.getElem_of_mem hx
 simp at hi
 simp only [List.getElem_zip,List.getElem_range]
 exact hf i hi
end walk
theorem J6 {σ τ:Type} (n K:Nat) (lev:σ->List Lev) (step:Int->D->Lev->σ->σ) (lev':τ->List Lev) (step':Int->D->Lev->τ->τ) (Q:Lev->Lev->Prop) (R:σ->τ->Prop) (G:τ->Prop) (E:σ->Prop)
  (hG:∀ a d p t,G (step' a d p t)->G t) (hE:∀ a d p t,E (step a d p t)->E t)
  (hs:∀ a d p p' s t,R s t->Q p p'->E (step a d p s)->G (step' a d p' t)->R (step a d p s) (step' a d p' t)/\Q (AZ n (lev (step a d p s)) p (AF K (AV d))) (AZ n (lev' (step' a d p' t)) p' (AF K (AV d)))) :
  ∀ (k:Nat) (l:List D) (a:Int) (p p':Lev) (s:σ) (t:τ),R s t->Q p p'->E (goS n K lev step k l a p s)->G (goS n K lev' step' k l a p' t)->R (goS n K lev step k l a p s) (goS n K lev' step' k l a p' t):=by
 have mG:∀ (k:Nat) (l:List D) (a:Int) (p:Lev) (t:τ),G (goS n K lev' step' k l a p t)->G t:=fun k l a p t=>Ds n K lev' step' (R:=fun a b=>G b->G a) (fun _ h=>h) (fun h1 h2 h=>h1 (h2 h)) hG k l a p t
 have mE:∀ (k:Nat) (l:List D) (a:Int) (p:Lev) (t:σ),E (goS n K lev step k l a p t)->E t:=fun k l a p t=>Ds n K lev step (R:=fun a b=>E b->E a) (fun _ h=>h) (fun h1 h2 h=>h1 (h2 h)) hE k l a p t
 intro k
 induction k with
 | zero=>intro l a p p' s t h _ _ _;exact h
 | succ k ih=>
  intro l
  unfold goS
  have mG':∀ (l:List D) (p:Lev) (q:Int × τ),G (l.foldl (En n K lev' step' (CW (k+1)) (A7 k) (goS n K lev' step' k) p) q).2->G q.2:=by
   intro l p q h
   have:=mG (k+1) l q.1 p q.2
   unfold goS at this
   exact this h
  have mE':∀ (l:List D) (p:Lev) (q:Int × σ),E (l.foldl (En n K lev step (CW (k+1)) (A7 k) (goS n K lev step k) p) q).2->E q.2:=by
   intro l p q h
   have:=mE (k+1) l q.1 p q.2
   unfold goS at this
   exact this h
  induction l with
  | nil=>intro a p p' s t h _ _ _;exact h
  | cons d l ihl=>
   intro a p p' s t h hp he hg
   rw [List.foldl_cons] at he hg ⊢
   rw [List.foldl_cons]
   have h1:=mG' _ _ _ hg
   have g1:=mE' _ _ _ he
   have h2:=mG _ _ _ _ _ h1
   have g2:=mE _ _ _ _ _ g1
   have h3:=mG _ _ _ _ _ h2
   have g3:=mE _ _ _ _ _ g2
   obtain ⟨r1,r2⟩:=hs a d p p' s t h hp g3 h3
   have r3:=ih (Av d) (a+1) _ _ _ _ r1 r2 g2 h2
   have r4:=ih (Ax d) (a+1+(A7 k (Av d):Int)) _ _ _ _ r3 r2 g1 h1
   exact ihl _ p p' _ _ r4 hp he hg
theorem Fb {σ τ:Type} (n K:Nat) (lev flev:σ->List Lev) (step:Int->D->Lev->σ->σ) (lev' flev':τ->List Lev) (step':Int->D->Lev->τ->τ) (Q:Lev->Lev->Prop) (R:σ->τ->Prop) (G:τ->Prop) (E:σ->Prop)
  (hG:∀ a d p t,G (step' a d p t)->G t) (hE:∀ a d p t,E (step a d p t)->E t)
  (hs:∀ a d p p' s t,R s t->Q p p'->E (step a d p s)->G (step' a d p' t)->R (step a d p s) (step' a d p' t)/\Q (AZ n (lev (step a d p s)) p (AF K (AV d))) (AZ n (lev' (step' a d p' t)) p' (AF K (AV d))))
  (hf:∀ s t,R s t->∀ i,Q ((flev s).getD i AE) ((flev' t).getD i AE)) (hb:Q (Bw n) (Bw n)) (kf:Nat) (fs:List FnD) (main:List D) (s:σ) (t:τ) (h:R s t) (he:E (CA n K lev step flev kf fs main s)) (hg:G (CA n K lev' step' flev' kf fs main t)) :
  R (CA n K lev step flev kf fs main s) (CA n K lev' step' flev' kf fs main t):=by
 have mG:∀ (k:Nat) (l:List D) (a:Int) (p:Lev) (t:τ),G (goS n K lev' step' k l a p t)->G t:=fun k l a p t=>Ds n K lev' step' (R:=fun a b=>G b->G a) (fun _ h=>h) (fun h1 h2 h=>h1 (h2 h)) hG k l a p t
 have mE:∀ (k:Nat) (l:List D) (a:Int) (p:Lev) (t:σ),E (goS n K lev step k l a p t)->E t:=fun k l a p t=>Ds n K lev step (R:=fun a b=>E b->E a) (fun _ h=>h) (fun h1 h2 h=>h1 (h2 h)) hE k l a p t
 have mGf:∀ (xs:List (Nat × FnD)) (q:Int × τ),G (xs.foldl (goF n K lev' step' flev' kf) q).2->G q.2:=by
  intro xs
  induction xs with
  | nil=>intro q h;exact h
  | cons x xs ih=>intro q h;rw [List.foldl_cons] at h;exact mG _ _ _ _ _ (ih _ h)
 have mEf:∀ (xs:List (Nat × FnD)) (q:Int × σ),E (xs.foldl (goF n K lev step flev kf) q).2->E q.2:=by
  intro xs
  induction xs with
  | nil=>intro q h;exact h
  | cons x xs ih=>intro q h;rw [List.foldl_cons] at h;exact mE _ _ _ _ _ (ih _ h)
 have hx:∀ (xs:List (Nat × FnD)) (a:Int) (s:σ) (t:τ),R s t->E (xs.foldl (goF n K lev step flev kf) (a,s)).2->G (xs.foldl (goF n K lev' step' flev' kf) (a,t)).2 ->
   R (xs.foldl (goF n K lev step flev kf) (a,s)).2 (xs.foldl (goF n K lev' step' flev' kf) (a,t)).2/\(xs.foldl (goF n K lev step flev kf) (a,s)).1=(xs.foldl (goF n K lev' step' flev' kf) (a,t)).1:=by
  intro xs
  induction xs with
  | nil=>intro a s t h _ _;exact ⟨h,rfl⟩
  | cons x xs ih=>
   intro a s t h he hg
   rw [List.foldl_cons] at he hg ⊢
   rw [List.foldl_cons]
   exact ih _ _ _ (J6 n K lev step lev' step' Q R G E hG hE hs kf _ a _ _ s t h (hf s t h x.1) (mEf _ _ he) (mGf _ _ hg)) he hg
 unfold CA at he hg ⊢
 obtain ⟨h1,h2⟩:=hx _ 0 s t h (mE _ _ _ _ _ he) (mG _ _ _ _ _ hg)
 dsimp only at he hg ⊢
 rw [h2] at he ⊢
 exact J6 n K lev step lev' step' Q R G E hG hE hs kf _ _ _ _ _ _ h1 hb he hg
theorem Cs (f:Nat->Bool) {n i:Nat} (h:i < n):(BR f n)[i]?.getD false=f i:=by simp [BR,h]
theorem Ck (l) (n:Nat):Ay l l n=true:=AL.2 fun _ _=>⟨id,id⟩
theorem CR {l k q:Lev} {n:Nat} (h:Ay l k n=true) (h2:Ay k q n=true):Ay l q n=true:=
 AL.2 fun i hi=>⟨fun h3=>(AL.1 h i hi).1 ((AL.1 h2 i hi).1 h3),fun h3=>(AL.1 h2 i hi).2 ((AL.1 h i hi).2 h3)⟩
theorem Hn {l k q:Lev} {n:Nat} (h:Ay l q n=true) (h2:Ay k q n=true):Ay (Bs l k n) q n=true:=AL.2 fun i hi=>by
 have a:=AL.1 h i hi
 have b:=AL.1 h2 i hi
 simp only [Bs,Cs _ hi,Dk,EH]
 revert a b
 cases l.r[i]?.getD false <;> cases k.r[i]?.getD false <;> cases l.w[i]?.getD false <;> cases k.w[i]?.getD false <;> cases q.r[i]?.getD false <;> cases q.w[i]?.getD false <;> simp
theorem Gd (l k) (n:Nat):Ay l (Bs l k n) n=true:=AL.2 fun i hi=>by
 simp only [Bs,Cs _ hi,Dk,EH]
 cases l.r[i]?.getD false <;> cases k.r[i]?.getD false <;> cases l.w[i]?.getD false <;> cases k.w[i]?.getD false <;> simp
theorem Hm (l k) (n:Nat):Ay k (Bs l k n) n=true:=AL.2 fun i hi=>by
 simp only [Bs,Cs _ hi,Dk,EH]
 cases l.r[i]?.getD false <;> cases k.r[i]?.getD false <;> cases l.w[i]?.getD false <;> cases k.w[i]?.getD false <;> simp
theorem II {l k l' k':Lev} {n:Nat} (h:Ay l l' n=true) (h2:Ay k k' n=true):Ay (Bs l k n) (Bs l' k' n) n=true:=
 Hn (CR h (Gd _ _ _)) (CR h2 (Hm _ _ _))
theorem OJ {l k l' k':Lev} {n:Nat} (h:Ay l l' n=true) (h2:Ay k k' n=true):Ay ⟨l.r,k.w⟩ ⟨l'.r,k'.w⟩ n=true:=
 AL.2 fun i hi=>⟨(AL.1 h i hi).1,(AL.1 h2 i hi).2⟩
theorem Ho (n:Nat) (q):Ay (Bw n) q n=true:=AL.2 fun i hi=>by simp [Bw,hi]
theorem FE {n:Nat} {L L':List Lev} (hL:∀ i,Ay (L.getD i AE) (L'.getD i AE) n=true):∀ (vs:List Int) (l l':Lev),Ay l l' n=true->Ay (AZ n L l vs) (AZ n L' l' vs) n=true
 | [],_,_,h=>h
 | v::vs,l,l',h=>FE hL vs _ _ (II h (hL _))
theorem FH {n:Nat} {L:List Lev}:∀ (vs:List Int) (l:Lev),l.len n->(AZ n L l vs).len n
 | [],_,h=>h
 | v::vs,l,_=>FH vs _ ⟨A5 _ _,A5 _ _⟩
section ask
variable {σ:Type} (n K:Nat) (lev:σ->List Lev) (known:List Bool) (ins:List Lev) (fs:List FnD) (flow:Lev->Bool × Nat->σ->σ)
def toVar (l:Lev) (v:Int) (st:σ):σ:=if known.getD v.toNat false=true then st else flow l (true,v.toNat) st
def CF (p:Lev) (st:σ) (q:Int × D):σ:=toVar known flow (AZ n (lev st) p (AF K q.2)) q.1 st
def DM (d:D) (p:Lev) (st:σ):σ:=
 let st1:=((EP fs (Ah d)).ps.zip (Ap d)).foldl (CF n K lev known flow p) st
 flow p (false,(Ah d).toNat) (toVar known flow (AZ n (lev st1) p (AF K (EP fs (Ah d)).res)) (AK d) st1)
def BX (a:Int) (d:D) (p:Lev) (st:σ):σ:=
 if Am d=1 then toVar known flow (AZ n (lev st) p (AF K (AV d))) (AK d) st
 else if Am d=2 then DM n K lev known fs flow d p st
 else if Am d=3 then toVar known flow (Bs p (ins.getD (Ah d).toNat AE) n) (AK d) st
 else if Am d=5 then toVar known flow ⟨p.r,(AZ n (lev st) p (AF K (AV d))).w⟩ (AK d) st
 else if Am d=6 then toVar known flow ⟨(AZ n (lev st) p (AF K (AV d))).r,p.w⟩ (AK d) st
 else st
theorem Ef {R:σ->σ->Prop} (hr:∀ st,R st st) (ht:∀ {a b c},R a b->R b c->R a c) (hv:∀ l i st,known.getD i false=false->R st (flow l (true,i) st)) (hw:∀ l i st,R st (flow l (false,i) st)) (a:Int) (d p) (st:σ):R st (BX n K lev known ins fs flow a d p st):=by
 have h1:∀ l v st,R st (toVar known flow l v st):=by
  intro l v st
  unfold toVar
  split
  ·exact hr st
  ·rename_i h;exact hv _ _ _ (by simpa using h)
 have h2:∀ (xs:List (Int × D)) st,R st (xs.foldl (CF n K lev known flow p) st):=by
  intro xs
  induction xs with
  | nil=>intro st;exact hr st
  | cons x xs ih=>intro st;rw [List.foldl_cons];exact ht (h1 _ _ _) (ih _)
 unfold BX
 repeat' split
 all_goals first | exact h1 _ _ _ | exact hr _ | skip
 unfold DM
 exact ht (h2 _ _) (ht (h1 _ _ _) (hw _ _ _))
end ask
theorem EE {n:Nat} {Q:Lev->Lev->Prop} (hQj:∀ {a a' b b'},Q a a'->Q b b'->Q (Bs a b n) (Bs a' b' n)) {L L':List Lev} (hL:∀ i,Q (L.getD i AE) (L'.getD i AE)):∀ (vs:List Int) (l l':Lev),Q l l'->Q (AZ n L l vs) (AZ n L' l' vs)
 | [],_,_,h=>h
 | v::vs,l,l',h=>EE hQj hL vs _ _ (hQj h (hL _))
theorem IT {σ τ:Type} (n K:Nat) (known:List Bool) (ins fs) (lev:σ->List Lev) (flow:Lev->Bool × Nat->σ->σ) (lev':τ->List Lev) (flow':Lev->Bool × Nat->τ->τ) (Q:Lev->Lev->Prop) (hQr:∀ x,Q x x) (hQj:∀ {a a' b b'},Q a a'->Q b b'->Q (Bs a b n) (Bs a' b' n)) (hQm:∀ {a a' b b':Lev},Q a a'->Q b b'->Q ⟨a.r,b.w⟩ ⟨a'.r,b'.w⟩) (R:σ->τ->Prop) (G:τ->Prop) (E:σ->Prop)
  (hG:∀ l i t,G (flow' l i t)->G t) (hE:∀ l i t,E (flow l i t)->E t)
  (hl:∀ s t,R s t->∀ i,Q ((lev s).getD i AE) ((lev' t).getD i AE))
  (hs:∀ l l' i s t,R s t->Q l l'->E (flow l i s)->G (flow' l' i t)->(i.1=true->known.getD i.2 false=false)->R (flow l i s) (flow' l' i t)) (a:Int) (d:D) (p p':Lev) (s:σ) (t:τ) (h:R s t) (hp:Q p p')
  (he:E (BX n K lev known ins fs flow a d p s)) (hg:G (BX n K lev' known ins fs flow' a d p' t)):R (BX n K lev known ins fs flow a d p s) (BX n K lev' known ins fs flow' a d p' t):=by
 have mE:∀ l v s,E (toVar known flow l v s)->E s:=by
  intro l v s h
  unfold toVar at h
  split at h
  ·exact h
  ·exact hE _ _ _ h
 have mG:∀ l v s,G (toVar known flow' l v s)->G s:=by
  intro l v s h
  unfold toVar at h
  split at h
  ·exact h
  ·exact hG _ _ _ h
 have tv:∀ l l' v s t,R s t->Q l l'->E (toVar known flow l v s)->G (toVar known flow' l' v t)->R (toVar known flow l v s) (toVar known flow' l' v t):=by
  intro l l' v s t h hl he hg
  unfold toVar at he hg ⊢
  split
  ·exact h
  ·rename_i hk
   rw [if_neg hk] at he hg
   exact hs _ _ _ _ _ h hl he hg (fun _=>by simpa using hk)
 have mEs:∀ (xs:List (Int × D)) s,E (xs.foldl (CF n K lev known flow p) s)->E s:=by
  intro xs
  induction xs with
  | nil=>intro s h;exact h
  | cons x xs ih=>intro s h;rw [List.foldl_cons] at h;exact mE _ _ _ (ih _ h)
 have mGs:∀ (xs:List (Int × D)) s,G (xs.foldl (CF n K lev' known flow' p') s)->G s:=by
  intro xs
  induction xs with
  | nil=>intro s h;exact h
  | cons x xs ih=>intro s h;rw [List.foldl_cons] at h;exact mG _ _ _ (ih _ h)
 have ta:∀ (xs:List (Int × D)) s t,R s t->E (xs.foldl (CF n K lev known flow p) s)->G (xs.foldl (CF n K lev' known flow' p') t)->R (xs.foldl (CF n K lev known flow p) s) (xs.foldl (CF n K lev' known flow' p') t):=by
  intro xs
  induction xs with
  | nil=>intro s t h _ _;exact h
  | cons x xs ih=>
   intro s t h he hg
   rw [List.foldl_cons] at he hg ⊢
   rw [List.foldl_cons]
   exact ih _ _ (tv _ _ _ _ _ h (EE hQj (hl s t h) _ _ _ hp) (mEs _ _ he) (mGs _ _ hg)) he hg
 unfold BX at he hg ⊢
 have hw:=EE hQj (hl s t h) (AF K (AV d)) _ _ hp
 split
 ·rename_i hk;rw [if_pos hk] at he hg;exact tv _ _ _ _ _ h hw he hg
 rename_i hk1;rw [if_neg hk1] at he hg
 split
 ·rename_i hk;rw [if_pos hk] at he hg
  unfold DM at he hg ⊢
  dsimp only at he hg ⊢
  have e1:=hE _ _ _ he
  have g1:=hG _ _ _ hg
  have r1:=ta _ s t h (mE _ _ _ e1) (mG _ _ _ g1)
  have r2:=tv _ _ _ _ _ r1 (EE hQj (hl _ _ r1) (AF K (EP fs (Ah d)).res) _ _ hp) e1 g1
  exact hs _ _ _ _ _ r2 hp he hg (fun h=>by cases h)
 rename_i hk2;rw [if_neg hk2] at he hg
 split
 ·rename_i hk;rw [if_pos hk] at he hg;exact tv _ _ _ _ _ h (hQj hp (hQr _)) he hg
 rename_i hk3;rw [if_neg hk3] at he hg
 split
 ·rename_i hk;rw [if_pos hk] at he hg;exact tv _ _ _ _ _ h (hQm hp hw) he hg
 rename_i hk4;rw [if_neg hk4] at he hg
 split
 ·rename_i hk;rw [if_pos hk] at he hg;exact tv _ _ _ _ _ h (hQm hw hp) he hg
 rename_i hk5;rw [if_neg hk5] at he hg
 exact h
structure ISt where
 vs:List Lev
 fs:List Lev
 more:Bool
def ISt.at (st:ISt) (i:Bool × Nat):Lev:=if i.1=true then st.vs.getD i.2 AE else st.fs.getD i.2 AE
def ISt.up (st:ISt) (i:Bool × Nat) (l:Lev):ISt:=if i.1=true then ⟨st.vs.set i.2 l,st.fs,true⟩ else ⟨st.vs,st.fs.set i.2 l,true⟩
def BZ (n:Nat) (l:Lev) (i:Bool × Nat) (st:ISt):ISt:=if Ay l (st.at i) n=true then st else st.up i (Bs (st.at i) l n)
def BM (n:Nat) (L:ISt) (l:Lev) (i:Bool × Nat) (b:Bool):Bool:=b && Ay l (L.at i) n
def DZ (n K kf:Nat) (known:List Bool) (ins:List Lev) (fs:List FnD) (main:List D) (st:ISt):ISt:=
 CA n K ISt.vs (BX n K ISt.vs known ins fs (BZ n)) ISt.fs kf fs main st
def Dh (n K kf:Nat) (known:List Bool) (ins:List Lev) (fs:List FnD) (main:List D) (L:ISt) (b:Bool):Bool:=
 CA n K (fun _=>L.vs) (BX n K (fun _=>L.vs) known ins fs (BM n L)) (fun _=>L.fs) kf fs main b
theorem CB {l:List Lev} {i j:Nat} {x:Lev}:(l.set i x).getD j AE=if i=j/\j < l.length then x else l.getD j AE:=by
 simp only [List.getD_eq_getElem?_getD,List.getElem?_set]
 by_cases h:i=j
 ·subst h
  by_cases h2:i < l.length
  ·simp [h2]
  ·simp [h2]
 ·simp [h]
def LeI (n:Nat) (a b:ISt):Prop:=(∀ i,Ay (a.vs.getD i AE) (b.vs.getD i AE) n=true)/\∀ i,Ay (a.fs.getD i AE) (b.fs.getD i AE) n=true
theorem LeI.at {n:Nat} {a b:ISt} (h:LeI n a b) (i:Bool × Nat):Ay (a.at i) (b.at i) n=true:=by
 unfold ISt.at
 split
 ·exact h.1 _
 ·exact h.2 _
theorem I7 (n K kf:Nat) (known:List Bool) (ins fs main) (L st:ISt) (h:LeI n st L) (hb:Dh n K kf known ins fs main L true=true):LeI n (DZ n K kf known ins fs main st) L:=by
 have key:=Fb n K ISt.vs ISt.fs (BX n K ISt.vs known ins fs (BZ n)) (fun _:Bool=>L.vs) (fun _=>L.fs) (BX n K (fun _=>L.vs) known ins fs (BM n L)) (fun a b=>Ay a b n=true) (fun s _=>LeI n s L) (fun b=>b=true) (fun _=>True)
  (fun a d p t=>Ef n K (fun _=>L.vs) known ins fs (BM n L) (R:=fun a b=>b=true->a=true) (fun _ h=>h) (fun h1 h2 h=>h1 (h2 h)) (fun l i st _ h=>by unfold BM at h;simp at h;exact h.1) (fun l i st h=>by unfold BM at h;simp at h;exact h.1) a d p t)
  (fun _ _ _ _ _=>trivial)
  (fun a d p p' s t h hp he hg=>by
   have r:=IT n K known ins fs ISt.vs (BZ n) (fun _:Bool=>L.vs) (BM n L) (fun a b=>Ay a b n=true) (fun x=>Ck x n) II OJ (fun s _=>LeI n s L) (fun b=>b=true) (fun _=>True)
    (fun l i t h=>by unfold BM at h;simp at h;exact h.1) (fun _ _ _ _=>trivial) (fun s _ h=>h.1)
    (fun l l' i s t h hl _ hg _=>by
     unfold BM at hg
     rw [Bool.and_eq_true] at hg
     unfold BZ
     split
     ·exact h
     ·have hj:Ay (Bs (s.at i) l n) (L.at i) n=true:=Hn (h.at i) (CR hl hg.2)
      unfold ISt.up ISt.at at *
      split
      ·rename_i hi
       rw [if_pos hi] at hj
       refine ⟨fun j=>?_,h.2⟩
       rw [if_pos hi] at hj
       dsimp only
       rw [CB]
       split
       ·rename_i hij;rw [<-hij.1];exact hj
       ·exact h.1 j
      ·rename_i hi
       rw [if_neg hi] at hj
       refine ⟨h.1,fun j=>?_⟩
       rw [if_neg hi] at hj
       dsimp only
       rw [CB]
       split
       ·rename_i hij;rw [<-hij.1];exact hj
       ·exact h.2 j) a d p p' s t h hp he hg
   exact ⟨r,FE r.1 _ _ _ hp⟩)
  (fun s _ h=>h.2) (Ck _ _) kf fs main st true h trivial hb
 exact key
theorem Kr (n K kf:Nat) (known:List Bool) (ins fs main) (st:ISt) (h:(DZ n K kf known ins fs main st).more=false) :
  DZ n K kf known ins fs main st=st/\Dh n K kf known ins fs main st true=true:=by
 have fE:∀ l i t,(BZ n l i t).more=false->t.more=false:=by
  intro l i t h
  unfold BZ at h
  split at h
  ·exact h
  ·unfold ISt.up at h;split at h <;> cases h
 have key:=Fb n K ISt.vs ISt.fs (BX n K ISt.vs known ins fs (BZ n)) (fun _:Bool=>st.vs) (fun _=>st.fs) (BX n K (fun _=>st.vs) known ins fs (BM n st)) (fun a b=>a=b) (fun s b=>s=st/\b=true) (fun _=>True) (fun s=>s.more=false)
  (fun _ _ _ _ _=>trivial)
  (fun a d p t=>Ef n K ISt.vs known ins fs (BZ n) (R:=fun a b=>b.more=false->a.more=false) (fun _ h=>h) (fun h1 h2 h=>h1 (h2 h)) (fun l i t _=>fE l (true,i) t) (fun l i t=>fE l (false,i) t) a d p t)
  (fun a d p p' s t h hp he hg=>by
   have r:=IT n K known ins fs ISt.vs (BZ n) (fun _:Bool=>st.vs) (BM n st) (fun a b=>a=b) (fun _=>rfl) (fun h1 h2=>by rw [h1,h2]) (fun h1 h2=>by rw [h1,h2]) (fun s b=>s=st/\b=true) (fun _=>True) (fun s=>s.more=false)
    (fun _ _ _ _=>trivial) fE (fun s _ h=>by rw [h.1];exact fun i=>rfl)
    (fun l l' i s t h hl he _ _=>by
     obtain ⟨rfl,rfl⟩:=h
     unfold BZ at he ⊢
     split
     ·rename_i hf
      refine ⟨rfl,?_⟩
      unfold BM
      rw [<-hl,hf]
      rfl
     ·rename_i hf
      rw [if_neg hf] at he
      unfold ISt.up at he
      split at he <;> cases he) a d p p' s t h hp he hg
   exact ⟨r,by rw [r.1,hp]⟩)
  (fun s _ h=>by rw [h.1];exact fun i=>rfl) rfl kf fs main st true ⟨rfl,rfl⟩ h trivial
 exact key
def Gh (n:Nat) (l:Lev):Nat:=((List.range n).map fun i=>(if l.r[i]?.getD false=true then 1 else 0)+(if l.w[i]?.getD false=true then 0 else 1)).sum
def Du (n:Nat) (st:ISt):Nat:=(st.vs.map (Gh n)).sum+(st.fs.map (Gh n)).sum
theorem LH {f g:Nat->Nat}:∀ {n:Nat},(∀ i,i < n->f i<=g i)->((List.range n).map f).sum<=((List.range n).map g).sum
 | 0,_=>by simp
 | n+1,h=>by
  rw [List.range_succ,List.map_append,List.map_append,List.sum_append,List.sum_append]
  have:=LH (n:=n) fun i hi=>h i (by omega)
  have:=h n (by omega)
  simp
  omega
theorem LG {f g:Nat->Nat}:∀ {n:Nat},(∀ i,i < n->f i<=g i)->(∃ i,i < n/\f i < g i)->((List.range n).map f).sum < ((List.range n).map g).sum
 | 0,_,⟨i,h,_⟩=>by omega
 | n+1,h,⟨i,hi,hlt⟩=>by
  rw [List.range_succ,List.map_append,List.map_append,List.sum_append,List.sum_append]
  by_cases hn:i=n
  ·subst hn
   have:=LH (n:=i) fun j hj=>h j (by omega)
   simp
   omega
  ·have:=LG (n:=n) (fun j hj=>h j (by omega)) ⟨i,by omega,hlt⟩
   have:=h n (by omega)
   simp
   omega
theorem GS {n:Nat} {x l:Lev} (h:¬ Ay l x n=true):Gh n (Bs x l n) < Gh n x:=by
 have hx:∃ i,i < n/\¬ ((x.r[i]?.getD false=true->l.r[i]?.getD false=true)/\(l.w[i]?.getD false=true->x.w[i]?.getD false=true)):=by
  refine Classical.byContradiction fun hne=>h (AL.2 fun i hi=>Classical.byContradiction fun hc=>hne ⟨i,hi,hc⟩)
 obtain ⟨i,hi,hc⟩:=hx
 unfold Gh
 refine LG (fun j hj=>?_) ⟨i,hi,?_⟩
 ·simp only [Bs,Cs _ hj,Dk,EH]
  cases l.r[j]?.getD false <;> cases x.r[j]?.getD false <;> cases l.w[j]?.getD false <;> cases x.w[j]?.getD false <;> simp
 ·simp only [Bs,Cs _ hi,Dk,EH]
  revert hc
  cases l.r[i]?.getD false <;> cases x.r[i]?.getD false <;> cases l.w[i]?.getD false <;> cases x.w[i]?.getD false <;> simp
theorem G5 {f:Lev->Nat} {y:Lev}:∀ {l:List Lev} {i:Nat},i < l.length->f y < f (l.getD i AE)->((l.set i y).map f).sum < (l.map f).sum
 | [],i,h,_=>by simp at h
 | x::l,0,_,h=>by simp at h ⊢;omega
 | x::l,i+1,hi,h=>by
  have:=G5 (l:=l) (i:=i) (by simpa using hi) (by simpa using h)
  simp only [List.set_cons_succ,List.map_cons,List.sum_cons]
  omega
structure EB (n nv nf:Nat) (known:List Bool) (L:List Lev) (st:ISt):Prop where
 lv:st.vs.length=nv
 lf:st.fs.length=nf
 rv:∀ l∈st.vs,l.len n
 rf:∀ l∈st.fs,l.len n
 kn:∀ i,known.getD i false=true->st.vs.getD i AE=L.getD i AE
theorem DG (l k) (n:Nat):(Bs l k n).len n:=⟨A5 _ _,A5 _ _⟩
def Dd (n nv nf:Nat) (known:List Bool) (L:List Lev) (a b:ISt):Prop:=
 (EB n nv nf known L a->EB n nv nf known L b)/\LeI n a b
theorem Dd.refl (n nv nf:Nat) (known:List Bool) (L) (a:ISt):Dd n nv nf known L a a:=⟨id,fun _=>Ck _ _,fun _=>Ck _ _⟩
theorem Dd.trans {n nv nf:Nat} {known:List Bool} {L:List Lev} {a b c:ISt} (h:Dd n nv nf known L a b) (k:Dd n nv nf known L b c):Dd n nv nf known L a c:=
 ⟨fun x=>k.1 (h.1 x),fun i=>CR (h.2.1 i) (k.2.1 i),fun i=>CR (h.2.2 i) (k.2.2 i)⟩
theorem Fm {l:List Lev} {i:Nat} {x y:Lev} (h:y∈l.set i x):y=x\/y∈l:=by
 rcases List.mem_or_eq_of_mem_set h with h | h
 ·exact Or.inr h
 ·exact Or.inl h
theorem Gb (n nv nf:Nat) (known:List Bool) (L l) (i:Bool × Nat) (st:ISt) (hk:i.1=true->known.getD i.2 false=false):Dd n nv nf known L st (BZ n l i st):=by
 unfold BZ
 split
 ·exact Dd.refl ..
 ·obtain ⟨b,j⟩:=i
  cases b with
  | true=>
   have hk:=hk rfl
   simp only [ISt.up,ISt.at,if_true]
   refine ⟨fun h=>⟨by simpa using h.lv,h.lf,fun x hx=>?_,h.rf,fun m hm=>?_⟩,fun m=>?_,fun m=>Ck _ _⟩
   ·rcases Fm hx with rfl | hx
    ·exact DG _ _ _
    ·exact h.rv x hx
   ·dsimp only
    rw [CB,if_neg,h.kn m hm]
    rintro ⟨rfl,-⟩
    dsimp only at hk
    rw [hk] at hm
    cases hm
   ·dsimp only
    rw [CB]
    split
    ·rename_i h;rw [<-h.1];exact Gd _ _ _
    ·exact Ck _ _
  | false=>
   simp only [ISt.up,ISt.at,Bool.false_eq_true,if_false]
   refine ⟨fun h=>⟨h.lv,by simpa using h.lf,h.rv,fun x hx=>?_,h.kn⟩,fun m=>Ck _ _,fun m=>?_⟩
   ·rcases Fm hx with rfl | hx
    ·exact DG _ _ _
    ·exact h.rf x hx
   ·dsimp only
    rw [CB]
    split
    ·rename_i h;rw [<-h.1];exact Gd _ _ _
    ·exact Ck _ _
theorem Kq (n nv nf K kf:Nat) (known:List Bool) (L ins fs main) (st:ISt):Dd n nv nf known L st (DZ n K kf known ins fs main st):=
 F9 n K ISt.vs _ (R:=Dd n nv nf known L) (Dd.refl n nv nf known L) Dd.trans (fun a d p st=>Ef n K ISt.vs known ins fs (BZ n) (R:=Dd n nv nf known L) (Dd.refl n nv nf known L) Dd.trans (fun l i st hk=>Gb n nv nf known L l (true,i) st fun _=>hk) (fun l i st=>Gb n nv nf known L l (false,i) st fun h=>by cases h) a d p st) ISt.fs kf fs main st
theorem EO {l:List Lev} {i:Nat} (h:l.length<=i):l.getD i AE=AE:=by simp [List.getD_eq_getElem?_getD,List.getElem?_eq_none h]
theorem Lj (n:Nat) (l) (i:Bool × Nat) (st:ISt) (hi:i.1=true->i.2 < st.vs.length) (hi2:i.1=false->i.2 < st.fs.length):BZ n l i st=st\/(Du n (BZ n l i st) < Du n st/\(BZ n l i st).vs.length=st.vs.length/\(BZ n l i st).fs.length=st.fs.length):=by
 unfold BZ
 split
 ·exact Or.inl rfl
 ·rename_i h
  obtain ⟨b,j⟩:=i
  cases b with
  | true=>
   simp only [ISt.up,ISt.at,if_true] at h ⊢
   refine Or.inr ⟨?_,by simp,by simp⟩
   have:=G5 (f:=Gh n) (l:=st.vs) (i:=j) (hi rfl) (GS h)
   unfold Du
   dsimp only
   omega
  | false=>
   simp only [ISt.up,ISt.at,Bool.false_eq_true,if_false] at h ⊢
   refine Or.inr ⟨?_,by simp,by simp⟩
   have:=G5 (f:=Gh n) (l:=st.fs) (i:=j) (hi2 rfl) (GS h)
   unfold Du
   dsimp only
   omega
def inR (nv nf:Nat) (fs:List FnD) (d:D):Prop:=
 ((Am d=1\/Am d=2\/Am d=3\/Am d=5\/Am d=6)->(AK d).toNat < nv)/\(Am d=2->(Ah d).toNat < nf/\∀ v∈(EP fs (Ah d)).ps,v.toNat < nv)
def CH (n nv nf:Nat) (a b:ISt):Prop:=(a.vs.length=nv/\a.fs.length=nf)->(b.vs.length=nv/\b.fs.length=nf)/\Du n b<=Du n a/\(b.more=true->a.more=true\/Du n b < Du n a)
theorem CH.refl (n nv nf:Nat) (a:ISt):CH n nv nf a a:=fun h=>⟨h,Nat.le_refl _,Or.inl⟩
theorem CH.trans {n nv nf:Nat} {a b c:ISt} (h:CH n nv nf a b) (k:CH n nv nf b c):CH n nv nf a c:=fun ha=>by
 obtain ⟨h1,h2,h3⟩:=h ha
 obtain ⟨k1,k2,k3⟩:=k h1
 refine ⟨k1,Nat.le_trans k2 h2,fun hc=>?_⟩
 rcases k3 hc with hb | hb
 ·rcases h3 hb with h | h
  ·exact Or.inl h
  ·exact Or.inr (by omega)
 ·exact Or.inr (by omega)
theorem Gg (n nv nf:Nat) (l) (i:Bool × Nat) (st:ISt) (hi:i.1=true->i.2 < nv) (hi2:i.1=false->i.2 < nf):CH n nv nf st (BZ n l i st):=fun h=>by
 rcases Lj n l i st (by rw [h.1];exact hi) (by rw [h.2];exact hi2) with e | ⟨h1,h2,h3⟩
 ·rw [e];exact ⟨h,Nat.le_refl _,Or.inl⟩
 ·exact ⟨⟨h2.trans h.1,h3.trans h.2⟩,by omega,fun _=>Or.inr h1⟩
theorem Mv (n nv nf K:Nat) (known:List Bool) (ins fs) (a:Int) (d p) (st:ISt) (hd:inR nv nf fs d):CH n nv nf st (BX n K ISt.vs known ins fs (BZ n) a d p st):=by
 have h1:∀ l (v:Int) st,v.toNat < nv->CH n nv nf st (toVar known (BZ n) l v st):=by
  intro l v st hv
  unfold toVar
  split
  ·exact CH.refl n nv nf _
  ·exact Gg n nv nf _ _ _ (fun _=>hv) (fun h=>by cases h)
 have h2:∀ (xs:List (Int × D)) st,(∀ x∈xs,x.1.toNat < nv)->CH n nv nf st (xs.foldl (CF n K ISt.vs known (BZ n) p) st):=by
  intro xs
  induction xs with
  | nil=>intro st _;exact CH.refl n nv nf _
  | cons x xs ih=>intro st hx;rw [List.foldl_cons];exact (h1 _ _ _ (hx x (by simp))).trans (ih _ fun y hy=>hx y (by simp [hy]))
 unfold BX
 split
 ·rename_i hk;exact h1 _ _ _ (hd.1 (by omega))
 split
 ·rename_i hk
  unfold DM
  refine (h2 _ _ fun x hx=>?_).trans ((h1 _ _ _ (hd.1 (by omega))).trans (Gg n nv nf _ _ _ (fun h=>by cases h) (fun _=>(hd.2 hk).1)))
  exact (hd.2 hk).2 _ (List.of_mem_zip (a:=x.1) (b:=x.2) hx).1
 split
 ·rename_i hk;exact h1 _ _ _ (hd.1 (by omega))
 split
 ·rename_i hk;exact h1 _ _ _ (hd.1 (by omega))
 split
 ·rename_i hk;exact h1 _ _ _ (hd.1 (by omega))
 ·exact CH.refl n nv nf _
end Go.Proofs.YtfffpjkcfnekaaaGreat.Ex
namespace Go.Proofs.YtfffpjkcfnekaaaGreat.Ex
open Go.RowKit Go.Shelf
open Go.Value renaming slice -> O, int -> U, bool -> zg, agg -> zh, pointer -> zj, tuple -> zm
open Go.IntKind renaming i64 -> zd
open Go.Obj renaming cells -> ze
open Go.Ending renaming returned -> zk
attribute [local go_sem] Oper.semAt_some
theorem Oo {F:Fence} (hd:F.depth=none) (k:Nat):F.room k:=fun d h=>by rw [hd] at h;cases h
theorem MA {F:Fence} (hd:F.depth=none) {m m':Nat} {P:Program} {l:Nat} {f:FuncId} {tmps:Array Value} {assign body:Code} {w:World} {R:Ending->World->Prop}
  (h:RoundIn F m P l f tmps assign body w R):RoundIn F m' P l f tmps assign body w R:=⟨h.1,fun c cs _=>h.2 c cs (Oo hd _)⟩
theorem Mz {F:Fence} (hd:F.depth=none) {m:Nat} (m':Nat) {P:Program} {l:Nat} {args:Array Value} {W:World} {R:Ending->World->Prop} (h:YieldAt F m P l args W R):YieldAt F m' P l args W R:=by
 obtain ⟨fn,tmps,assign,body,hy,hR⟩:=h
 exact ⟨fn,tmps,assign,body,hy,MA hd hR⟩
abbrev Eh (nv:Nat):={ x:Int // 0<=x/\x < nv }
theorem FJ {k:Nat} {ds:List D} {j:Nat} (h:j < ds.length):(ds.take (j+1)).flatMap (AF k)=(ds.take j).flatMap (AF k)++AF k ds[j]:=by
 rw [List.take_succ_eq_append_getElem h,List.flatMap_append]
 simp
theorem LE (nv:Nat):∀ (l:List Int),(∀ v∈l,0<=v/\v < (nv:Int))->∃ ys:List (Eh nv),ys.map Subtype.val=l
 | [],_=>⟨[],rfl⟩
 | v::l,h=>by
  obtain ⟨ys,hy⟩:=LE nv l fun x hx=>h x (by simp [hx])
  exact ⟨⟨v,h v (by simp)⟩::ys,by simp [hy]⟩
theorem Jw (F:Fence) (hd:F.depth=none) (hf:F.fn 211) (hro:F.round=none) (l nv N:Nat) (w0:World) (J Jx:List (Eh nv)->World->Prop)
  (hJ:∀ s A B,J s A->Ov A B->J s B)
  (hY:∀ m pre x W,J pre W->pre.length < N->YieldAt F m Tryz.prog l #[U zd x.1] W fun e W'=>
   (e=zk (zg true)/\J (pre++[x]) W'/\Below w0.heap.size W W')\/(e=zk (zg false)/\Jx (pre++[x]) W')) :
  ∀ (k n:Nat) (cs:List Value) (d:D) (pre ys:List (Eh nv)) (W:World),RX w0 k cs d->Ov w0 W->J pre W->ys.map Subtype.val=AF k d->pre.length+ys.length<=N ->
   CallsIn F n Tryz.prog 211 #[.agg cs.toArray,.func (.yield l) #[] #[]] W fun e W'=>
    (e=zk (zg true)/\J (pre++ys) W'/\Below w0.heap.size W W')\/(e=zk (zg false)/\∃ q,q <+: ys/\Jx (pre++q) W'):=by
 intro k
 induction k with
 | zero=>intro n cs d pre ys W h;exact h.elim
 | succ k ih=>
  intro n cs d pre ys W h hW hj hys hN
  obtain ⟨kd,nn,v,ds,rfl,rfl,i1,i2,hm,ao,cap,rfl,hds⟩:=h
  have hdd:∀ k:Nat,(F.depth.isSome=true->1<=k):=fun k h=>by rw [hd] at h;cases h
  have hm2:ds.length<=9223372036854775807:=hm
  by_cases hk:kd=2
  ·subst hk
   have hys2:ys.map Subtype.val=[nn]:=by rw [hys];simp [AF,AI,Bc,xD]
   obtain ⟨y,rfl⟩:∃ y,ys=[y]:=by
    match ys,hys2 with
    | [y],_=>exact ⟨y,rfl⟩
   have hyv:y.1=nn:=by simpa using hys2
   subst hyv
   have hba:=bA W (ze #[U zd 2,U zd y.1,O ao ds.length cap] 94)
   obtain ⟨fn,tmps,assign,body,hy,hR⟩:=hY (n - 1) pre y _ (hJ _ _ _ hj hba) (by simp at hN;omega)
   have hB:Below w0.heap.size W (W.alloc (ze #[U zd 2,U zd y.1,O ao ds.length cap] 94)):=hba.mono hW.size
   have HB:=Aa hB
   clear hB hba hj hys hys2 hds
   refine callsIn_of_wp Tryz.func211 rfl hf ?_ hro
   simp only [Tryz.ntmps211,List.size_toArray,List.length_cons,List.length_nil,Nat.reduceAdd,Nat.reduceSub,Array.replicate_succ,Array.replicate_zero,List.push_toArray,List.append_toArray,List.nil_append,List.cons_append]
   gi_wp2_with ((try refine ⟨hdd _,?_⟩);refine hR.mono ?_;clear hR;rintro e W2 (⟨rfl,hJ2,hb2⟩ | ⟨rfl,hx2⟩))
   ·go_ret
    exact .inl ⟨rfl,hJ2,HB.o.trans hb2⟩
   ·go_ret
    exact .inr ⟨rfl,[y],List.prefix_refl _,hx2⟩
  ·have hv:AF (k+1) (xD kd nn ds)=ds.flatMap (AF k):=by simp [AF,AI,AH,xD,hk]
   rw [hv] at hys
   have hkb:(kd == 2)=false:=by simpa using hk
   have hba:=bA W (ze #[U zd kd,U zd nn,O ao ds.length cap] 94)
   have HB:Hx (Below w0.heap.size W (W.alloc (ze #[U zd kd,U zd nn,O ao ds.length cap] 94))):=hba.mono hW.size
   have HJ0:=Aa (hJ _ _ _ hj hba)
   have HDS:=Aa hds
   have HYS:=Aa hys
   have HW:=Aa hW
   have HN:=Aa hN
   clear hds hys hv hba hj hW hN hY
   refine callsIn_of_wp Tryz.func211 rfl hf ?_ hro
   simp only [Tryz.ntmps211,List.size_toArray,List.length_cons,List.length_nil,Nat.reduceAdd,Nat.reduceSub,Array.replicate_succ,Array.replicate_zero,List.push_toArray,List.append_toArray,List.nil_append,List.cons_append]
   gi_wp2
   gi_loopw [17] (fun i wr=>∃ (j:Nat) (q1 q2:List (Eh nv)),j<=ds.length/\i=U zd j/\ys=q1++q2/\q1.map Subtype.val=(ds.take j).flatMap (AF k)/\J (pre++q1) wr/\Below w0.heap.size W wr) (fun i _=>ds.length - (intOf i).toNat)
   case atStart=>exact ⟨0,[],ys,Nat.zero_le _,rfl,rfl,by simp,by simpa using HJ0.o,HB.o⟩
   case round=>
    obtain ⟨j,q1,q2,hj1,rfl,hq,hq1,hJ1,hB1⟩:=hrel
    have HQ:=Aa hq
    have HQ1:=Aa hq1
    have HJ1:=Aa hJ1
    clear hq hq1 hJ1
    by_cases hlt:j < ds.length
    ·obtain ⟨b,off,rfl,hcl⟩:=HDS.o (by rintro rfl;simp at hlt)
     obtain ⟨cs2,hl3,hcs,hr⟩:=hcl j ds[j] (List.getElem?_eq_getElem hlt)
     obtain ⟨xa,xc,rfl⟩:=hr.form
     have hBw:=HW.o.trans hB1
     have g0:wr.cell? ⟨b,off+j*3,none⟩=_:=Ab hBw _ _ (hcs 0 _ rfl)
     have g1:=Ab hBw _ _ (hcs 1 _ rfl)
     have g2:=Ab hBw _ _ (hcs 2 _ rfl)
     have hsp:∃ z q3,q2=z++q3/\z.map Subtype.val=AF k ds[j]:=by
      have h1:=HYS.o
      rw [HQ.o,List.map_append,HQ1.o] at h1
      have h2:ds.flatMap (AF k)=(ds.take j).flatMap (AF k)++(AF k ds[j]++(ds.drop (j+1)).flatMap (AF k)):=by
       rw [<-List.append_assoc,<-FJ hlt,<-List.flatMap_append,List.take_append_drop]
      rw [h2] at h1
      have h3:=List.append_cancel_left h1
      obtain ⟨z,q3,e1,e2,-⟩:=List.map_eq_append_iff.1 h3
      exact ⟨z,q3,e1,e2⟩
     obtain ⟨z,q3,hq2,hz⟩:=hsp
     have hlen:(pre++q1).length+z.length<=N:=by
      have:=HN.o
      rw [HQ.o,hq2] at this
      simp at this ⊢
      omega
     obtain ⟨ek,hek⟩:=nm (AI ds[j])
     obtain ⟨en,hen⟩:=nm (Bc ds[j])
     obtain ⟨xl,hxl⟩:=nm ((AH ds[j]).length)
     have hba:=bA wr (ze #[U zd ek,U zd en,O xa xl xc] 94)
     rw [<-hek,<-hen,<-hxl] at hr
     rw [<-hek] at g0
     rw [<-hen] at g1
     rw [<-hxl] at g2
     have KI:=Aa (ih (n - 1) _ ds[j] (pre++q1) z _ hr (hBw.trans (hba.mono hBw.size)) (hJ _ _ _ HJ1.o hba) hz hlen)
     have HB2:=Aa (hB1.trans (hba.mono hBw.size))
     have HX:Hx (ys=(q1++z)++q3/\(q1++z).map Subtype.val=(ds.take (j+1)).flatMap (AF k)):=by
      refine ⟨by rw [HQ.o,hq2,List.append_assoc],?_⟩
      rw [List.map_append,HQ1.o,hz,FJ hlt]
     clear hcl hcs hr hl3 hek hen hxl hq2 hz hlen hba hBw HJ1 HQ HQ1
     gi_wp2_with ((try refine ⟨hdd _,?_⟩);gi_at_call 211;refine (KI.o).mono ?_;clear KI;rintro e W2 (⟨rfl,hJ2,hb2⟩ | ⟨rfl,q,hq,hx2⟩))
     ·have HJ2:=Aa hJ2
      have HB3:=Aa (HB2.o.trans hb2)
      clear hJ2 hb2
      gi_wp2
      go_roundw
      case rel=>exact ⟨j+1,q1++z,q3,by omega,by go_num,HX.o.1,HX.o.2,by rw [<-List.append_assoc];exact HJ2.o,HB3.o⟩
      case measure=>simp [intOf];omega
     ·gi_wp2
      go_ret
      refine .inr ⟨rfl,q1++q,?_,by rw [<-List.append_assoc];exact hx2⟩
      rw [HX.o.1,List.append_assoc]
      exact (List.prefix_append_right_inj _).2 (hq.trans (List.prefix_append _ _))
    ·gi_wp2
     go_ret
     refine .inl ⟨rfl,?_,hB1⟩
     have h1:=HYS.o
     have h2:=HQ1.o
     rw [List.take_of_length_le (by omega),<-h1,HQ.o] at h2
     have h3:q2=[]:=by
      have:=congrArg List.length h2
      simp at this
      exact this
     rw [HQ.o,h3,List.append_nil]
     exact HJ1.o
attribute [local go_sem] Oper.semAt_some
def O5 (B:Nat) (v:Value):Prop:=∀ a n c,v=O (some a) n c->B<=a.block
def Lk (B:Nat) (v:Value):Prop:=∃ x y,v=zh #[x,y]/\O5 B x/\O5 B y
theorem Io {W:World} {B e s n:Nat} {v:Value} {xs:List Value} (h:W.ownsRow B e s v n xs):O5 B v:=by
 intro a m c hv
 rcases h.2 with ⟨h,-⟩ | ⟨g,cap,cur,h,hb,-⟩
 ·rw [hv] at h;cases h
 ·rw [hv] at h;injection h with h1 h2 h3;injection h1 with h1;rw [h1];exact hb
theorem BP {w w':World} {v:Value} {l:Lev} (h:Be w w' v l):Lk w.heap.size v:=by
 obtain ⟨x,y,hv,hx,hy,-⟩:=h
 exact ⟨x,y,hv,Io hx,Io hy⟩
theorem Aq {w w':World} {v:Value} {l:Lev} (h:Be w w' v l):AQ w' v l:=by
 obtain ⟨x,y,hv,hx,hy,-⟩:=h
 exact ⟨x,y,hv,Cg hx,Cg hy⟩
theorem El {W W':World} {v:Value} {l:List Bool} (h:AN W v l) (hc:∀ a u,W.cell? a=some u->W'.cell? a=some u):AN W' v l:=by
 obtain ⟨ao,cap,hv,hel⟩:=h
 refine ⟨ao,cap,hv,fun hne=>?_⟩
 obtain ⟨b,off,hao,hel⟩:=hel hne
 exact ⟨b,off,hao,fun i hi=>hc _ _ (hel i hi)⟩
theorem Fo {W W':World} {v:Value} {l:Lev} (h:AQ W v l) (hc:∀ a u,W.cell? a=some u->W'.cell? a=some u):AQ W' v l:=by
 obtain ⟨x,y,hv,hx,hy⟩:=h
 exact ⟨x,y,hv,El hx hc,El hy hc⟩
theorem JW (F:Fence) (n:Nat) (hf:F.fn 164) (hro:F.round=none) (ek en:Int) (xa xl xc) (w:World) :
  CallsIn F n Tryz.prog 164 #[zh #[U zd ek,U zd en,O xa xl xc]] w fun e w'=>e=zk (.func (.func 210) #[] #[zj (some ⟨w.heap.size,0,none⟩)])/\w'=w.alloc (ze #[U zd ek,U zd en,O xa xl xc] 94):=by
 refine callsIn_of_wp Tryz.func164 rfl hf ?_ hro
 simp only [Tryz.ntmps164,List.size_toArray,List.length_cons,List.length_nil,Nat.reduceAdd,Nat.reduceSub,Array.replicate_succ,Array.replicate_zero,List.push_toArray,List.append_toArray,List.nil_append,List.cons_append]
 gi_wp2
 go_ret
 exact ⟨rfl,rfl⟩
theorem LD (F:Fence) (hd:F.depth=none) (n:Nat) (hf:F.fn 210) (hf2:F.fn 211) (hro:F.round=none) (l nv Bt K:Nat) (w0:World) (ek en:Int) (xa xl xc d) (ys:List (Eh nv)) (J Jx:List (Eh nv)->World->Prop)
  (hJ:∀ s A B,J s A->Ov A B->J s B)
  (hY:∀ pre x W,J pre W->pre.length < ys.length->YieldAt F (n - 1) Tryz.prog l #[U zd x.1] W fun e W'=>
   (e=zk (zg true)/\J (pre++[x]) W'/\Below w0.heap.size W W')\/(e=zk (zg false)/\Jx (pre++[x]) W'))
  (W:World) (c0:W.cell? ⟨Bt,0,none⟩=some (U zd ek)) (c1:W.cell? ⟨Bt,1,none⟩=some (U zd en)) (c2:W.cell? ⟨Bt,2,none⟩=some (O xa xl xc)) (hx:RX w0 K [U zd ek,U zd en,O xa xl xc] d) (hW:Ov w0 W) (hys:ys.map Subtype.val=AF K d) (h0:J [] W) :
  CallsIn F n Tryz.prog 210 #[.func (.yield l) #[] #[],zj (some ⟨Bt,0,none⟩)] W fun e W'=>(∃ v,e=zk v) /\
   ((∃ zs,zs=ys/\J zs W')\/(∃ pre,pre <+: ys/\Jx pre W')):=by
 have hdd:∀ k:Nat,(F.depth.isSome=true->1<=k):=fun k h=>by rw [hd] at h;cases h
 have hp:=Aa (Jw F hd hf2 hro l nv ys.length w0 J Jx hJ (fun m pre x W hj hl=>Mz hd m (hY pre x W hj hl)) K (n - 1) _ d [] ys W hx hW h0 hys (by simp))
 clear hx hys hY h0 hW
 refine callsIn_of_wp Tryz.func210 rfl hf ?_ hro
 simp only [Tryz.ntmps210,List.size_toArray,List.length_cons,List.length_nil,Nat.reduceAdd,Nat.reduceSub,Array.replicate_succ,Array.replicate_zero,List.push_toArray,List.append_toArray,List.nil_append,List.cons_append]
 gi_wp2_with ((try refine ⟨hdd _,?_⟩);gi_at_call 211;refine hp.o.mono ?_;clear hp;rintro e W1 (⟨rfl,hJ1,_⟩ | ⟨rfl,q,hq,hx⟩))
 ·go_end0
  exact ⟨⟨_,rfl⟩,.inl ⟨_,rfl,by simpa using hJ1⟩⟩
 ·go_end0
  exact ⟨⟨_,rfl⟩,.inr ⟨q,hq,by simpa using hx⟩⟩
theorem FI (F:Fence) (hd:F.depth=none) (n:Nat) (hf:F.fn 210) (hf2:F.fn 211) (hro:F.round=none) (nv Bt K:Nat) (w0:World) (ek en:Int) (xa xl xc d) (ys:List (Eh nv)) (w:World) (hBt:Bt < w.heap.size) (hw:Ov w0 w)
  (c0:w.cell? ⟨Bt,0,none⟩=some (U zd ek)) (c1:w.cell? ⟨Bt,1,none⟩=some (U zd en)) (c2:w.cell? ⟨Bt,2,none⟩=some (O xa xl xc)) (hx:RX w0 K [U zd ek,U zd en,O xa xl xc] d) (hys:ys.map Subtype.val=AF K d) :
  SeqStopsK F n Tryz.prog 210 #[zj (some ⟨Bt,0,none⟩)] (fun x:Eh nv=>#[Value.int zd x.1]) (Below w0.heap.size) (fun zs=>zs=ys) (fun pre=>pre <+: ys) ys.length w:=fun l J Jx W hW hJ _ hY h0=>
 LD F hd n hf hf2 hro l nv Bt K w0 ek en xa xl xc d ys J Jx (fun s A B hj hb=>hJ s A B none hj ⟨hb.os,hb.tape,hb.output,hb.size,fun k hk _=>hb.block k hk⟩ (fun r e=>by cases e)) hY W
  ((hW.cell (p:=⟨Bt,0,none⟩) hBt).trans c0) ((hW.cell (p:=⟨Bt,1,none⟩) hBt).trans c1) ((hW.cell (p:=⟨Bt,2,none⟩) hBt).trans c2) hx (hw.trans (hW.mono hw.size)) hys h0
end Go.Proofs.YtfffpjkcfnekaaaGreat.Ex
