/- The reader of package tree reads an expression. -/
import Derived.Test.YtipngnjffjajpaaGreatDoorH03
set_option linter.unusedVariables false
set_option maxHeartbeats 8000000
set_option maxRecDepth 100000
namespace Go.Proofs.YtipngnjffjajpaaGreatDoor
open Go.RowKit
open Go.Value renaming int -> M, slice -> U, bool -> zc, pointer -> zd, agg -> zf, tuple -> zh
open Go.IntKind renaming i64 -> O
open Go.Obj renaming cells -> ze
open Go.Ending renaming returned -> zg
theorem JT {ts:List Tok} {en f deep n:Nat} (h:(Ah ts n).kind=2):pE ts en (f+1) deep n=.inl (eD 1 (Ar ts en n) (CX (Ah ts n).text.data.toList) ⟨#[]⟩ [],n+1):=by
 simp only [pE,h,if_true]
theorem Ih (rb:Nat) (tv:Value) (ts:List Tok) (hall:ts.all An=true) (en n f deep:Nat) (w:World) (h:St rb tv ts en n w) (hx:(Ah ts n).kind=2) :
  Calls Tryz.prog 133 #[zd (some ⟨rb,0,none⟩),M O (deep:Int)] w (Cq rb tv ts en (f+1) w (pE ts en (f+1) deep n)):=by
 rw [JT hx];have k:Below w.heap.size w (w.alloc (Obj.cells #[M O 0,M O 0,M O 0,.string ⟨#[]⟩,U none 0 0] 49)):=(Below.refl _ w).alloc (Nat.le_refl _) _;have J:=h.below k;have V:=Aa (BI rb tv ts en n _ J);go_enter Tryz.func133,Tryz.ntmps133;go_wp2_with fail;refine (V.out).mono ?_;rintro e c ⟨rfl,j⟩;have R:=J.below j;have A:c.heap[w.heap.size]? = some (Obj.cells #[M O 0,M O 0,M O 0,.string ⟨#[]⟩,U none 0 0] 49 (0,0)):=Az (heap_alloc_new w _) j;have x:Below w.heap.size w c:=k.trans (j.mono k.size);clear k J j V;obtain ⟨y,g⟩:∃ y,y=c.alloc (Obj.cells #[M O 0,M O (Ar ts en n),M O 0,.string ⟨#[]⟩,U none 0 0] 49):=⟨_,rfl⟩;have a:Below c.heap.size c y:=by rw [g];exact (Below.refl _ c).alloc (Nat.le_refl _) _
 have I:=R.below a;have k1:y.heap[c.heap.size]? = some (Obj.cells #[M O 0,M O (Ar ts en n),M O 0,.string ⟨#[]⟩,U none 0 0] 49 (0,0)):=by rw [g];exact heap_alloc_new c _
 have C:=Az A a;have u:Below w.heap.size w y:=x.trans (a.mono x.size);have E:=Bd rb tv ts en n y I;rw [hx] at E;unfold AI at E;rw [g] at E;have S:=Aa E;have ae:=Bv 2 (Ah ts n).pos (Ah ts n).text;obtain ⟨N,ab⟩:∃ N,N=Ar ts en n:=⟨_,rfl⟩;clear E;go_wp2_with fail;refine (S.out).mono ?_;rintro e L ⟨rfl,b⟩;rw [<-g] at b;have Q:=I.below b;have G:Below w.heap.size w L:=u.trans (b.mono u.size);have l:=Az C b;have B:=Az k1 b;have T:=Aa (FM rb tv ts hall en n L Q hx);have ad:w.heap.size < c.heap.size:=(Array.getElem?_eq_some_iff.1 A).1;have aa:=h.lt;clear S g I C k1 u a R A x b Q;go_wp2_with fail;refine (T.out).mono ?_;rintro e W ⟨rfl,i,P⟩;have A:=Ag l i (by omega);have k1:=Ag B i (by omega);obtain ⟨p0,p1,Z,Y,X,pf,pl⟩:=C1 A;obtain ⟨e0,e1,e2,e3,e4,ef,el⟩:=C1 k1;have H:w.grownBy W (some rb):=Ac (Ad G) i;have hn:=EY hx;have HR:=Aa P.1;obtain ⟨m,r⟩:∃ m,m=(CX (Ah ts n).text.data.toList:Int):=⟨_,rfl⟩;rw [<-r];have HX:=Aa h;have K:=Aa r;clear T l B G i P A k1 h r;go_wp2_with fail;refine bodyPost_ret (v:=zf #[M O 1,M O (Ar ts en n),M O m,.string ⟨#[]⟩,U none 0 0]) (by simp [results,Tryz.results133,go_sem,p0,p1,Z,Y,X]) rfl ?_;have F:=Aj (Aj (Aj (Aj (Aj (Aj (Aj H (p:=⟨c.heap.size,0,none⟩) (by simp;omega) (M O 1)) (p:=⟨c.heap.size,2,none⟩) (by simp;omega) (M O m)) (p:=⟨w.heap.size,0,none⟩) (by simp) (M O 1)) (p:=⟨w.heap.size,1,none⟩) (by simp) (M O (Ar ts en n))) (p:=⟨w.heap.size,2,none⟩) (by simp) (M O m)) (p:=⟨w.heap.size,3,none⟩) (by simp) (.string ⟨#[]⟩)) (p:=⟨w.heap.size,4,none⟩) (by simp) (U none 0 0);refine ⟨F,[M O 1,M O (Ar ts en n),M O m,.string ⟨#[]⟩,U none 0 0],rfl,?_,HX.out.keep F ?_ hn⟩
 ·exact ⟨1,Ar ts en n,m,⟨#[]⟩,U none 0 0,[],rfl,by rw [K.out],RS.nil _ _ _ _ _ _⟩
 ·exact Au (Au (Au (Au (Au (Au (Au HR.out (by simp;omega)) (by simp;omega)) (by simp;omega)) (by simp;omega)) (by simp;omega)) (by simp;omega)) (by simp;omega)
end Go.Proofs.YtipngnjffjajpaaGreatDoor
