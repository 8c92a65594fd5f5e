/- Package label: Level keeps its contract. -/
import Derived.Test.YtfffpjkcfnekaaaGreatE02
import Derived.RangeFuncNested
import Derived.RangeFuncBound
import Derived.RangeFuncCalls
import Derived.RangeFuncLeaves
import Derived.Shelf.Abstract
import Derived.Shelf.RegionOpen
import Derived.WalkKit
import Derived.OwnWalkIn
import Derived.TacticsInMore
import Derived.LoopNIn
import Derived.LoopIn
import Derived.Deep.QuietTactic
import Derived.BigQuiet
import Derived.Defers
import Derived.Recover
import Derived.OrdersHeld
import Derived.Deep.RegionHeld3
import Derived.Laws.AppendOwnNone
set_option linter.unusedVariables false
set_option maxHeartbeats 8000000
set_option maxRecDepth 100000
namespace Go.Proofs.YtfffpjkcfnekaaaGreat
open Go.RowKit
open Go.Value renaming slice -> O, int -> zd, bool -> zg, agg -> zh, pointer -> zi, tuple -> zk
open Go.IntKind renaming i64 -> U
open Go.Obj renaming cells -> ze
open Go.Ending renaming returned -> zj
attribute [local go_sem ↓] Go.wp_at_zero Go.wp_at_succ
theorem Kj (gn:List (Nat × Nat)) (n who:Nat) (ps:List Pol):ps.all (Jm (acts gn n who))=Cy gn n who ps:=rfl
theorem RA {wB W W':World} {b0 o0 b1 o1 b2 o2:Nat} {v0 v1 v2:Value} (h:W.cell? ⟨b0,o0,none⟩=some v0/\W.cell? ⟨b1,o1,none⟩=some v1/\W.cell? ⟨b2,o2,none⟩=some v2/\Ov wB W) (hb:Ov W W'):W'.cell? ⟨b0,o0,none⟩=some v0/\W'.cell? ⟨b1,o1,none⟩=some v1/\W'.cell? ⟨b2,o2,none⟩=some v2/\Ov wB W':=Px h hb
theorem SH (args:Array Value) (w:World):(callFunc 71 args).run Tryz.prog w=.ok (.enter 71 args) w:=by simp [go_sem]
theorem LP (ab lb ob n who:Nat) (hn:n<=6) (hw:who < n) (gn:List (Nat × Nat)) (pv:Value) (ps:List Pol) (w:World) (h0:w.cell? ⟨ab,0,none⟩=some (O (some ⟨ob,0,none⟩) n n)) (h1:w.cell? ⟨lb,0,none⟩=some pv) (hr:CZ w ob n gn n) (hp:AL w pv ps) (hps:ps.length<=4/\∀ p∈ps,E5 n p) :
  Calls Tryz.prog 71 #[zd U who,zi (some ⟨ab,0,none⟩),zi (some ⟨lb,0,none⟩)] w fun e w'=>e=zj (zg (Cy gn n who ps))/\Ov w w':=by
 obtain ⟨d,f,q,g⟩:=hr who hw;have a:Ad w d n (acts gn n who):=⟨BJ _ _ _,fun i m=>(g i m).1⟩;have b:=fun (W:World) (c:Ov w W)=>FC d n (acts gn n who) pv ps W hn (Fe a c) (Ak hp c) hps;simp only [Kj] at b;obtain ⟨l,j,k,rfl⟩:=Az hp;obtain ⟨r,hr⟩:=nm (Cy gn n who ps);rw [<-hr] at b ⊢;have s:=Aa b;have u:(0:Int)<=(who:Int):=by omega
 have t:(who:Int) < (n:Int):=by omega
 clear b hr hp a g f;go_enter Tryz.func71,Tryz.ntmps71;go_wp2_with fail;first | go_region_held3 (fun W=>W.cell? ⟨ab,0,none⟩=some (O (some ⟨ob,0,none⟩) n n)/\W.cell? ⟨ob,who,none⟩=some (O (some ⟨d,0,none⟩) n n)/\W.cell? ⟨lb,0,none⟩=some (O l j k)/\Ov w W) (first | assumption | exact ⟨h0,q,h1,below_drewN (Below.refl _ _) 1⟩ | exact RA (by assumption) hbp | fail) (first | (go_at_call 72;refine (s.o _ (by assumption:_/\_/\_/\_).2.2.2).mono ?_;rintro e h ⟨rfl,hbp⟩)) | fail
 all_goals obtain ⟨-,-,-,c⟩:=(by assumption:h.cell? _=_/\_/\_/\_)
 all_goals go_wp2_with fail
 all_goals go_ret
 all_goals exact ⟨rfl,c⟩
theorem Mr (args:Array Value) (w:World):(callFunc 73 args).run Tryz.prog w=.ok (.enter 73 args) w:=by simp [go_sem]
theorem LO (ab lb ob n who:Nat) (hn:n<=6) (hw:who < n) (gn:List (Nat × Nat)) (pv:Value) (ps:List Pol) (w:World) (h0:w.cell? ⟨ab,0,none⟩=some (O (some ⟨ob,0,none⟩) n n)) (h1:w.cell? ⟨lb,1,none⟩=some pv) (hr:CZ w ob n gn n) (hp:AL w pv ps) (hps:ps.length<=4/\∀ p∈ps,E5 n p) :
  Calls Tryz.prog 73 #[zd U who,zi (some ⟨ab,0,none⟩),zi (some ⟨lb,0,none⟩)] w fun e w'=>e=zj (zg (Cy gn n who ps))/\Ov w w':=by
 obtain ⟨d,f,q,g⟩:=hr who hw;have a:Ad w d n (acts gn n who):=⟨BJ _ _ _,fun i m=>(g i m).1⟩;have b:=fun (W:World) (c:Ov w W)=>FC d n (acts gn n who) pv ps W hn (Fe a c) (Ak hp c) hps;simp only [Kj] at b;obtain ⟨l,j,k,rfl⟩:=Az hp;obtain ⟨r,hr⟩:=nm (Cy gn n who ps);rw [<-hr] at b ⊢;have s:=Aa b;have u:(0:Int)<=(who:Int):=by omega
 have t:(who:Int) < (n:Int):=by omega
 clear b hr hp a g f;go_enter Tryz.func73,Tryz.ntmps73;go_wp2_with fail;first | go_region_held3 (fun W=>W.cell? ⟨ab,0,none⟩=some (O (some ⟨ob,0,none⟩) n n)/\W.cell? ⟨ob,who,none⟩=some (O (some ⟨d,0,none⟩) n n)/\W.cell? ⟨lb,1,none⟩=some (O l j k)/\Ov w W) (first | assumption | exact ⟨h0,q,h1,below_drewN (Below.refl _ _) 1⟩ | exact RA (by assumption) hbp | fail) (first | (go_at_call 72;refine (s.o _ (by assumption:_/\_/\_/\_).2.2.2).mono ?_;rintro e h ⟨rfl,hbp⟩)) | fail
 all_goals obtain ⟨-,-,-,c⟩:=(by assumption:h.cell? _=_/\_/\_/\_)
 all_goals go_wp2_with fail
 all_goals go_ret
 all_goals exact ⟨rfl,c⟩
theorem Ju (n:Nat) (h1:1<=n) (hn:n<=6) (ab lb ob:Nat) (gn:List (Nat × Nat)) (v pr pw:Value) (bl:Lab) (w3:World) (h0:w3.cell? ⟨ab,0,none⟩=some (O (some ⟨ob,0,none⟩) n n)) (l0:w3.cell? ⟨lb,0,none⟩=some pr) (l1:w3.cell? ⟨lb,1,none⟩=some pw) (hr:CZ w3 ob n gn n) (hp:AL w3 pr bl.r) (hq:AL w3 pw bl.w) (hin:MU n bl) (W:World) (hB:Ov w3 W) :
  (Calls Tryz.prog 70 #[zh #[zd U n,v],.func (.func 71) #[] #[zi (some ⟨ab,0,none⟩),zi (some ⟨lb,0,none⟩)]] W fun e w'=>∃ g,e=zj (O (some ⟨g,0,none⟩) n n)/\W.heap.size<=g/\g < w'.heap.size/\w'.ownsRow W.heap.size 4 1 (O (some ⟨g,0,none⟩) n n) n (AB (BI (fun i=>Cy gn n i bl.r) n))/\Ov W w') /\
  (Calls Tryz.prog 70 #[zh #[zd U n,v],.func (.func 73) #[] #[zi (some ⟨ab,0,none⟩),zi (some ⟨lb,0,none⟩)]] W fun e w'=>∃ g,e=zj (O (some ⟨g,0,none⟩) n n)/\W.heap.size<=g/\g < w'.heap.size/\w'.ownsRow W.heap.size 4 1 (O (some ⟨g,0,none⟩) n n) n (AB (BI (fun i=>Cy gn n i bl.w) n))/\Ov W w'):=by
 have d:∀ (W':World),Ov W W'->∀ b o v,w3.cell? ⟨b,o,none⟩=some v->W'.cell? ⟨b,o,none⟩=some v:=fun W' c b o v h=>by rw [(An c).1 _ _ (Nat.lt_of_lt_of_le (bL h) hB.size),(An hB).1 _ _ (bL h)];exact h
 refine ⟨EC 71 _ _ (fun i=>Cy gn n i bl.r) n h1 hn v W (Aa fun i f W' c=>?_) SH,EC 73 _ _ (fun i=>Cy gn n i bl.w) n h1 hn v W (Aa fun i f W' c=>?_) Mr⟩
 ·have a:Ov w3 W':=hB.trans (c.mono hB.size)
  exact LP ab lb ob n i hn f gn pr bl.r W' (d W' c _ _ _ h0) (d W' c _ _ _ l0) (EH hr a) (Ak hp a) hin.1
 ·have a:Ov w3 W':=hB.trans (c.mono hB.size)
  exact LO ab lb ob n i hn f gn pw bl.w W' (d W' c _ _ _ h0) (d W' c _ _ _ l1) (EH hr a) (Ak hq a) hin.2
theorem S4 {wB W:World} {b o0 o1 q:Nat} {v0 v1 u:Value} (h:W.cell? ⟨b,o0,none⟩=some v0/\W.cell? ⟨b,o1,none⟩=some v1/\(W.cell? ⟨q,0,none⟩=some u->Ov wB W)) (hq:W.cell? ⟨q,0,none⟩=some u):Ov wB W:=h.2.2 hq
theorem Rz {wB W W':World} {b o0 o1 q:Nat} {v0 v1 u:Value} (h:W.cell? ⟨b,o0,none⟩=some v0/\W.cell? ⟨b,o1,none⟩=some v1/\(W.cell? ⟨q,0,none⟩=some u->Ov wB W)) (hq:W.cell? ⟨q,0,none⟩=some u) (hb:Ov W W'):W'.cell? ⟨b,o0,none⟩=some v0/\W'.cell? ⟨b,o1,none⟩=some v1/\(W'.cell? ⟨q,0,none⟩=some u->Ov wB W'):=by
 obtain ⟨e,d,f⟩:=h;have c:=f hq;obtain ⟨a,g⟩:=An hb;exact ⟨by rw [a _ _ (bL e)];exact e,by rw [a _ _ (bL d)];exact d,fun _=>c.trans (hb.mono c.size)⟩
theorem Tx {wB W:World} {b o0 o1 q g n:Nat} {v0 v1 u y:Value} (h:W.cell? ⟨b,o0,none⟩=some v0/\W.cell? ⟨b,o1,none⟩=some v1/\(W.cell? ⟨q,0,none⟩=some (O none 0 0)->Ov wB W)) (hb:b≠q) (hq:W.cell? ⟨q,0,none⟩=some u) :
  ((W.setCell ⟨q,0,none⟩ (O (some ⟨g,0,none⟩) n n)).setCell ⟨q,1,none⟩ y).cell? ⟨b,o0,none⟩=some v0/\((W.setCell ⟨q,0,none⟩ (O (some ⟨g,0,none⟩) n n)).setCell ⟨q,1,none⟩ y).cell? ⟨b,o1,none⟩=some v1/\(((W.setCell ⟨q,0,none⟩ (O (some ⟨g,0,none⟩) n n)).setCell ⟨q,1,none⟩ y).cell? ⟨q,0,none⟩=some (O none 0 0)->Ov wB ((W.setCell ⟨q,0,none⟩ (O (some ⟨g,0,none⟩) n n)).setCell ⟨q,1,none⟩ y)):=by
 obtain ⟨d,c,f⟩:=h;have a:∀ o,((W.setCell ⟨q,0,none⟩ (O (some ⟨g,0,none⟩) n n)).setCell ⟨q,1,none⟩ y).cell? ⟨b,o,none⟩=W.cell? ⟨b,o,none⟩:=fun o=>by
  rw [World.cell?_setCell_other _ _ _ _ (by intro e;injection e with e;exact hb e.symm),World.cell?_setCell_other _ _ _ _ (by intro e;injection e with e;exact hb e.symm)]
 refine ⟨by rw [a];exact d,by rw [a];exact c,fun e=>?_⟩;rw [World.cell?_setCell_other _ _ _ _ (by simp),World.cell?_setCell_same _ _ _ hq] at e;cases e
theorem MW {m:Int} {gs:List (Int × Int)} {bl:Lab} (h:Bb m gs bl=0):∃ n:Nat,m=n/\1<=n/\n<=6/\(Ax gs).map toI=gs/\(Ax gs).length<=20/\(∀ g∈Ax gs,g.1 < n/\g.2 < n)/\MU n bl/\AR m gs=0:=by
 unfold Bb at h;split at h
 ·rename_i a
  obtain ⟨n,b,i,f,e,d,c⟩:=Dr a;subst b;exact ⟨n,rfl,i,f,e,d,c,IV h,a⟩
 ·rename_i a
  exact absurd h a
theorem MT:QU:=by
 intro m v gs pr pw bl w hv hp hq;have HV:=Aa hv;have HP:=Aa hp;have HQ:=Aa hq;obtain ⟨H,F,G,rfl⟩:=CK hv;obtain ⟨pa,pn,pc,rfl⟩:=Az hp;obtain ⟨qa,Z,qc,rfl⟩:=Az hq;have j:Ov w (((w.alloc (ze #[zd U m,O H F G] 24)).alloc (ze #[O pa pn pc,O qa Z qc] 39)).alloc (ze #[O none 0 0,O none 0 0] 50)):=((bA w _).alloc (by simp) _).alloc (by simp;omega) _;have c:=M2 m (O H F G) gs (O pa pn pc) (O qa Z qc) bl _ (Af HV.o j) (Ak HP.o j) (Ak HQ.o j);have B:=fun h=>MW (m:=m) (gs:=gs) (bl:=bl) h;obtain ⟨r,hr⟩:=nm (Bb m gs bl);rw [<-hr] at c B ⊢;have HC:=Aa c;have T:=Aa B;clear hv hp hq c B hr;go_enter Tryz.func23,Tryz.ntmps23;go_wp2_with fail;refine (HC.o).mono ?_;rintro e f ⟨rfl,t⟩;have l:=j.trans (t.mono (by simp <;> omega))
 have ag:=t.size;simp at ag;obtain ⟨D,hf⟩:=An t;have a0:f.cell? ⟨w.heap.size,0,none⟩=some (zd U m):=by rw [D _ _ (by simp <;> omega)];simp [go_sem]
 have a1:f.cell? ⟨w.heap.size,1,none⟩=some (O H F G):=by rw [D _ _ (by simp <;> omega)];simp [go_sem]
 have c0:f.cell? ⟨w.heap.size+1,0,none⟩=some (O pa pn pc):=by rw [D _ _ (by simp <;> omega)];simp [go_sem]
 have c1:f.cell? ⟨w.heap.size+1,1,none⟩=some (O qa Z qc):=by rw [D _ _ (by simp <;> omega)];simp [go_sem]
 have R:f.cell? ⟨w.heap.size+1+1,0,none⟩=some (O none 0 0):=by rw [D _ _ (by simp <;> omega)];simp [go_sem]
 have e1:f.cell? ⟨w.heap.size+1+1,1,none⟩=some (O none 0 0):=by rw [D _ _ (by simp <;> omega)];simp [go_sem]
 have f0:f.frozen? ⟨w.heap.size+1+1,0,none⟩=false:=by rw [hf _ _ (by simp <;> omega)];simp [go_sem]
 have f1:f.frozen? ⟨w.heap.size+1+1,1,none⟩=false:=by rw [hf _ _ (by simp <;> omega)];simp [go_sem]
 clear D hf t j HC;by_cases hr0:r=0
 ·subst hr0
  obtain ⟨n,hm,h1,h6,C,x,K,J,P⟩:=T.o (by first | rfl | trivial);subst hm;have y:=PA n h1 h6 (O H F G) (Ax gs) f (by rw [C];exact Af HV.o l) x K (by rw [C];exact P);have z:=Aa y;have V:=Aa J;clear y J C x K P T HV;go_wp2_with fail;refine (z.o).mono ?_;rintro e I ⟨ob,rfl,g,E⟩;obtain ⟨d,s⟩:=nm (I.alloc (ze #[O (some ⟨ob,0,none⟩) n n] 137));have k:Ov I d:=by rw [s];exact bA I _
  have a:Ov f d:=E.trans (k.mono E.size);have u:=l.trans (a.mono l.size);have bc:=a.size;have A:∀ b o v,f.cell? ⟨b,o,none⟩=some v->d.cell? ⟨b,o,none⟩=some v:=fun b o v h=>by rw [(An a).1 _ _ (bL h)];exact h
  have Q:d.cell? ⟨I.heap.size,0,none⟩=some (O (some ⟨ob,0,none⟩) n n):=by rw [s];simp [go_sem]
  have KT:=Aa fun (W:World) (hB:Ov d W)=>Ju n h1 h6 I.heap.size (w.heap.size+1) ob (Ax gs) (O H F G) _ _ bl d Q (A _ _ _ c0) (A _ _ _ c1) (EH g k) (Ak HP.o u) (Ak HQ.o u) V.o W hB;have b0:=A _ _ _ a0;have b1:=A _ _ _ a1;have E0:=Aa (A _ _ _ R);have E1:=Aa (A _ _ _ e1);have F0:Hx (d.frozen? ⟨w.heap.size+1+1,0,none⟩=false):=by rw [(An a).2 _ _ (bL R)];exact f0
  have F1:Hx (d.frozen? ⟨w.heap.size+1+1,1,none⟩=false):=by rw [(An a).2 _ _ (bL R)];exact f1
  have p:Hx (w.heap.size+1+1 < d.heap.size):=by show _ < _;omega
  have av:Hx (w.heap.size≠w.heap.size+1+1):=by show _≠_;omega
  have S:=Aa s;have ED:Hx (d.drew.cell? ⟨w.heap.size+1+1,0,none⟩=some (O none 0 0)):=E0.o;clear a0 a1 c0 c1 R e1 f0 f1 Q A g E k a s HP HQ V z l;go_wp2_with fail;rw [<-S.o];clear S;first | go_region_held3 (fun W=>W.cell? ⟨w.heap.size,0,none⟩=some (zd U n)/\W.cell? ⟨w.heap.size,1,none⟩=some (O H F G)/\(W.cell? ⟨w.heap.size+1+1,0,none⟩=some (O none 0 0)->Ov d W)) (first | assumption | exact ⟨b0,b1,fun _=>below_drewN (Below.refl _ _) 1⟩ | exact Rz (by assumption) ep0 hbq | exact Rz (by assumption) ED.o hbp | exact Tx (by assumption) av.o eq0 | fail) (first | (go_at_call 70;have aw:=ep0;refine (KT.o _ (S4 (by assumption) ep0)).2.mono ?_;rintro e X ⟨g2,rfl,am,ay,ak,hbq⟩;have eq0:X.cell? ⟨w.heap.size+1+1,0,none⟩=some (O none 0 0):=(by rw [(An hbq).1 _ _ (bL ep0)];exact ep0);have ap:X.cell? ⟨w.heap.size+1+1,1,none⟩=some (O none 0 0):=(by rw [(An hbq).1 _ _ (bL ep0)];exact ep1);have bk:X.frozen? ⟨w.heap.size+1+1,0,none⟩=false:=(by rw [(An hbq).2 _ _ (bL ep0)];exact fp0);have bj:X.frozen? ⟨w.heap.size+1+1,1,none⟩=false:=(by rw [(An hbq).2 _ _ (bL ep0)];exact fp1)) | (go_at_call 70;refine (KT.o _ (S4 (by assumption) ED.o)).1.mono ?_;rintro e Y ⟨g1,rfl,bf,L,al,hbp⟩;have ep0:Y.cell? ⟨w.heap.size+1+1,0,none⟩=some (O none 0 0):=(by rw [(An hbp).1 _ _ p.o];exact E0.o);have ep1:Y.cell? ⟨w.heap.size+1+1,1,none⟩=some (O none 0 0):=(by rw [(An hbp).1 _ _ p.o];exact E1.o);have fp0:Y.frozen? ⟨w.heap.size+1+1,0,none⟩=false:=(by rw [(An hbp).2 _ _ p.o];exact F0.o);have fp1:Y.frozen? ⟨w.heap.size+1+1,1,none⟩=false:=(by rw [(An hbp).2 _ _ p.o];exact F1.o))) | fail
  all_goals go_wp2_with fail
  all_goals
   refine bodyPost_ret (v:=zk #[zh #[O (some ⟨g1,0,none⟩) n n,O (some ⟨g2,0,none⟩) n n],zd U 0]) (by simp [results,Tryz.results23,go_sem,eq0,ap]) rfl ⟨_,rfl,Hz (w:=w) (wa:=d.drew) (q:=w.heap.size+1+1) (f1:=fun i=>Cy (Ax gs) n i bl.r) (f2:=fun i=>Cy (Ax gs) n i bl.w) u.size p.o al L hbp.size ak hbq am _ _,?_⟩;have N:Ov w d.drew:=below_drewN u 1;have M:=N.trans (hbp.mono N.size);have ao:=M.trans (hbq.mono M.size);exact (ao.setCell (by simp;omega) _).setCell (by simp;omega) _
 ·have bd:(r != 0)=true:=by simpa using hr0
  go_wp2_with fail;exact bodyPost_ret (v:=zk #[zh #[O none 0 0,O none 0 0],zd U r]) (by simp [results,Tryz.results23,go_sem,R,e1]) rfl ⟨_,rfl,HU _ _,(l.setCell (by simp;omega) _).setCell (by simp;omega) _⟩
end Go.Proofs.YtfffpjkcfnekaaaGreat
namespace Go.Proofs.YtfffpjkcfnekaaaGreat.Ex
open Go.RowKit
open Go.Value renaming slice -> O, int -> zd, bool -> zg, agg -> zh, pointer -> zi, tuple -> zk
open Go.IntKind renaming i64 -> U
open Go.Obj renaming cells -> ze
open Go.Ending renaming returned -> zj
theorem Cb {w:World} {B B' e s:Nat} {v:Value} {n:Nat} {xs:List Value} (h:w.ownsRow B e s v n xs) (hb:B'<=B):w.ownsRow B' e s v n xs:=by
 obtain ⟨c,h | ⟨g,b,a,i,f,d⟩⟩:=h
 ·exact ⟨c,Or.inl h⟩
 ·exact ⟨c,Or.inr ⟨g,b,a,i,Nat.le_trans hb f,d⟩⟩
theorem AE {w:World} {B e s:Nat} {v:Value} {n:Nat} {xs:List Value} (h:w.ownsRow B e s v n xs):∃ a n c,v=O a n c:=by
 obtain ⟨k,⟨h,_⟩ | ⟨g,f,d,b,j,i⟩⟩:=h
 ·exact ⟨_,_,_,h⟩
 ·exact ⟨_,_,_,b⟩
theorem PC (m:Int) (ga gn gc) (sa sn sc ya yn yc oa on oc va vn vc fa fn fc ba bn bc la ln lc ka kn kc gs) (lr lw kr kw:Value) (l k) (w:World) (hg:AA w (O ga gn gc) gs) (hl:A3 w (zh #[lr,lw]) l) (hk:A3 w (zh #[kr,kw]) k) (h2:Fj m gs l k=0) :
  Calls Tryz.prog 57 #[zh #[zd U m,O ga gn gc,O sa sn sc,O ya yn yc,O oa on oc,O va vn vc,O fa fn fc,O ba bn bc,O la ln lc,O ka kn kc],zh #[lr,lw],zh #[kr,kw]] w fun e w'=>e=zj (zg (Av l k m.toNat))/\Ov w w':=by
 have b:Ov w (((w.alloc (ze #[zd U m,O ga gn gc,O sa sn sc,O ya yn yc,O oa on oc,O va vn vc,O fa fn fc,O ba bn bc,O la ln lc,O ka kn kc] 108)).alloc (ze #[lr,lw] 50)).alloc (ze #[kr,kw] 50)):=((bA w _).alloc (by simp) _).alloc (by simp;omega) _;have K:=Aa (QF m (O ga gn gc) gs (zh #[lr,lw]) (zh #[kr,kw]) l k _ (Af hg b) (AK hl b) (AK hk b));rw [h2] at K;obtain ⟨B,r,i,rfl⟩:∃ a n c,lr=O a n c:=by obtain ⟨x,y,e,⟨a,c,d,-⟩,-⟩:=hl;simp at e;obtain ⟨rfl,rfl⟩:=e;exact ⟨_,_,_,d⟩
 obtain ⟨A,q,h,rfl⟩:∃ a n c,lw=O a n c:=by obtain ⟨x,y,e,-,⟨a,c,d,-⟩⟩:=hl;simp at e;obtain ⟨rfl,rfl⟩:=e;exact ⟨_,_,_,d⟩
 obtain ⟨z,p,g,rfl⟩:∃ a n c,kr=O a n c:=by obtain ⟨x,y,e,⟨a,c,d,-⟩,-⟩:=hk;simp at e;obtain ⟨rfl,rfl⟩:=e;exact ⟨_,_,_,d⟩
 obtain ⟨u,j,f,rfl⟩:∃ a n c,kw=O a n c:=by obtain ⟨x,y,e,-,⟨a,c,d,-⟩⟩:=hk;simp at e;obtain ⟨rfl,rfl⟩:=e;exact ⟨_,_,_,d⟩
 obtain ⟨H,G⟩:=rc2 (SU w [zd U m,O ga gn gc,O sa sn sc,O ya yn yc,O oa on oc,O va vn vc,O fa fn fc,O ba bn bc,O la ln lc,O ka kn kc] 108 (ze #[O B r i,O A q h] 50) (ze #[O z p g,O u j f] 50));obtain ⟨F,E⟩:=rc2 (ST w (ze #[zd U m,O ga gn gc,O sa sn sc,O ya yn yc,O oa on oc,O va vn vc,O fa fn fc,O ba bn bc,O la ln lc,O ka kn kc] 108) [O B r i,O A q h] 50 (ze #[O z p g,O u j f] 50));obtain ⟨D,C⟩:=rc2 (Tl w (ze #[zd U m,O ga gn gc,O sa sn sc,O ya yn yc,O oa on oc,O va vn vc,O fa fn fc,O ba bn bc,O la ln lc,O ka kn kc] 108) (ze #[O B r i,O A q h] 50) [O z p g,O u j f] 50);clear hg hl hk h2;go_enter Tryz.func57,Tryz.ntmps57;go_wp2_with fail;refine (K.o).mono ?_;rintro e I ⟨rfl,s⟩;have t:=b.trans (s.mono (by simp <;> omega))
 clear K H G F E D C;go_wp2_with fail;exact bodyPost_ret (v:=zg (Av l k m.toNat)) (by simp [results,Tryz.results57,go_sem]) rfl ⟨rfl,t⟩
theorem MY (m:Int) (ga gn gc) (sa sn sc ya yn yc oa on oc va vn vc fa fn fc ba bn bc la ln lc ka kn kc gs) (lr lw kr kw:Value) (l k) (w:World) (hg:AA w (O ga gn gc) gs) (hl:A3 w (zh #[lr,lw]) l) (hk:A3 w (zh #[kr,kw]) k) (h2:Fj m gs l k=0) :
  Calls Tryz.prog 58 #[zh #[zd U m,O ga gn gc,O sa sn sc,O ya yn yc,O oa on oc,O va vn vc,O fa fn fc,O ba bn bc,O la ln lc,O ka kn kc],zh #[lr,lw],zh #[kr,kw]] w fun e w'=>∃ vj,e=zj vj/\A1 w w' vj (BA l k m.toNat)/\Ov w w':=by
 have b:Ov w ((((w.alloc (ze #[zd U m,O ga gn gc,O sa sn sc,O ya yn yc,O oa on oc,O va vn vc,O fa fn fc,O ba bn bc,O la ln lc,O ka kn kc] 108)).alloc (ze #[lr,lw] 50)).alloc (ze #[kr,kw] 50)).alloc (ze #[O none 0 0,O none 0 0] 50)):=(((bA w _).alloc (by simp) _).alloc (by simp;omega) _).alloc (by simp;omega) _;have K:=Aa (Sz m (O ga gn gc) gs (zh #[lr,lw]) (zh #[kr,kw]) l k _ (Af hg b) (AK hl b) (AK hk b));rw [h2] at K;obtain ⟨T,N,A,rfl⟩:∃ a n c,lr=O a n c:=by obtain ⟨x,y,e,⟨a,c,s,-⟩,-⟩:=hl;simp at e;obtain ⟨rfl,rfl⟩:=e;exact ⟨_,_,_,s⟩
 obtain ⟨S,M,z,rfl⟩:∃ a n c,lw=O a n c:=by obtain ⟨x,y,e,-,⟨a,c,s,-⟩⟩:=hl;simp at e;obtain ⟨rfl,rfl⟩:=e;exact ⟨_,_,_,s⟩
 obtain ⟨R,L,u,rfl⟩:∃ a n c,kr=O a n c:=by obtain ⟨x,y,e,⟨a,c,s,-⟩,-⟩:=hk;simp at e;obtain ⟨rfl,rfl⟩:=e;exact ⟨_,_,_,s⟩
 obtain ⟨Q,J,t,rfl⟩:∃ a n c,kw=O a n c:=by obtain ⟨x,y,e,-,⟨a,c,s,-⟩⟩:=hk;simp at e;obtain ⟨rfl,rfl⟩:=e;exact ⟨_,_,_,s⟩
 obtain ⟨c0,c1⟩:=rc2 (SU w [zd U m,O ga gn gc,O sa sn sc,O ya yn yc,O oa on oc,O va vn vc,O fa fn fc,O ba bn bc,O la ln lc,O ka kn kc] 108 (ze #[O T N A,O S M z] 50) (ze #[O R L u,O Q J t] 50));obtain ⟨d0,d1⟩:=rc2 (ST w (ze #[zd U m,O ga gn gc,O sa sn sc,O ya yn yc,O oa on oc,O va vn vc,O fa fn fc,O ba bn bc,O la ln lc,O ka kn kc] 108) [O T N A,O S M z] 50 (ze #[O R L u,O Q J t] 50));obtain ⟨e0,e1⟩:=rc2 (Tl w (ze #[zd U m,O ga gn gc,O sa sn sc,O ya yn yc,O oa on oc,O va vn vc,O fa fn fc,O ba bn bc,O la ln lc,O ka kn kc] 108) (ze #[O T N A,O S M z] 50) [O R L u,O Q J t] 50);clear hg hl hk h2;go_enter Tryz.func58,Tryz.ntmps58;go_wp2_with fail;refine (K.o).mono ?_;rintro e h ⟨vj,rfl,X,g⟩;rw [if_pos trivial] at X;have r:=b.trans (g.mono (by simp <;> omega))
 obtain ⟨vr,vw,rfl,W,hw,I⟩:=X;have j:=Cb (B':=w.heap.size+1+1+1+1) W (by simp);have i:=Cb (B':=w.heap.size+1+1+1+1) hw (by simp);obtain ⟨G,E,C,rfl⟩:=AE j;obtain ⟨F,D,B,rfl⟩:=AE i;have f:Ov h (h.alloc (ze #[O G E C,O F D B] 50)):=bA h _;have H:w.heap.size+1+1+1 < h.heap.size:=by have:=g.size;simp at this;omega
 obtain ⟨P,p⟩:=An g;obtain ⟨q,d⟩:=An f;have Z:(h.alloc (ze #[O G E C,O F D B] 50)).cell? ⟨w.heap.size+1+1+1,0,none⟩=some (O none 0 0):=by rw [q _ _ (by first | omega | (simp <;> omega)),P _ _ (by first | omega | (simp <;> omega))];simp [go_sem]
 have Y:(h.alloc (ze #[O G E C,O F D B] 50)).cell? ⟨w.heap.size+1+1+1,1,none⟩=some (O none 0 0):=by rw [q _ _ (by first | omega | (simp <;> omega)),P _ _ (by first | omega | (simp <;> omega))];simp [go_sem]
 have f0:(h.alloc (ze #[O G E C,O F D B] 50)).frozen? ⟨w.heap.size+1+1+1,0,none⟩=false:=by rw [d _ _ (by first | omega | (simp <;> omega)),p _ _ (by first | omega | (simp <;> omega))];simp [go_sem]
 have f1:(h.alloc (ze #[O G E C,O F D B] 50)).frozen? ⟨w.heap.size+1+1+1,1,none⟩=false:=by rw [d _ _ (by first | omega | (simp <;> omega)),p _ _ (by first | omega | (simp <;> omega))];simp [go_sem]
 have HR:=Aa (Bp j f);have HW:=Aa (Bp i f);have HB:=Aa (r.trans (f.mono r.size));have V:=Aa I;have ai:=Aa H;clear K c0 c1 d0 d1 e0 e1 W hw j i I P p q d g r b H f;go_wp2_with fail;exact bodyPost_ret (v:=zh #[O G E C,O F D B]) (by simp [results,Tryz.results58,go_sem,Z,Y]) rfl ⟨_,rfl,⟨_,_,rfl,Cb (AZ (AZ HR.o (by simp) _) (by simp) _) (by omega),Cb (AZ (AZ HW.o (by simp) _) (by simp) _) (by omega),V.o⟩,(HB.o.setCell (by simp;omega) _).setCell (by simp;omega) _⟩
theorem LN (m:Int) (ga gn gc) (sa sn sc ya yn yc oa on oc va vn vc fa fn fc ba bn bc la ln lc ka kn kc gs) (pr pw:Value) (bl:Lab) (w:World) (hg:AA w (O ga gn gc) gs) (hl:AL w pr bl.r) (hk:AL w pw bl.w) (h2:Bb m gs bl=0) :
  Calls Tryz.prog 114 #[zh #[zd U m,O ga gn gc,O sa sn sc,O ya yn yc,O oa on oc,O va vn vc,O fa fn fc,O ba bn bc,O la ln lc,O ka kn kc],zh #[pr,pw]] w fun e w'=>∃ vj,e=zj vj/\A1 w w' vj (Ar (Ax gs) m.toNat bl)/\Ov w w':=by
 obtain ⟨D,B,z,rfl⟩:=Az hl;obtain ⟨C,A,y,rfl⟩:=Az hk;have a:Ov w (((w.alloc (ze #[zd U m,O ga gn gc,O sa sn sc,O ya yn yc,O oa on oc,O va vn vc,O fa fn fc,O ba bn bc,O la ln lc,O ka kn kc] 108)).alloc (ze #[O D B z,O C A y] 39)).alloc (ze #[O none 0 0,O none 0 0] 50)):=((bA w _).alloc (by simp) _).alloc (by simp;omega) _;have K:=Aa (MT m (O ga gn gc) gs (O D B z) (O C A y) bl _ (Af hg a) (Ak hl a) (Ak hk a));rw [h2] at K;obtain ⟨P,N⟩:=rc2 (SU w [zd U m,O ga gn gc,O sa sn sc,O ya yn yc,O oa on oc,O va vn vc,O fa fn fc,O ba bn bc,O la ln lc,O ka kn kc] 108 (ze #[O D B z,O C A y] 39) (ze #[O none 0 0,O none 0 0] 50));obtain ⟨M,L⟩:=rc2 (ST w (ze #[zd U m,O ga gn gc,O sa sn sc,O ya yn yc,O oa on oc,O va vn vc,O fa fn fc,O ba bn bc,O la ln lc,O ka kn kc] 108) [O D B z,O C A y] 39 (ze #[O none 0 0,O none 0 0] 50));clear hg hl hk h2;go_enter Tryz.func114,Tryz.ntmps114;go_wp2_with fail;refine (K.o).mono ?_;rintro e f ⟨vj,rfl,H,d⟩;rw [if_pos trivial] at H;have k:=a.trans (d.mono (by simp <;> omega))
 obtain ⟨W,V,rfl,G,hw,x⟩:=H;have h:=Cb (B':=w.heap.size+1+1+1) G (by simp);have g:=Cb (B':=w.heap.size+1+1+1) hw (by simp);obtain ⟨t,q,n,rfl⟩:=AE h;obtain ⟨s,p,l,rfl⟩:=AE g;have c:Ov f (f.alloc (ze #[O t q n,O s p l] 50)):=bA f _;have u:w.heap.size+1+1 < f.heap.size:=by have:=d.size;simp at this;omega
 obtain ⟨E,i⟩:=An d;obtain ⟨j,b⟩:=An c;have J:(f.alloc (ze #[O t q n,O s p l] 50)).cell? ⟨w.heap.size+1+1,0,none⟩=some (O none 0 0):=by rw [j _ _ (by first | omega | (simp <;> omega)),E _ _ (by first | omega | (simp <;> omega))];simp [go_sem]
 have I:(f.alloc (ze #[O t q n,O s p l] 50)).cell? ⟨w.heap.size+1+1,1,none⟩=some (O none 0 0):=by rw [j _ _ (by first | omega | (simp <;> omega)),E _ _ (by first | omega | (simp <;> omega))];simp [go_sem]
 have Y:(f.alloc (ze #[O t q n,O s p l] 50)).frozen? ⟨w.heap.size+1+1,0,none⟩=false:=by rw [b _ _ (by first | omega | (simp <;> omega)),i _ _ (by first | omega | (simp <;> omega))];simp [go_sem]
 have X:(f.alloc (ze #[O t q n,O s p l] 50)).frozen? ⟨w.heap.size+1+1,1,none⟩=false:=by rw [b _ _ (by first | omega | (simp <;> omega)),i _ _ (by first | omega | (simp <;> omega))];simp [go_sem]
 have R:=Aa (Bp h c);have Q:=Aa (Bp g c);have T:=Aa (k.trans (c.mono k.size));have F:=Aa x;have S:=Aa u;clear K P N M L G hw h g x E i j b d k a u c;go_wp2_with fail;exact bodyPost_ret (v:=zh #[O t q n,O s p l]) (by simp [results,Tryz.results114,go_sem,J,I]) rfl ⟨_,rfl,⟨_,_,rfl,Cb (AZ (AZ R.o (by simp) _) (by simp) _) (by omega),Cb (AZ (AZ Q.o (by simp) _) (by simp) _) (by omega),F.o⟩,(T.o.setCell (by simp;omega) _).setCell (by simp;omega) _⟩
end Go.Proofs.YtfffpjkcfnekaaaGreat.Ex
namespace Go.Proofs.YtfffpjkcfnekaaaGreat.Ex
def A7 (n:Nat):Lev:=⟨List.replicate n true,List.replicate n false⟩
def AG:Nat->D->List Int
 | 0,_=>[]
 | k+1,d=>if AQ d=2 then [Bk d] else (A4 d).flatMap (AG k)
def A6 (n:Nat) (L:List Lev) (l:Lev) (vs:List Int):Lev:=vs.foldl (fun l v=>BA l (L.getD v.toNat Ah) n) l
section walk
variable {σ:Type} (n K:Nat) (lev:σ->List Lev) (step:Int->D->Lev->σ->σ)
def GC (cnt:D->Nat) (cnt1:List D->Nat) (rec:List D->Int->Lev->σ->σ) (p:Lev) (q:Int × σ) (d:D):Int × σ:=
 (q.1+(cnt d:Int),rec (Ao d) (q.1+1+(cnt1 (Aj d):Int)) (A6 n (lev (step q.1 d p q.2)) p (AG K (Am d)))
  (rec (Aj d) (q.1+1) (A6 n (lev (step q.1 d p q.2)) p (AG K (Am d))) (step q.1 d p q.2)))
def goS:Nat->List D->Int->Lev->σ->σ
 | 0,_,_,_,st=>st
 | k+1,l,a,p,st=>(l.foldl (GC n K lev step (CY (k+1)) (AI k) (goS k) p) (a,st)).2
def goF (flev:σ->List Lev) (kf:Nat) (q:Int × σ) (x:Nat × FnD):Int × σ:=
 (q.1+(AI kf x.2.body:Int),goS n K lev step kf x.2.body q.1 ((flev q.2).getD x.1 Ah) q.2)
def D6 (flev:σ->List Lev) (kf:Nat) (fs:List FnD) (main:List D) (st:σ):σ:=
 let q:=((List.range fs.length).zip fs).foldl (goF n K lev step flev kf) (0,st)
 goS n K lev step kf main q.1 (A7 n) q.2
theorem Ky {R:σ->σ->Prop} (hr:∀ st,R st st) (ht:∀ {a b c},R a b->R b c->R a c) (hs:∀ a d p st,R st (step a d p st)) :
  ∀ (k:Nat) (l:List D) (a:Int) (p:Lev) (st:σ),R st (goS n K lev step k l a p st):=by
 intro k
 induction k with
 | zero=>intro l a p st;exact hr st
 | succ k ih=>
  intro l;unfold goS
  induction l with
  | nil=>intro a p st;exact hr st
  | cons d l ihl=>
   intro a p st;rw [List.foldl_cons];refine ht ?_ (ihl _ p _);exact ht (hs _ _ _ _) (ht (ih _ _ _ _) (ih _ _ _ _))
theorem L6 {R:σ->σ->Prop} (hr:∀ st,R st st) (ht:∀ {a b c},R a b->R b c->R a c) (hs:∀ a d p st,R st (step a d p st)) (flev:σ->List Lev) (kf:Nat) (fs main) (st:σ) :
  R st (D6 n K lev step flev kf fs main st):=by
 unfold D6;have h:∀ (xs:List (Nat × FnD)) (q:Int × σ),R q.2 (xs.foldl (goF n K lev step flev kf) q).2:=by
  intro xs
  induction xs with
  | nil=>intro q;exact hr _
  | cons x xs ih=>
   intro q;rw [List.foldl_cons];exact ht (Ky n K lev step hr ht hs _ _ _ _ _) (ih (goF n K lev step flev kf q x))
 exact ht (h _ (0,st)) (Ky n K lev step hr ht hs _ _ _ _ _)
theorem I2 {P:Nat->D->Prop} {P1:D->Prop} (hP:∀ k d,P (k+1) d->P1 d/\(∀ s∈Aj d,P k s)/\∀ s∈Ao d,P k s) {R:σ->σ->Prop} (hr:∀ st,R st st) (ht:∀ {a b c},R a b->R b c->R a c) (hs:∀ a d p st,P1 d->R st (step a d p st)) :
  ∀ (k:Nat) (l:List D) (a:Int) (p:Lev) (st:σ),(∀ s∈l,P k s)->R st (goS n K lev step k l a p st):=by
 intro k
 induction k with
 | zero=>intro l a p st _;exact hr st
 | succ k ih=>
  intro l;unfold goS
  induction l with
  | nil=>intro a p st _;exact hr st
  | cons d l ihl=>
   intro a p st e;obtain ⟨h,g,f⟩:=hP k d (e d (by simp));rw [List.foldl_cons];refine ht ?_ (ihl _ p _ fun s hs=>e s (by simp [hs]));exact ht (hs _ _ _ _ h) (ht (ih _ _ _ _ g) (ih _ _ _ _ f))
theorem Kz {P Pm:Nat->D->Prop} {P1:D->Prop} (hPm:∀ k d,Pm (k+1) d->P1 d/\(∀ s∈Aj d,Pm k s)/\∀ s∈Ao d,Pm k s) {Q:Nat->Nat->D->Prop} (hQ:∀ i k d,Q i (k+1) d->P1 d/\(∀ s∈Aj d,Q i k s)/\∀ s∈Ao d,Q i k s)
  {R:σ->σ->Prop} (hr:∀ st,R st st) (ht:∀ {a b c},R a b->R b c->R a c) (hs:∀ a d p st,P1 d->R st (step a d p st)) (flev:σ->List Lev) (kf:Nat) (fs:List FnD) (main:List D) (st:σ) (hf:∀ i (h:i < fs.length),∀ s∈fs[i].body,Q i kf s) (hm:∀ s∈main,Pm kf s) :
  R st (D6 n K lev step flev kf fs main st):=by
 unfold D6;have h:∀ (xs:List (Nat × FnD)) (q:Int × σ),(∀ x∈xs,∀ s∈x.2.body,Q x.1 kf s)->R q.2 (xs.foldl (goF n K lev step flev kf) q).2:=by
  intro xs
  induction xs with
  | nil=>intro q _;exact hr _
  | cons x xs ih=>
   intro q e;rw [List.foldl_cons];exact ht (I2 n K lev step (hQ x.1) hr ht hs _ _ _ _ _ (e x (by simp))) (ih (goF n K lev step flev kf q x) fun y g=>e y (by simp [g]))
 refine ht (h _ (0,st) fun x e=>?_) (I2 n K lev step hPm hr ht hs _ _ _ _ _ hm);obtain ⟨i,f,rfl⟩:=List.getElem_of_mem e;simp at f;simp only [List.getElem_zip,List.getElem_range];exact hf i f
end walk
theorem DM (f:Nat->Bool) {n i:Nat} (h:i < n):(BI f n)[i]?.getD false=f i:=by simp [BI,h]
theorem ER (l) (n:Nat):Av l l n=true:=BL.2 fun _ _=>⟨id,id⟩
theorem K8 {l k q:Lev} {n:Nat} (h:Av l k n=true) (h2:Av k q n=true):Av l q n=true:=
 BL.2 fun i hi=>⟨fun h3=>(BL.1 h i hi).1 ((BL.1 h2 i hi).1 h3),fun h3=>(BL.1 h2 i hi).2 ((BL.1 h i hi).2 h3)⟩
theorem PD (l k) (n:Nat):Av l (BA l k n) n=true:=BL.2 fun i hi=>by
 simp only [BA,DM _ hi,GF,LH];cases l.r[i]?.getD false <;> cases k.r[i]?.getD false <;> cases l.w[i]?.getD false <;> cases k.w[i]?.getD false <;> simp
theorem GV {n:Nat} {L:List Lev}:∀ (vs:List Int) (l:Lev),l.len n->(A6 n L l vs).len n
 | [],_,h=>h
 | v::vs,l,_=>GV vs _ ⟨AH _ _,AH _ _⟩
section ask
variable {σ:Type} (n K:Nat) (lev:σ->List Lev) (known:List Bool) (ins:List Lev) (fs:List FnD) (flow:Lev->Bool × Nat->σ->σ)
def toVar (l:Lev) (v:Int) (st:σ):σ:=if known.getD v.toNat false=true then st else flow l (true,v.toNat) st
def Gf (p:Lev) (st:σ) (q:Int × D):σ:=toVar known flow (A6 n (lev st) p (AG K q.2)) q.1 st
def GT (d:D) (p:Lev) (st:σ):σ:=
 let st1:=((BV fs (Ae d)).ps.zip (Ai d)).foldl (Gf n K lev known flow p) st
 flow p (false,(Ae d).toNat) (toVar known flow (A6 n (lev st1) p (AG K (BV fs (Ae d)).res)) (Ap d) st1)
def Dy (a:Int) (d:D) (p:Lev) (st:σ):σ:=
 if Ag d=1 then toVar known flow (A6 n (lev st) p (AG K (Am d))) (Ap d) st
 else if Ag d=2 then GT n K lev known fs flow d p st
 else if Ag d=3 then toVar known flow (BA p (ins.getD (Ae d).toNat Ah) n) (Ap d) st
 else if Ag d=5 then toVar known flow ⟨p.r,(A6 n (lev st) p (AG K (Am d))).w⟩ (Ap d) st
 else if Ag d=6 then toVar known flow ⟨(A6 n (lev st) p (AG K (Am d))).r,p.w⟩ (Ap d) st
 else st
theorem N0 {R:σ->σ->Prop} (hr:∀ st,R st st) (ht:∀ {a b c},R a b->R b c->R a c) (hv:∀ l i st,known.getD i false=false->R st (flow l (true,i) st)) (hw:∀ l i st,R st (flow l (false,i) st)) (a:Int) (d p) (st:σ):R st (Dy n K lev known ins fs flow a d p st):=by
 have e:∀ l v st,R st (toVar known flow l v st):=by
  intro l v st;unfold toVar;split
  ·exact hr st
  ·rename_i h;exact hv _ _ _ (by simpa using h)
 have f:∀ (xs:List (Int × D)) st,R st (xs.foldl (Gf n K lev known flow p) st):=by
  intro xs
  induction xs with
  | nil=>intro st;exact hr st
  | cons x xs ih=>intro st;rw [List.foldl_cons];exact ht (e _ _ _) (ih _)
 unfold Dy
 repeat' split
 all_goals first | exact e _ _ _ | exact hr _ | skip
 unfold GT;exact ht (f _ _) (ht (e _ _ _) (hw _ _ _))
end ask
structure ISt where
 vs:List Lev
 fs:List Lev
 more:Bool
def ISt.at (st:ISt) (i:Bool × Nat):Lev:=if i.1=true then st.vs.getD i.2 Ah else st.fs.getD i.2 Ah
def ISt.up (st:ISt) (i:Bool × Nat) (l:Lev):ISt:=if i.1=true then ⟨st.vs.set i.2 l,st.fs,true⟩ else ⟨st.vs,st.fs.set i.2 l,true⟩
def C4 (n:Nat) (l:Lev) (i:Bool × Nat) (st:ISt):ISt:=if Av l (st.at i) n=true then st else st.up i (BA (st.at i) l n)
def Hc (n K kf:Nat) (known:List Bool) (ins:List Lev) (fs:List FnD) (main:List D) (st:ISt):ISt:=
 D6 n K ISt.vs (Dy n K ISt.vs known ins fs (C4 n)) ISt.fs kf fs main st
theorem C9 {l:List Lev} {i j:Nat} {x:Lev}:(l.set i x).getD j Ah=if i=j/\j < l.length then x else l.getD j Ah:=by
 simp only [List.getD_eq_getElem?_getD,List.getElem?_set];by_cases h:i=j
 ·subst h
  by_cases h2:i < l.length
  ·simp [h2]
  ·simp [h2]
 ·simp [h]
def LeI (n:Nat) (a b:ISt):Prop:=(∀ i,Av (a.vs.getD i Ah) (b.vs.getD i Ah) n=true)/\∀ i,Av (a.fs.getD i Ah) (b.fs.getD i Ah) n=true
def H7 (n:Nat) (l:Lev):Nat:=((List.range n).map fun i=>(if l.r[i]?.getD false=true then 1 else 0)+(if l.w[i]?.getD false=true then 0 else 1)).sum
def DH (n:Nat) (st:ISt):Nat:=(st.vs.map (H7 n)).sum+(st.fs.map (H7 n)).sum
theorem OM {f g:Nat->Nat}:∀ {n:Nat},(∀ i,i < n->f i<=g i)->((List.range n).map f).sum<=((List.range n).map g).sum
 | 0,_=>by simp
 | n+1,h=>by
  rw [List.range_succ,List.map_append,List.map_append,List.sum_append,List.sum_append];have:=OM (n:=n) fun i hi=>h i (by omega);have:=h n (by omega);simp;omega
theorem OL {f g:Nat->Nat}:∀ {n:Nat},(∀ i,i < n->f i<=g i)->(∃ i,i < n/\f i < g i)->((List.range n).map f).sum < ((List.range n).map g).sum
 | 0,_,⟨i,h,_⟩=>by omega
 | n+1,h,⟨i,hi,hlt⟩=>by
  rw [List.range_succ,List.map_append,List.map_append,List.sum_append,List.sum_append];by_cases hn:i=n
  ·subst hn
   have:=OM (n:=i) fun j hj=>h j (by omega);simp;omega
  ·have:=OL (n:=n) (fun j hj=>h j (by omega)) ⟨i,by omega,hlt⟩
   have:=h n (by omega);simp;omega
theorem I6 {n:Nat} {x l:Lev} (h:¬ Av l x n=true):H7 n (BA x l n) < H7 n x:=by
 have d:∃ i,i < n/\¬ ((x.r[i]?.getD false=true->l.r[i]?.getD false=true)/\(l.w[i]?.getD false=true->x.w[i]?.getD false=true)):=by
  refine Classical.byContradiction fun b=>h (BL.2 fun i a=>Classical.byContradiction fun c=>b ⟨i,a,c⟩)
 obtain ⟨i,a,c⟩:=d;unfold H7;refine OL (fun j e=>?_) ⟨i,a,?_⟩
 ·simp only [BA,DM _ e,GF,LH]
  cases l.r[j]?.getD false <;> cases x.r[j]?.getD false <;> cases l.w[j]?.getD false <;> cases x.w[j]?.getD false <;> simp
 ·simp only [BA,DM _ a,GF,LH]
  revert c;cases l.r[i]?.getD false <;> cases x.r[i]?.getD false <;> cases l.w[i]?.getD false <;> cases x.w[i]?.getD false <;> simp
theorem Jg {f:Lev->Nat} {y:Lev}:∀ {l:List Lev} {i:Nat},i < l.length->f y < f (l.getD i Ah)->((l.set i y).map f).sum < (l.map f).sum
 | [],i,h,_=>by simp at h
 | x::l,0,_,h=>by simp at h ⊢;omega
 | x::l,i+1,hi,h=>by
  have:=Jg (l:=l) (i:=i) (by simpa using hi) (by simpa using h);simp only [List.set_cons_succ,List.map_cons,List.sum_cons];omega
structure Fo (n nv nf:Nat) (known:List Bool) (L:List Lev) (st:ISt):Prop where
 lv:st.vs.length=nv
 lf:st.fs.length=nf
 rv:∀ l∈st.vs,l.len n
 rf:∀ l∈st.fs,l.len n
 kn:∀ i,known.getD i false=true->st.vs.getD i Ah=L.getD i Ah
theorem DU (l k) (n:Nat):(BA l k n).len n:=⟨AH _ _,AH _ _⟩
def Ds (n nv nf:Nat) (known:List Bool) (L:List Lev) (a b:ISt):Prop:=
 (Fo n nv nf known L a->Fo n nv nf known L b)/\LeI n a b
theorem Ds.refl (n nv nf:Nat) (known:List Bool) (L) (a:ISt):Ds n nv nf known L a a:=⟨id,fun _=>ER _ _,fun _=>ER _ _⟩
theorem Ds.trans {n nv nf:Nat} {known:List Bool} {L:List Lev} {a b c:ISt} (h:Ds n nv nf known L a b) (k:Ds n nv nf known L b c):Ds n nv nf known L a c:=
 ⟨fun x=>k.1 (h.1 x),fun i=>K8 (h.2.1 i) (k.2.1 i),fun i=>K8 (h.2.2 i) (k.2.2 i)⟩
theorem Gx {l:List Lev} {i:Nat} {x y:Lev} (h:y∈l.set i x):y=x\/y∈l:=by
 rcases List.mem_or_eq_of_mem_set h with h | h
 ·exact Or.inr h
 ·exact Or.inl h
theorem HY (n nv nf:Nat) (known:List Bool) (L l) (i:Bool × Nat) (st:ISt) (hk:i.1=true->known.getD i.2 false=false):Ds n nv nf known L st (C4 n l i st):=by
 unfold C4;split
 ·exact Ds.refl ..
 ·obtain ⟨b,j⟩:=i
  cases b with
  | true=>
   have hk:=hk rfl;simp only [ISt.up,ISt.at,if_true];refine ⟨fun h=>⟨by simpa using h.lv,h.lf,fun x hx=>?_,h.rf,fun m a=>?_⟩,fun m=>?_,fun m=>ER _ _⟩
   ·rcases Gx hx with rfl | hx
    ·exact DU _ _ _
    ·exact h.rv x hx
   ·dsimp only
    rw [C9,if_neg,h.kn m a];rintro ⟨rfl,-⟩;dsimp only at hk;rw [hk] at a;cases a
   ·dsimp only
    rw [C9];split
    ·rename_i h;rw [<-h.1];exact PD _ _ _
    ·exact ER _ _
  | false=>
   simp only [ISt.up,ISt.at,Bool.false_eq_true,if_false];refine ⟨fun h=>⟨h.lv,by simpa using h.lf,h.rv,fun x hx=>?_,h.kn⟩,fun m=>ER _ _,fun m=>?_⟩
   ·rcases Gx hx with rfl | hx
    ·exact DU _ _ _
    ·exact h.rf x hx
   ·dsimp only
    rw [C9];split
    ·rename_i h;rw [<-h.1];exact PD _ _ _
    ·exact ER _ _
theorem Nm (n nv nf K kf:Nat) (known:List Bool) (L ins fs main) (st:ISt):Ds n nv nf known L st (Hc n K kf known ins fs main st):=
 L6 n K ISt.vs _ (R:=Ds n nv nf known L) (Ds.refl n nv nf known L) Ds.trans (fun a d p st=>N0 n K ISt.vs known ins fs (C4 n) (R:=Ds n nv nf known L) (Ds.refl n nv nf known L) Ds.trans (fun l i st hk=>HY n nv nf known L l (true,i) st fun _=>hk) (fun l i st=>HY n nv nf known L l (false,i) st fun h=>by cases h) a d p st) ISt.fs kf fs main st
theorem NX (n:Nat) (l) (i:Bool × Nat) (st:ISt) (hi:i.1=true->i.2 < st.vs.length) (hi2:i.1=false->i.2 < st.fs.length):C4 n l i st=st\/(DH n (C4 n l i st) < DH n st/\(C4 n l i st).vs.length=st.vs.length/\(C4 n l i st).fs.length=st.fs.length):=by
 unfold C4;split
 ·exact Or.inl rfl
 ·rename_i h
  obtain ⟨b,j⟩:=i;cases b with
  | true=>
   simp only [ISt.up,ISt.at,if_true] at h ⊢;refine Or.inr ⟨?_,by simp,by simp⟩;have:=Jg (f:=H7 n) (l:=st.vs) (i:=j) (hi rfl) (I6 h);unfold DH;dsimp only;omega
  | false=>
   simp only [ISt.up,ISt.at,Bool.false_eq_true,if_false] at h ⊢;refine Or.inr ⟨?_,by simp,by simp⟩;have:=Jg (f:=H7 n) (l:=st.fs) (i:=j) (hi2 rfl) (I6 h);unfold DH;dsimp only;omega
def inR (nv nf:Nat) (fs:List FnD) (d:D):Prop:=
 ((Ag d=1\/Ag d=2\/Ag d=3\/Ag d=5\/Ag d=6)->(Ap d).toNat < nv)/\(Ag d=2->(Ae d).toNat < nf/\∀ v∈(BV fs (Ae d)).ps,v.toNat < nv)
def CV (n nv nf:Nat) (a b:ISt):Prop:=(a.vs.length=nv/\a.fs.length=nf)->(b.vs.length=nv/\b.fs.length=nf)/\DH n b<=DH n a/\(b.more=true->a.more=true\/DH n b < DH n a)
theorem CV.refl (n nv nf:Nat) (a:ISt):CV n nv nf a a:=fun h=>⟨h,Nat.le_refl _,Or.inl⟩
theorem CV.trans {n nv nf:Nat} {a b c:ISt} (h:CV n nv nf a b) (k:CV n nv nf b c):CV n nv nf a c:=fun ha=>by
 obtain ⟨h1,h2,h3⟩:=h ha;obtain ⟨k1,k2,k3⟩:=k h1;refine ⟨k1,Nat.le_trans k2 h2,fun hc=>?_⟩;rcases k3 hc with hb | hb
 ·rcases h3 hb with h | h
  ·exact Or.inl h
  ·exact Or.inr (by omega)
 ·exact Or.inr (by omega)
theorem H6 (n nv nf:Nat) (l) (i:Bool × Nat) (st:ISt) (hi:i.1=true->i.2 < nv) (hi2:i.1=false->i.2 < nf):CV n nv nf st (C4 n l i st):=fun h=>by
 rcases NX n l i st (by rw [h.1];exact hi) (by rw [h.2];exact hi2) with e | ⟨h1,h2,h3⟩
 ·rw [e];exact ⟨h,Nat.le_refl _,Or.inl⟩
 ·exact ⟨⟨h2.trans h.1,h3.trans h.2⟩,by omega,fun _=>Or.inr h1⟩
theorem PI (n nv nf K:Nat) (known:List Bool) (ins fs) (a:Int) (d p) (st:ISt) (hd:inR nv nf fs d):CV n nv nf st (Dy n K ISt.vs known ins fs (C4 n) a d p st):=by
 have e:∀ l (v:Int) st,v.toNat < nv->CV n nv nf st (toVar known (C4 n) l v st):=by
  intro l v st i;unfold toVar;split
  ·exact CV.refl n nv nf _
  ·exact H6 n nv nf _ _ _ (fun _=>i) (fun h=>by cases h)
 have j:∀ (xs:List (Int × D)) st,(∀ x∈xs,x.1.toNat < nv)->CV n nv nf st (xs.foldl (Gf n K ISt.vs known (C4 n) p) st):=by
  intro xs
  induction xs with
  | nil=>intro st _;exact CV.refl n nv nf _
  | cons x xs ih=>intro st f;rw [List.foldl_cons];exact (e _ _ _ (f x (by simp))).trans (ih _ fun y g=>f y (by simp [g]))
 unfold Dy;split
 ·rename_i c;exact e _ _ _ (hd.1 (by omega))
 split
 ·rename_i c
  unfold GT;refine (j _ _ fun x f=>?_).trans ((e _ _ _ (hd.1 (by omega))).trans (H6 n nv nf _ _ _ (fun h=>by cases h) (fun _=>(hd.2 c).1)));exact (hd.2 c).2 _ (List.of_mem_zip (a:=x.1) (b:=x.2) f).1
 split
 ·rename_i c;exact e _ _ _ (hd.1 (by omega))
 split
 ·rename_i c;exact e _ _ _ (hd.1 (by omega))
 split
 ·rename_i c;exact e _ _ _ (hd.1 (by omega))
 ·exact CV.refl n nv nf _
end Go.Proofs.YtfffpjkcfnekaaaGreat.Ex
namespace Go.Proofs.YtfffpjkcfnekaaaGreat.Ex
open Go.RowKit Go.Shelf
open Go.Value renaming slice -> O, int -> zd, bool -> zg, agg -> zh, pointer -> zi, tuple -> zk
open Go.IntKind renaming i64 -> U
open Go.Obj renaming cells -> ze
open Go.Ending renaming returned -> zj
attribute [local go_sem] Oper.semAt_some
theorem Sj {F:Fence} (hd:F.depth=none) (k:Nat):F.room k:=fun d h=>by rw [hd] at h;cases h
theorem PO {F:Fence} (hd:F.depth=none) {m m':Nat} {P:Program} {l:Nat} {f:FuncId} {tmps:Array Value} {assign body:Code} {w:World} {R:Ending->World->Prop}
  (h:RoundIn F m P l f tmps assign body w R):RoundIn F m' P l f tmps assign body w R:=⟨h.1,fun c cs _=>h.2 c cs (Sj hd _)⟩
theorem PN {F:Fence} (hd:F.depth=none) {m:Nat} (m':Nat) {P:Program} {l:Nat} {args:Array Value} {W:World} {R:Ending->World->Prop} (h:YieldAt F m P l args W R):YieldAt F m' P l args W R:=by
 obtain ⟨f,b,a,c,d,e⟩:=h;exact ⟨f,b,a,c,d,PO hd e⟩
abbrev EW (nv:Nat):={ x:Int // 0<=x/\x < nv }
theorem GY {k:Nat} {ds:List D} {j:Nat} (h:j < ds.length):(ds.take (j+1)).flatMap (AG k)=(ds.take j).flatMap (AG k)++AG k ds[j]:=by
 rw [List.take_succ_eq_append_getElem h,List.flatMap_append];simp
theorem OJ (nv:Nat):∀ (l:List Int),(∀ v∈l,0<=v/\v < (nv:Int))->∃ ys:List (EW nv),ys.map Subtype.val=l
 | [],_=>⟨[],rfl⟩
 | v::l,h=>by
  obtain ⟨ys,hy⟩:=OJ nv l fun x hx=>h x (by simp [hx]);exact ⟨⟨v,h v (by simp)⟩::ys,by simp [hy]⟩
theorem Mf (F:Fence) (hd:F.depth=none) (hf:F.fn 211) (hro:F.round=none) (l nv N:Nat) (w0:World) (J Jx:List (EW nv)->World->Prop)
  (hJ:∀ s A B,J s A->Ov A B->J s B)
  (hY:∀ m pre x W,J pre W->pre.length < N->YieldAt F m Tryz.prog l #[zd U x.1] W fun e W'=>
   (e=zj (zg true)/\J (pre++[x]) W'/\Below w0.heap.size W W')\/(e=zj (zg false)/\Jx (pre++[x]) W')) :
  ∀ (k n:Nat) (cs:List Value) (d:D) (pre ys:List (EW nv)) (W:World),RX w0 k cs d->Ov w0 W->J pre W->ys.map Subtype.val=AG k d->pre.length+ys.length<=N ->
   CallsIn F n Tryz.prog 211 #[.agg cs.toArray,.func (.yield l) #[] #[]] W fun e W'=>
    (e=zj (zg true)/\J (pre++ys) W'/\Below w0.heap.size W W')\/(e=zj (zg false)/\∃ q,q <+: ys/\Jx (pre++q) W'):=by
 intro k
 induction k with
 | zero=>intro n cs d pre ys W h;exact h.elim
 | succ k ih=>
  intro n cs d pre ys W h hW hj p hN;obtain ⟨T,S,v,c,rfl,rfl,i1,i2,hm,ao,w,rfl,M⟩:=h;have X:∀ k:Nat,(F.depth.isSome=true->1<=k):=fun k h=>by rw [hd] at h;cases h
  have a7:c.length<=9223372036854775807:=hm;by_cases hk:T=2
  ·subst hk
   have g:ys.map Subtype.val=[S]:=by rw [p];simp [AG,AQ,Bk,xD]
   obtain ⟨y,rfl⟩:∃ y,ys=[y]:=by
    match ys,g with
    | [y],_=>exact ⟨y,rfl⟩
   have ak:y.1=S:=by simpa using g
   subst ak;have a:=bA W (ze #[zd U 2,zd U y.1,O ao c.length w] 94);obtain ⟨fn,ay,ag,a2,hy,hR⟩:=hY (n - 1) pre y _ (hJ _ _ _ hj a) (by simp at hN;omega);have hB:Below w0.heap.size W (W.alloc (ze #[zd U 2,zd U y.1,O ao c.length w] 94)):=a.mono hW.size;have HB:=Aa hB;clear hB a hj p g M;refine callsIn_of_wp Tryz.func211 rfl hf ?_ hro;simp only [Tryz.ntmps211,List.size_toArray,List.length_cons,List.length_nil,Nat.reduceAdd,Nat.reduceSub,Array.replicate_succ,Array.replicate_zero,List.push_toArray,List.append_toArray,List.nil_append,List.cons_append]
   gi_wp2_with ((try refine ⟨X _,?_⟩);refine hR.mono ?_;clear hR;rintro e W2 (⟨rfl,u,t⟩ | ⟨rfl,H⟩))
   ·go_ret
    exact .inl ⟨rfl,u,HB.o.trans t⟩
   ·go_ret
    exact .inr ⟨rfl,[y],List.prefix_refl _,H⟩
  ·have hv:AG (k+1) (xD T S c)=c.flatMap (AG k):=by simp [AG,AQ,A4,xD,hk]
   rw [hv] at p;have a9:(T == 2)=false:=by simpa using hk
   have a:=bA W (ze #[zd U T,zd U S,O ao c.length w] 94);have HB:Hx (Below w0.heap.size W (W.alloc (ze #[zd U T,zd U S,O ao c.length w] 94))):=a.mono hW.size;have as:=Aa (hJ _ _ _ hj a);have au:=Aa M;have ab:=Aa p;have HW:=Aa hW;have HN:=Aa hN;clear M p hv a hj hW hN hY;refine callsIn_of_wp Tryz.func211 rfl hf ?_ hro;simp only [Tryz.ntmps211,List.size_toArray,List.length_cons,List.length_nil,Nat.reduceAdd,Nat.reduceSub,Array.replicate_succ,Array.replicate_zero,List.push_toArray,List.append_toArray,List.nil_append,List.cons_append]
   gi_wp2
   gi_loopw [17] (fun i wr=>∃ (j:Nat) (q1 q2:List (EW nv)),j<=c.length/\i=zd U j/\ys=q1++q2/\q1.map Subtype.val=(c.take j).flatMap (AG k)/\J (pre++q1) wr/\Below w0.heap.size W wr) (fun i _=>c.length - (intOf i).toNat)
   case atStart=>exact ⟨0,[],ys,Nat.zero_le _,rfl,rfl,by simp,by simpa using as.o,HB.o⟩
   case round=>
    obtain ⟨j,q1,q2,ba,rfl,hq,V,Z,P⟩:=hrel;have R:=Aa hq;have C:=Aa V;have Q:=Aa Z;clear hq V Z;by_cases hlt:j < c.length
    ·obtain ⟨b,ai,rfl,Y⟩:=au.o (by rintro rfl;simp at hlt)
     obtain ⟨bi,am,r,hr⟩:=Y j c[j] (List.getElem?_eq_getElem hlt);obtain ⟨xa,xc,rfl⟩:=hr.form;have f:=HW.o.trans P;have g0:wr.cell? ⟨b,ai+j*3,none⟩=_:=Ab f _ _ (r 0 _ rfl);have g1:=Ab f _ _ (r 1 _ rfl);have g2:=Ab f _ _ (r 2 _ rfl);have al:∃ z q3,q2=z++q3/\z.map Subtype.val=AG k c[j]:=by
      have h1:=ab.o;rw [R.o,List.map_append,C.o] at h1;have h2:c.flatMap (AG k)=(c.take j).flatMap (AG k)++(AG k c[j]++(c.drop (j+1)).flatMap (AG k)):=by
       rw [<-List.append_assoc,<-GY hlt,<-List.flatMap_append,List.take_append_drop]
      rw [h2] at h1;have h3:=List.append_cancel_left h1;obtain ⟨z,q3,e1,e2,-⟩:=List.map_eq_append_iff.1 h3;exact ⟨z,q3,e1,e2⟩
     obtain ⟨z,q3,I,hz⟩:=al;have E:(pre++q1).length+z.length<=N:=by
      have:=HN.o;rw [R.o,I] at this;simp at this ⊢;omega
     obtain ⟨ek,L⟩:=nm (AQ c[j]);obtain ⟨en,K⟩:=nm (Bk c[j]);obtain ⟨xl,G⟩:=nm ((A4 c[j]).length);have a:=bA wr (ze #[zd U ek,zd U en,O xa xl xc] 94);rw [<-L,<-K,<-G] at hr;rw [<-L] at g0;rw [<-K] at g1;rw [<-G] at g2;have KI:=Aa (ih (n - 1) _ c[j] (pre++q1) z _ hr (f.trans (a.mono f.size)) (hJ _ _ _ Q.o a) hz E);have aw:=Aa (P.trans (a.mono f.size));have HX:Hx (ys=(q1++z)++q3/\(q1++z).map Subtype.val=(c.take (j+1)).flatMap (AG k)):=by
      refine ⟨by rw [R.o,I,List.append_assoc],?_⟩;rw [List.map_append,C.o,hz,GY hlt]
     clear Y r hr am L K G I hz E a f Q R C
     gi_wp2_with ((try refine ⟨X _,?_⟩);gi_at_call 211;refine (KI.o).mono ?_;clear KI;rintro e W2 (⟨rfl,u,t⟩ | ⟨rfl,q,hq,H⟩))
     ·have ar:=Aa u
      have av:=Aa (aw.o.trans t);clear u t
      gi_wp2
      go_roundw
      case rel=>exact ⟨j+1,q1++z,q3,by omega,by go_num,HX.o.1,HX.o.2,by rw [<-List.append_assoc];exact ar.o,av.o⟩
      case measure=>simp [intOf];omega
     ·gi_wp2
      go_ret;refine .inr ⟨rfl,q1++q,?_,by rw [<-List.append_assoc];exact H⟩;rw [HX.o.1,List.append_assoc];exact (List.prefix_append_right_inj _).2 (hq.trans (List.prefix_append _ _))
    ·gi_wp2
     go_ret;refine .inl ⟨rfl,?_,P⟩;have h1:=ab.o;have h2:=C.o;rw [List.take_of_length_le (by omega),<-h1,R.o] at h2;have h3:q2=[]:=by
      have:=congrArg List.length h2;simp at this;exact this
     rw [R.o,h3,List.append_nil];exact Q.o
end Go.Proofs.YtfffpjkcfnekaaaGreat.Ex
namespace Go.Proofs.YtfffpjkcfnekaaaGreat.Ex
open Go.RowKit
open Go.Value renaming slice -> O, int -> zd, bool -> zg, agg -> zh, pointer -> zi, tuple -> zk
open Go.IntKind renaming i64 -> U
open Go.Obj renaming cells -> ze
open Go.Ending renaming returned -> zj
def EM:List Value:=[zd U 3,zd U 0,zd U 0,zd U 0,zd U 0,O none 0 0,O none 0 0,O none 0 0,O none 0 0,zd U 4,zd U 0,zd U 0,zd U 2,zd U 0,O none 0 0,O none 0 0,O none 0 0,O none 0 0]
def Ad (cs:List Value) (w:World) (b:Nat):Prop:=∀ j u,cs[j]? = some u->w.cell? ⟨b,j,none⟩=some u
theorem Ad.over {cs:List Value} {w w':World} {b:Nat} (h:Ad cs w b) (hB:Ov w w'):Ad cs w' b:=fun j u hu=>Ab hB _ _ (h j u hu)
abbrev Fc (bi bo bv bm:Nat):Value:=zh #[zd U 1,O none 0 0,O none 0 0,O (some ⟨bi,0,none⟩) 1 1,O (some ⟨bo,0,none⟩) 1 1,O (some ⟨bv,0,none⟩) 1 1,O none 0 0,O (some ⟨bm,0,none⟩) 2 2]
theorem Tryz.infoL:(Tryz.prog.info? 39).map (fun i=>(i.zero,i.size,i.bytes))=some (some (zh #[O none 0 0,O none 0 0]),2,48):=by kernel_rfl
theorem Ad.new (cs:List Value) (t:Nat) (w:World):Ad cs (w.alloc (.cells cs.toArray t)) w.heap.size:=fun j u hu=>by
 rw [Lib.cell_of_heap (heap_alloc_new w _)];simpa using hu
structure Ii (bi bo bv bm:Nat) (w:World):Prop where
 ins:Ad [O none 0 0,O none 0 0] w bi
 outs:Ad [O none 0 0,O none 0 0] w bo
 vars:Ad [zg false,O none 0 0,O none 0 0] w bv
 main:Ad EM w bm
theorem Ii.over {bi bo bv bm:Nat} {w w':World} (h:Ii bi bo bv bm w) (hB:Ov w w'):Ii bi bo bv bm w':=
 ⟨h.ins.over hB,h.outs.over hB,h.vars.over hB,h.main.over hB⟩
end Go.Proofs.YtfffpjkcfnekaaaGreat.Ex
namespace Go.Proofs.YtfffpjkcfnekaaaGreat.Ex
open Go.RowKit Go.Shelf
open Go.Value renaming slice -> O, int -> zd, bool -> zg, agg -> zh, pointer -> zi, tuple -> zk
open Go.IntKind renaming i64 -> U
open Go.Obj renaming cells -> ze
open Go.Ending renaming returned -> zj
attribute [local go_sem] Oper.semAt_some
def SX (B:Nat) (v:Value):Prop:=∀ a n c,v=O (some a) n c->B<=a.block
def Oa (B:Nat) (v:Value):Prop:=∃ x y,v=zh #[x,y]/\SX B x/\SX B y
theorem Kg {W:World} {B e s n:Nat} {v:Value} {xs:List Value} (h:W.ownsRow B e s v n xs):SX B v:=by
 intro a m c d;rcases h.2 with ⟨h,-⟩ | ⟨g,j,i,h,f,-⟩
 ·rw [d] at h;cases h
 ·rw [d] at h;injection h with b l k;injection b with b;rw [b];exact f
theorem Bm {w w':World} {v:Value} {l:Lev} (h:A1 w w' v l):Oa w.heap.size v:=by
 obtain ⟨x,y,c,b,a,-⟩:=h;exact ⟨x,y,c,Kg b,Kg a⟩
theorem Aq {w w':World} {v:Value} {l:Lev} (h:A1 w w' v l):A3 w' v l:=by
 obtain ⟨x,y,c,b,a,-⟩:=h;exact ⟨x,y,c,B4 b,B4 a⟩
theorem E7 {W W':World} {v:Value} {l:List Bool} (h:AJ W v l) (hc:∀ a u,W.cell? a=some u->W'.cell? a=some u):AJ W' v l:=by
 obtain ⟨m,g,j,c⟩:=h;refine ⟨m,g,j,fun e=>?_⟩;obtain ⟨b,d,f,c⟩:=c e;exact ⟨b,d,f,fun i k=>hc _ _ (c i k)⟩
theorem Gz {W W':World} {v:Value} {l:Lev} (h:A3 W v l) (hc:∀ a u,W.cell? a=some u->W'.cell? a=some u):A3 W' v l:=by
 obtain ⟨x,y,d,c,b⟩:=h;exact ⟨x,y,d,E7 c hc,E7 b hc⟩
theorem MM (F:Fence) (n:Nat) (hf:F.fn 164) (hro:F.round=none) (ek en:Int) (xa xl xc) (w:World) :
  CallsIn F n Tryz.prog 164 #[zh #[zd U ek,zd U en,O xa xl xc]] w fun e w'=>e=zj (.func (.func 210) #[] #[zi (some ⟨w.heap.size,0,none⟩)])/\w'=w.alloc (ze #[zd U ek,zd U en,O xa xl xc] 94):=by
 refine callsIn_of_wp Tryz.func164 rfl hf ?_ hro;simp only [Tryz.ntmps164,List.size_toArray,List.length_cons,List.length_nil,Nat.reduceAdd,Nat.reduceSub,Array.replicate_succ,Array.replicate_zero,List.push_toArray,List.append_toArray,List.nil_append,List.cons_append]
 gi_wp2
 go_ret;exact ⟨rfl,rfl⟩
theorem OI (F:Fence) (hd:F.depth=none) (n:Nat) (hf:F.fn 210) (hf2:F.fn 211) (hro:F.round=none) (l nv Bt K:Nat) (w0:World) (ek en:Int) (xa xl xc d) (ys:List (EW nv)) (J Jx:List (EW nv)->World->Prop)
  (hJ:∀ s A B,J s A->Ov A B->J s B)
  (hY:∀ pre x W,J pre W->pre.length < ys.length->YieldAt F (n - 1) Tryz.prog l #[zd U x.1] W fun e W'=>
   (e=zj (zg true)/\J (pre++[x]) W'/\Below w0.heap.size W W')\/(e=zj (zg false)/\Jx (pre++[x]) W'))
  (W:World) (c0:W.cell? ⟨Bt,0,none⟩=some (zd U ek)) (c1:W.cell? ⟨Bt,1,none⟩=some (zd U en)) (c2:W.cell? ⟨Bt,2,none⟩=some (O xa xl xc)) (hx:RX w0 K [zd U ek,zd U en,O xa xl xc] d) (hW:Ov w0 W) (hys:ys.map Subtype.val=AG K d) (h0:J [] W) :
  CallsIn F n Tryz.prog 210 #[.func (.yield l) #[] #[],zi (some ⟨Bt,0,none⟩)] W fun e W'=>(∃ v,e=zj v) /\
   ((∃ zs,zs=ys/\J zs W')\/(∃ pre,pre <+: ys/\Jx pre W')):=by
 have a:∀ k:Nat,(F.depth.isSome=true->1<=k):=fun k h=>by rw [hd] at h;cases h
 have c:=Aa (Mf F hd hf2 hro l nv ys.length w0 J Jx hJ (fun m pre x W i g=>PN hd m (hY pre x W i g)) K (n - 1) _ d [] ys W hx hW h0 hys (by simp));clear hx hys hY h0 hW;refine callsIn_of_wp Tryz.func210 rfl hf ?_ hro;simp only [Tryz.ntmps210,List.size_toArray,List.length_cons,List.length_nil,Nat.reduceAdd,Nat.reduceSub,Array.replicate_succ,Array.replicate_zero,List.push_toArray,List.append_toArray,List.nil_append,List.cons_append]
 gi_wp2_with ((try refine ⟨a _,?_⟩);gi_at_call 211;refine c.o.mono ?_;clear c;rintro e j (⟨rfl,b,_⟩ | ⟨rfl,q,f,hx⟩))
 ·go_end0
  exact ⟨⟨_,rfl⟩,.inl ⟨_,rfl,by simpa using b⟩⟩
 ·go_end0
  exact ⟨⟨_,rfl⟩,.inr ⟨q,f,by simpa using hx⟩⟩
theorem GX (F:Fence) (hd:F.depth=none) (n:Nat) (hf:F.fn 210) (hf2:F.fn 211) (hro:F.round=none) (nv Bt K:Nat) (w0:World) (ek en:Int) (xa xl xc d) (ys:List (EW nv)) (w:World) (hBt:Bt < w.heap.size) (hw:Ov w0 w)
  (c0:w.cell? ⟨Bt,0,none⟩=some (zd U ek)) (c1:w.cell? ⟨Bt,1,none⟩=some (zd U en)) (c2:w.cell? ⟨Bt,2,none⟩=some (O xa xl xc)) (hx:RX w0 K [zd U ek,zd U en,O xa xl xc] d) (hys:ys.map Subtype.val=AG K d) :
  SeqStopsK F n Tryz.prog 210 #[zi (some ⟨Bt,0,none⟩)] (fun x:EW nv=>#[Value.int U x.1]) (Below w0.heap.size) (fun zs=>zs=ys) (fun pre=>pre <+: ys) ys.length w:=fun l J Jx W hW hJ _ hY h0=>
 OI F hd n hf hf2 hro l nv Bt K w0 ek en xa xl xc d ys J Jx (fun s A B hj hb=>hJ s A B none hj ⟨hb.os,hb.tape,hb.output,hb.size,fun k hk _=>hb.block k hk⟩ (fun r e=>by cases e)) hY W
  ((hW.cell (p:=⟨Bt,0,none⟩) hBt).trans c0) ((hW.cell (p:=⟨Bt,1,none⟩) hBt).trans c1) ((hW.cell (p:=⟨Bt,2,none⟩) hBt).trans c2) hx (hw.trans (hW.mono hw.size)) hys h0
end Go.Proofs.YtfffpjkcfnekaaaGreat.Ex
namespace Go.Proofs.YtfffpjkcfnekaaaGreat.Ex
open Go.RowKit
open Go.Value renaming slice -> O, int -> zd, bool -> zg, agg -> zh, pointer -> zi, tuple -> zk
open Go.IntKind renaming i64 -> U
open Go.Obj renaming cells -> ze
open Go.Ending renaming returned -> zj
theorem tk {P:Program} {ops:Array Oper} {Q:Exit->Act->World->Prop} {md:Region.Mode} {S:World->Prop} {i:Nat} {oi:Oper} {v:Value} {fuel:Nat} {listed:Array Bool} {a:Act} {w:World} (hy:YieldsIf P ops S oi v a) (hS:S w)
  (h:wpAnyH P md ops Q S fuel (listed.setIfInBounds i true) (a.put oi.dst v) w) (hi:ops[i]? = some oi:=by rfl)
  (hs:Region.noSelect ops=true:=by kernel_rfl) (hf:Region.free md ops listed i=true:=by kernel_rfl) (hr:(Region.ready md ops listed).contains i=true:=by kernel_rfl)
  (hQ:∀ c a w,Q (.panic c) (a.put oi.dst v) w->Q (.panic c) a w:=by exact fun _ _ _ h=>h):wpAnyH P md ops Q S (fuel+1) listed a w:=
 wpAnyH_take hi hs hf hr hQ hy hS h
def Ef (Qn:Act->World->Prop):Exit->Act->World->Prop
 | .normal,a,w=>Qn a w
 | _,_,_=>False
theorem Pf {Qn:Act->World->Prop}:¬ LetsOut (Ef Qn):=fun ⟨_,_,h⟩=>h
theorem PV {lo n:Nat} {P:Program} {o:Oper} {a:Act} {K K':Act->World->Prop} {Qn:Act->World->Prop} (hK:∀ a w,K a w->K' a w) :
  ∀ x:Result Next,o.upon P a K (Ef Qn) x->o.uponIn (Fence.wide.inRound lo) n P a K' (Ef Qn) x:=by
 intro x h;unfold Oper.upon at h;split at h
 ·exact hK _ _ h
 ·exact hK _ _ h
 ·exact hK _ _ h
 ·refine ⟨fun h=>(by cases h),CallsIn.inRound lo (callsIn_wide.2 (h.mono ?_))⟩
  intro e f h;cases e with
  | returned v=>exact hK _ _ h
  | panicked c=>exact h
  | outgrown=>exact h
 ·exact ⟨fun h=>(by cases h),fun c d _=>by obtain ⟨v,b,r,s⟩:=h c d;exact ⟨v,b,hK _ _ r,stepsIn_wide.2 s⟩⟩
 ·exact h
 ·exact h.elim
theorem Td {lo n:Nat} {P:Program} {ops:Array Oper} (hdf:∀ (i:Nat) o,ops[i]? = some o->∀ c,o.op≠.defer c) {Qn:Act->World->Prop} {i:Nat} {K K':Act->World->Prop} (hK:∀ a w,K a w->K' a w) (a:Act) (w:World)
  (h:wpOp P ops (Ef Qn) i K a w):wpOpIn (Fence.wide.inRound lo) n P ops (Ef Qn) i K' a w:=by
 unfold wpOp at h;unfold wpOpIn;split at h
 ·rename_i b;simp only [b];exact hK _ _ h
 ·rename_i o b
  simp only [b];split at h
  ·rename_i hw
   rw [if_pos hw];rcases h with h | ⟨-,h⟩
   ·refine ⟨fun _ _=>trivial,?_⟩
    rw [Oper.semAt_plain _ _ _ (hdf i o b)];exact PV hK _ h
   ·exact (Pf h).elim
  ·rename_i hw
   rw [if_neg hw];exact ⟨fun _ _=>trivial,hK _ _ h⟩
theorem PM {lo n:Nat} {P:Program} {md:Region.Mode} {ops:Array Oper} (hdf:∀ (i:Nat) o,ops[i]? = some o->∀ c,o.op≠.defer c) {Qn:Act->World->Prop} :
  ∀ (fuel:Nat) (listed:Array Bool) (a:Act) (w:World),wpAny P md ops (Ef Qn) fuel listed a w->wpAnyIn (Fence.wide.inRound lo) n P md ops (Ef Qn) fuel listed a w
 | 0,_,_,_,h=>h
 | fuel+1,listed,a,w,h=>⟨h.1,fun i hi=>Td hdf (fun a w h=>PM hdf fuel _ a w h) a w (h.2 i hi)⟩
theorem DN {lo n:Nat} {P:Program} {id:Nat} {ops:Array Oper} {Q:Exit->Act->World->Prop} {S:World->Prop} {a:Act} {w:World} (hm:P.follows .mixedOrders=true) (hdf:∀ (i:Nat) o,ops[i]? = some o->∀ c,o.op≠.defer c)
  (h:wpAnyH P .any ops (Ef (Q .normal)) S ops.size (Array.replicate ops.size false) a w.drew):(Code.region id ops true).wpIn (Fence.wide.inRound lo) n P Q a w:=
 wpIn_mono (wpIn_region_any hm (PM hdf _ _ _ _ (wpAny_of_held _ _ _ _ h))) fun e a w h=>by
  cases e <;> first | exact h | exact h.elim
end Go.Proofs.YtfffpjkcfnekaaaGreat.Ex
namespace Go.Proofs.YtfffpjkcfnekaaaGreat.Ex
open Go.RowKit Go.Shelf
open Go.Value renaming slice -> O, int -> zd, bool -> zg, agg -> zh, pointer -> zi, tuple -> zk
open Go.IntKind renaming i64 -> U
open Go.Obj renaming cells -> ze
open Go.Ending renaming returned -> zj
attribute [local go_sem] Oper.semAt_some
theorem EP {n:Nat} {gs:List (Int × Int)} {l k:Lev} (h:AR n gs=0) (hl:l.len n) (hk:k.len n):Fj n gs l k=0:=by
 have b:CN (n:Int) l=0:=by unfold CN;rw [if_pos ⟨by rw [hl.1],by rw [hl.2]⟩]
 have a:CN (n:Int) k=0:=by unfold CN;rw [if_pos ⟨by rw [hk.1],by rw [hk.2]⟩]
 simp [Fj,Dn,h,b,a]
theorem AX {w:World} {x y:Value} {l:Lev} (h:A3 w (zh #[x,y]) l):∃ p1 q1 r1 p2 q2 r2,x=O p1 q1 r1/\y=O p2 q2 r2:=by
 obtain ⟨u,v,e,⟨a,c,d,-⟩,⟨g,f,b,-⟩⟩:=h;simp at e;obtain ⟨rfl,rfl⟩:=e;exact ⟨_,_,_,_,_,_,d,b⟩
theorem GB {W W':World} (h:Ov W W'):KeepsOthers W W':=KeepsOthers.of_grownBy (row:=none) ⟨h.os,h.tape,h.output,h.size,fun k hk _=>h.block k hk⟩ (fun _ _ e=>by cases e)
theorem FE {W:World} {p:Addr} {a:Option Addr} {m c:Nat} {v:Value} {l:List Bool} (hp:W.cell? p=some (O a m c)) (h:AJ W v l) (u:Value):AJ (W.setCell p u) v l:=by
 obtain ⟨q,k,n,e⟩:=h;refine ⟨q,k,n,fun d=>?_⟩;obtain ⟨b,f,j,e⟩:=e d;refine ⟨b,f,j,fun i o=>?_⟩;have g:=e i o;have d:p≠⟨b,f+i,none⟩:=by
  rintro rfl;rw [hp] at g;cases g
 rw [World.cell?_setCell_other _ _ _ _ d];exact g
theorem Cz {W:World} {p:Addr} {a:Option Addr} {m c:Nat} {v:Value} {l:Lev} (hp:W.cell? p=some (O a m c)) (h:A3 W v l) (u:Value):A3 (W.setCell p u) v l:=by
 obtain ⟨x,y,e,d,b⟩:=h;exact ⟨x,y,e,FE hp d u,FE hp b u⟩
theorem M7 (n:Nat) (L l) (vs:List Int) (v:Int):A6 n L l (vs++[v])=BA (A6 n L l vs) (L.getD v.toNat Ah) n:=by simp [A6]
def Ln (n:Nat) (s:Nat) (wc:List Value) (lr lw:Value) (Ls:List Lev) (l:Lev) (nv:Nat) (pre:List (EW nv)) (W:World):Prop:=
 ∃ xr xw,W.cell? ⟨s+1,0,none⟩=some xr/\W.cell? ⟨s+1,1,none⟩=some xw/\W.frozen? ⟨s+1,0,none⟩=false/\W.frozen? ⟨s+1,1,none⟩=false/\A3 W (zh #[xr,xw]) (A6 n Ls l (pre.map Subtype.val))/\((xr=lr/\xw=lw)\/Oa s (zh #[xr,xw]))/\Ad wc W s /\
  W.cell? ⟨s+1+1+1,0,none⟩=some (O none 0 0)/\W.cell? ⟨s+1+1+1,1,none⟩=some (O none 0 0)/\W.frozen? ⟨s+1+1+1,0,none⟩=false/\W.frozen? ⟨s+1+1+1,1,none⟩=false
theorem M8 (n:Nat) (s:Nat) (wc:List Value) (lr lw:Value) (Ls l) (nv:Nat):Own (Ln n s wc lr lw Ls l nv):=by
 rintro p A B o ⟨m,k,i,g,x,w,q,r,d,f,e,v,t⟩ c b;exact ⟨m,k,cell_kept i c b,cell_kept g c b,(frozen_kept i c b).trans x,(frozen_kept g c b).trans w,Gz q (fun a u h=>cell_kept h c b),r,fun j u h=>cell_kept (d j u h) c b,cell_kept f c b,cell_kept e c b,(frozen_kept f c b).trans v,(frozen_kept e c b).trans t⟩
theorem M6 {n nv:Nat} {wc:List Value} {lr lw:Value} {Ls:List Lev} {l:Lev} {pre:List (EW nv)} {x:EW nv} {w W W2:World} {v1 v2:Value} (hI:Ln n w.heap.size wc lr lw Ls l nv pre W) (hB:Ov w W) (hb2:Ov W W2)
  (hf:A1 W W2 (zh #[v1,v2]) (BA (A6 n Ls l (pre.map Subtype.val)) (Ls.getD x.1.toNat Ah) n)) :
  KeepsOthers W ((W2.setCell ⟨w.heap.size+1,0,none⟩ v1).setCell ⟨w.heap.size+1,1,none⟩ v2)/\Below w.heap.size W ((W2.setCell ⟨w.heap.size+1,0,none⟩ v1).setCell ⟨w.heap.size+1,1,none⟩ v2)/\Ln n w.heap.size wc lr lw Ls l nv (pre++[x]) ((W2.setCell ⟨w.heap.size+1,0,none⟩ v1).setCell ⟨w.heap.size+1,1,none⟩ v2)/\Ov w ((W2.setCell ⟨w.heap.size+1,0,none⟩ v1).setCell ⟨w.heap.size+1,1,none⟩ v2):=by
 obtain ⟨G,F,E,D,C,B,H,I,f,q,s,A,z⟩:=hI;have g:w.heap.size+1+1+1 < W.heap.size:=bL q;have i:Below w.heap.size W ((W2.setCell ⟨w.heap.size+1,0,none⟩ v1).setCell ⟨w.heap.size+1,1,none⟩ v2):=((hb2.mono (by omega)).setCell (by simp) _).setCell (by simp) _;have d:∀ b o u,b≠w.heap.size+1->W.cell? ⟨b,o,none⟩=some u->((W2.setCell ⟨w.heap.size+1,0,none⟩ v1).setCell ⟨w.heap.size+1,1,none⟩ v2).cell? ⟨b,o,none⟩=some u:=fun b o u J h=>by
  have e:=Ab hb2 _ _ h;simp [go_sem,e]
 refine ⟨(GB hb2).trans ((KeepsOthers.setCell _ _ _).trans (KeepsOthers.setCell _ _ _)),i,?_,hB.trans i⟩;have k:=Bm hf;obtain ⟨u1,u2,r,p,m,-⟩:=hf;simp at r;obtain ⟨rfl,rfl⟩:=r;refine ⟨v1,v2,?_,?_,?_,?_,?_,Or.inr ?_,fun j u h=>d _ _ _ (by omega) (f j u h),d _ _ _ (by omega) q,d _ _ _ (by omega) s,?_,?_⟩
 ·simp [go_sem,Ab hb2 _ _ E]
 ·have y:=Ab hb2 _ _ D
  simp [go_sem,y]
 ·simp [go_sem,((An hb2).2 _ _ (by omega:w.heap.size+1 < W.heap.size)).trans C]
 ·simp [go_sem,((An hb2).2 _ _ (by omega:w.heap.size+1 < W.heap.size)).trans B]
 ·rw [List.map_append,List.map_singleton,M7]
  refine ⟨v1,v2,rfl,B4 (AZ (AZ p (by simp;omega) _) (by simp;omega) _),B4 (AZ (AZ m (by simp;omega) _) (by simp;omega) _)⟩
 ·obtain ⟨a,b,e,v,t⟩:=k
  exact ⟨a,b,e,fun a n c h=>Nat.le_trans hB.size (v a n c h),fun a n c h=>Nat.le_trans hB.size (t a n c h)⟩
 ·simp [go_sem,((An hb2).2 _ _ g).trans A]
 ·simp [go_sem,((An hb2).2 _ _ g).trans z]
abbrev Oi (w:World) (n:Nat) (ga:Option Addr) (gn gc:Nat) (sa:Option Addr) (sn sc:Nat) (ya:Option Addr) (yn yc:Nat) (oa:Option Addr) (on oc:Nat) (va:Option Addr) (vn vc:Nat) (fa:Option Addr) (fn fc:Nat) (ba:Option Addr) (bn bc b off ln lc:Nat) (ka:Option Addr) (kn kc j:Nat) (b1:Option Addr) (b2 b3:Nat) (b4:Option Addr) (b5 b6:Nat) (Wz:World):Prop:=Wz.cell? ⟨w.heap.size,0,none⟩=some (zd U (n:Int))/\Wz.cell? ⟨w.heap.size,1,none⟩=some (O ga gn gc)/\Wz.cell? ⟨w.heap.size,2,none⟩=some (O sa sn sc)/\Wz.cell? ⟨w.heap.size,3,none⟩=some (O ya yn yc)/\Wz.cell? ⟨w.heap.size,4,none⟩=some (O oa on oc)/\Wz.cell? ⟨w.heap.size,5,none⟩=some (O va vn vc)/\Wz.cell? ⟨w.heap.size,6,none⟩=some (O fa fn fc)/\Wz.cell? ⟨w.heap.size,7,none⟩=some (O ba bn bc)/\Wz.cell? ⟨w.heap.size,8,none⟩=some (O (some ⟨b,off,none⟩) ln lc)/\Wz.cell? ⟨w.heap.size,9,none⟩=some (O ka kn kc)/\Wz.cell? ⟨b,off+j*2,none⟩=some (O b1 b2 b3)/\Wz.cell? ⟨b,off+j*2+1,none⟩=some (O b4 b5 b6)
theorem RJ (n:Nat) (h1:1<=n) (h6:n<=6) (ga gn gc sa sn sc ya yn yc oa on oc va vn vc fa fn fc ba bn bc la ln lc ka kn kc gs) (Ls:List Lev) (p1 q1 r1 p2 q2 r2 l) (K:Nat) (ek en:Int) (xa xl xc d) (ys:List (EW Ls.length)) (w:World)
  (hg:AA w (O ga gn gc) gs) (hE:AR n gs=0) (hL:BW w (O la ln lc) Ls) (hLl:∀ x∈Ls,x.len n) (hl:A3 w (zh #[O p1 q1 r1,O p2 q2 r2]) l) (hll:l.len n) (hlm:Ls.length<=9223372036854775807)
  (hx:RX w K [zd U ek,zd U en,O xa xl xc] d) (hys:ys.map Subtype.val=AG K d) :
  Calls Tryz.prog 103 #[zh #[zd U (n:Int),O ga gn gc,O sa sn sc,O ya yn yc,O oa on oc,O va vn vc,O fa fn fc,O ba bn bc,O la ln lc,O ka kn kc],zh #[O p1 q1 r1,O p2 q2 r2],zh #[zd U ek,zd U en,O xa xl xc]] w fun e w'=>
   (∃ v,e=zj v/\A3 w' v (A6 n Ls l (AG K d))/\(v=zh #[O p1 q1 r1,O p2 q2 r2]\/Oa w.heap.size v))/\Ov w w':=by
 have m:Ov w (((((w.alloc (ze #[zd U (n:Int),O ga gn gc,O sa sn sc,O ya yn yc,O oa on oc,O va vn vc,O fa fn fc,O ba bn bc,O la ln lc,O ka kn kc] 108)).alloc (ze #[O p1 q1 r1,O p2 q2 r2] 50)).alloc (ze #[zd U ek,zd U en,O xa xl xc] 94)).alloc (ze #[O none 0 0,O none 0 0] 50)).alloc (ze #[zd U ek,zd U en,O xa xl xc] 94)):=by
  refine Below.alloc ?_ (by simp <;> omega) _
  refine Below.alloc ?_ (by simp <;> omega) _
  refine Below.alloc ?_ (by simp <;> omega) _
  refine Below.alloc ?_ (by simp <;> omega) _
  exact bA w _
 have af:Ln n w.heap.size [zd U (n:Int),O ga gn gc,O sa sn sc,O ya yn yc,O oa on oc,O va vn vc,O fa fn fc,O ba bn bc,O la ln lc,O ka kn kc] (O p1 q1 r1) (O p2 q2 r2) Ls l Ls.length [] (((((w.alloc (ze #[zd U (n:Int),O ga gn gc,O sa sn sc,O ya yn yc,O oa on oc,O va vn vc,O fa fn fc,O ba bn bc,O la ln lc,O ka kn kc] 108)).alloc (ze #[O p1 q1 r1,O p2 q2 r2] 50)).alloc (ze #[zd U ek,zd U en,O xa xl xc] 94)).alloc (ze #[O none 0 0,O none 0 0] 50)).alloc (ze #[zd U ek,zd U en,O xa xl xc] 94)):=by
  refine ⟨O p1 q1 r1,O p2 q2 r2,by simp [go_sem],by simp [go_sem],by simp [go_sem],by simp [go_sem],AK hl m,Or.inl ⟨rfl,rfl⟩,?_,by simp [go_sem],by simp [go_sem],by simp [go_sem],by simp [go_sem]⟩;intro j u hu;have hj:j < 10:=by have:=(List.getElem?_eq_some_iff.1 hu).1;simpa using this
  rcases (by omega:j=0\/j=1\/j=2\/j=3\/j=4\/j=5\/j=6\/j=7\/j=8\/j=9) with h | h | h | h | h | h | h | h | h | h <;> subst h <;> simp at hu <;> subst hu <;> simp [go_sem]
 obtain ⟨k0,k1,k2⟩:=rc3 (TE w (ze #[zd U (n:Int),O ga gn gc,O sa sn sc,O ya yn yc,O oa on oc,O va vn vc,O fa fn fc,O ba bn bc,O la ln lc,O ka kn kc] 108) (ze #[O p1 q1 r1,O p2 q2 r2] 50) (ze #[zd U ek,zd U en,O xa xl xc] 94) (ze #[O none 0 0,O none 0 0] 50) [zd U ek,zd U en,O xa xl xc] 94);have ai:=Aa (GX Fence.wide rfl 2 trivial trivial rfl Ls.length (w.heap.size+1+1+1+1) K w ek en xa xl xc d ys _ (by simp) m k0 k1 k2 hx hys);have KJ:=Aa fun (W:World) (s:Ov w W) (Z Y kr kw:Value) (a b:Lev) (ha:A3 W (zh #[Z,Y]) a) (Q:A3 W (zh #[kr,kw]) b) (aq:a.len n) (lb:b.len n)=>MY (n:Int) ga gn gc sa sn sc ya yn yc oa on oc va vn vc fa fn fc ba bn bc la ln lc ka kn kc gs Z Y kr kw a b W (Af hg s) ha Q (EP hE aq lb);have HL:=Aa fun (W:World) (s:Ov w W)=>CH hL s;have I:=Aa m;have aj:=Aa af;have N:ln=Ls.length:=by obtain ⟨ao,bd,he,-⟩:=hL;injection he
 have ah:=Aa hys;have bo:=Aa N;have ci:ln<=9223372036854775807:=by rw [N];exact hlm
 clear N;clear m af k0 k1 k2 hx hL hg hE hl hys;refine (callsIn_wide (n:=3)).1 ?_;refine callsIn_of_wp_marks Tryz.func103 rfl trivial ?_ rfl;simp only [Tryz.ntmps103,List.size_toArray,List.length_cons,List.length_nil,Nat.reduceAdd,Nat.reduceSub,Array.replicate_succ,Array.replicate_zero,List.push_toArray,List.append_toArray,List.nil_append,List.cons_append]
 gi_wp2_with (refine ⟨trivial,?_⟩;gi_at_call 164;refine (MM Fence.wide _ trivial rfl _ _ _ _ _ _).mono ?_;rintro e w' ⟨rfl,rfl⟩)
 refine wpIn_rangeFunc_ownF (F:=Fence.wide) rfl (by omega) (gf:=210) (lb:=#[zi (some ⟨w.heap.size+1+1+1+1,0,none⟩)]) rfl trivial (enters_of Tryz.func210 (by kernel_rfl) rfl)
  ai.o belowK_t (belowK_b (by simp <;> omega)) (Below.refl _ _) (fun _=>rfl)
  (fun L W=>Ln n w.heap.size [zd U (n:Int),O ga gn gc,O sa sn sc,O ya yn yc,O oa on oc,O va vn vc,O fa fn fc,O ba bn bc,O la ln lc,O ka kn kc] (O p1 q1 r1) (O p2 q2 r2) Ls l Ls.length L W/\Ov w W)
  (fun _ _ _=>False)
  (OwnFrom.and (Own.from (M8 n w.heap.size [zd U (n:Int),O ga gn gc,O sa sn sc,O ya yn yc,O oa on oc,O va vn vc,O fa fn fc,O ba bn bc,O la ln lc,O ka kn kc] (O p1 q1 r1) (O p2 q2 r2) Ls l Ls.length) _) (ownFrom_below (Nat.le_refl _) (by simp <;> omega)))
  (fun _ _ _ _ _ hs _ _=>hs)
  ⟨aj.o,I.o⟩
  (fun x=>{ tmps:=#[zh #[zd U (n:Int),O ga gn gc,O sa sn sc,O ya yn yc,O oa on oc,O va vn vc,O fa fn fc,O ba bn bc,O la ln lc,O ka kn kc],zh #[O p1 q1 r1,O p2 q2 r2],zh #[zd U ek,zd U en,O xa xl xc],zi (some ⟨w.heap.size,0,none⟩),zi (some ⟨w.heap.size+1,0,none⟩),zi (some ⟨w.heap.size+1+1,0,none⟩),zi (some ⟨w.heap.size+1+1+1,0,none⟩),zd U x.1,zh #[zd U ek,zd U en,O xa xl xc],.func (.func 210) #[] #[zi (some ⟨w.heap.size+1+1+1+1,0,none⟩)],zd U x.1,undef,undef,undef,undef,undef,undef,undef,undef,undef,undef],defers:=[] }) ?assign ?body ?done ?stop
 case assign=>
  intro l x W K q
  gi_wp2
  exact q
 case body=>
  clear ai aj I ah;rintro lo L x W ⟨⟨Z,Y,c0,c1,f0,f1,hl,hd,k,X,s1,g0,g1⟩,s⟩ _;have V:=Aa fun (v1 v2:Value) (W2:World)=>M6 (x:=x) (v1:=v1) (v2:=v2) (W2:=W2) ⟨Z,Y,c0,c1,f0,f1,hl,hd,k,X,s1,g0,g1⟩ s;obtain ⟨C,B,A,H,G,E,rfl,rfl⟩:=AX hl;obtain ⟨x,c7,c6⟩:=x;obtain ⟨j,rfl⟩:∃ j:Nat,x=(j:Int):=⟨x.toNat,by omega⟩;have hj:j < Ls.length:=by omega
  obtain ⟨b,M,bd,rv,wv,hv,T,ag,t⟩:=I1 (HL.o w (Below.refl _ _)) hj;have df:b < w.heap.size:=bL T;obtain ⟨e0,e1⟩:=co2 s T ag;have y:=AK t s;clear T ag t;injection hv with au as ar;subst au ar;have db:j < ln:=by rw [bo.o];exact hj
  clear as;obtain ⟨b1,b2,b3,b4,b5,b6,rfl,rfl⟩:=AX y;obtain ⟨w0,w1,w2,w3,w4,w5,w6,w7,w8,w9⟩:=Ch k;have bm:=Aa (fun W2 (Q:Ov W W2)=>KJ.o W2 (s.trans (Q.mono s.size)) _ _ _ _ _ _ (AK hl Q) (AK y Q) (GV _ _ hll) (hLl _ (List.getElem_mem hj)));have ab:Ls.getD (j:Int).toNat Ah=Ls[j]:=by simp [List.getD_eq_getElem?_getD,hj]
  have bp:=Aa ab;clear ab;clear KJ HL hl y hd k s hLl hll;have da:(j:Int) < (ln:Int):=by omega
  have ay:Tryz.prog.follows .mixedOrders=true:=by kernel_rfl
  have dd:1<=3 - 1 - 1:=by omega
  gi_wp2
  have a7:(fun W2:World=>Oi w n ga gn gc sa sn sc ya yn yc oa on oc va vn vc fa fn fc ba bn bc b M ln lc ka kn kc j b1 b2 b3 b4 b5 b6 W2) W.drew:=⟨w0,w1,w2,w3,w4,w5,w6,w7,w8,w9,e0,e1⟩;refine DN (S:=fun W2=>Oi w n ga gn gc sa sn sc ya yn yc oa on oc va vn vc fa fn fc ba bn bc b M ln lc ka kn kc j b1 b2 b3 b4 b5 b6 W2) ay ?_ ?_
  ·intro i o g c hc
   match i with
   | 0 | 1 | 2 | 3 | 4 | 5 | 6 | 7 | 8 | 9=>simp at g;subst g;cases hc
   | i+10=>simp at g
  refine kT 0 ?_;refine kT 2 ?_;refine kT 3 ?_;refine kT 4 ?_;refine kT 5 ?_;refine kT 6 ?_;refine kT 7 ?_;refine rdA 1 rfl fun K q=>?_;go_simp;refine xK q a7 fun f=>?_;clear q K f;refine rdA 8 rfl fun K q=>?_;go_simp;refine (bm.o _ (bD W)).mono ?_;rintro e J ⟨vj,rfl,hf,Q⟩;have HF:=Aa hf;obtain ⟨v1,v2,rfl,ax,aw,-⟩:=hf;obtain ⟨o1,o2,o3,rfl⟩:=AE ax;obtain ⟨o4,o5,o6,rfl⟩:=AE aw;have z:Hx (Ov W J):=(bD W).trans (Q.mono (Nat.le_refl _));have az:w.heap.size+1+1+1 < W.heap.size:=bL X;obtain ⟨dm,dl⟩:=co2 z.o c0 c1;have dk:J.frozen? ⟨w.heap.size+1,0,none⟩=false:=((An z.o).2 _ _ (by omega)).trans f0;have dj:J.frozen? ⟨w.heap.size+1,1,none⟩=false:=((An z.o).2 _ _ (by omega)).trans f1;have ae:(fun W2:World=>Oi w n ga gn gc sa sn sc ya yn yc oa on oc va vn vc fa fn fc ba bn bc b M ln lc ka kn kc j b1 b2 b3 b4 b5 b6 W2) J:=by
   have p:=Ab z.o;exact ⟨p _ _ w0,p _ _ w1,p _ _ w2,p _ _ w3,p _ _ w4,p _ _ w5,p _ _ w6,p _ _ w7,p _ _ w8,p _ _ w9,p _ _ e0,p _ _ e1⟩
  go_simp;refine xK q ae fun f=>?_;clear q K f;refine rdA 9 rfl fun K q=>?_;go_simp;refine q.out _ _ ?_ (fun f=>?_)
  ·obtain ⟨t0,t1,t2,t3,t4,t5,t6,t7,t8,t9,an,am⟩:=ae
   have aa:b≠w.heap.size+1:=by omega
   have g:∀ b' o' u,b'≠w.heap.size+1->J.cell? ⟨b',o',none⟩=some u->((J.setCell ⟨w.heap.size+1,0,none⟩ (O o1 o2 o3)).setCell ⟨w.heap.size+1,1,none⟩ (O o4 o5 o6)).cell? ⟨b',o',none⟩=some u:=fun b' o' u a0 h=>by
    have:=a0.symm;simp [go_sem,h]
   exact ⟨g _ _ _ (by omega) t0,g _ _ _ (by omega) t1,g _ _ _ (by omega) t2,g _ _ _ (by omega) t3,g _ _ _ (by omega) t4,g _ _ _ (by omega) t5,g _ _ _ (by omega) t6,g _ _ _ (by omega) t7,g _ _ _ (by omega) t8,g _ _ _ (by omega) t9,g _ _ _ aa an,g _ _ _ aa am⟩
  clear q K f;refine gE ?_;have ad:=V.o (O o1 o2 o3) (O o4 o5 o6) J z.o (by rw [bp.o];exact HF.o);exact ad
 case done=>
  rintro D zs W hD rfl ⟨⟨Z,Y,c0,c1,f0,f1,hl,hd,k,X,s1,g0,g1⟩,s⟩ q;obtain ⟨C,B,A,H,G,E,rfl,rfl⟩:=AX hl
  gi_wp2
  have az:w.heap.size+1+1+1 < W.heap.size:=bL X;have a8:=(KeepsOthers.setCell W ⟨w.heap.size+1+1+1,0,none⟩ (O C B A)).same D _ q rfl;have R:=(KeepsOthers.setCell (W.setCell ⟨w.heap.size+1+1+1,0,none⟩ (O C B A)) ⟨w.heap.size+1+1+1,1,none⟩ (O H G E)).same D _ a8 rfl;have x0:((W.setCell ⟨w.heap.size+1+1+1,0,none⟩ (O C B A)).setCell ⟨w.heap.size+1+1+1,1,none⟩ (O H G E)).cell? ⟨w.heap.size+1+1+1,0,none⟩=some (O C B A):=by simp [go_sem,X]
  have x1:((W.setCell ⟨w.heap.size+1+1+1,0,none⟩ (O C B A)).setCell ⟨w.heap.size+1+1+1,1,none⟩ (O H G E)).cell? ⟨w.heap.size+1+1+1,1,none⟩=some (O H G E):=by simp [go_sem,s1]
  have P:∀ a u,((W.setCell ⟨w.heap.size+1+1+1,0,none⟩ (O C B A)).setCell ⟨w.heap.size+1+1+1,1,none⟩ (O H G E)).cell? a=some u->(((W.setCell ⟨w.heap.size+1+1+1,0,none⟩ (O C B A)).setCell ⟨w.heap.size+1+1+1,1,none⟩ (O H G E)).putObj D (.deferred none)).cell? a=some u:=fun a u h=>cell_kept h (grownBy_putObj' _ D (.deferred none)) (fun r e=>by cases e;exact ⟨_,R,rfl⟩);have y0:=P _ _ x0;have y1:=P _ _ x1;have ap:(W.setCell ⟨w.heap.size+1+1+1,0,none⟩ (O C B A)).cell? ⟨w.heap.size+1+1+1,1,none⟩=some (O none 0 0):=by simp [go_sem,s1]
  refine ⟨by simp,.inl ⟨_,_,rfl,run_takeDeferred R,?_⟩⟩;refine ⟨zh #[O C B A,O H G E],by simp [results,Tryz.f103,go_sem,y0,y1],⟨_,rfl,?_,?_⟩,?_⟩
  ·rw [<-ah.o]
   exact Gz (Cz ap (Cz X hl _) _) P
  ·rcases hd with ⟨h1,h2⟩ | h
   ·exact Or.inl (by rw [h1,h2])
   ·exact Or.inr h
  ·exact ((s.setCell (by simp;omega) _).setCell (by simp;omega) _).trans (belowK_b (w:=w) (Nat.le_refl _) _ D _ _ (by simp at hD;omega) R rfl rfl)
 case stop=>
  rintro D c L W _ _ h _;exact h.elim
end Go.Proofs.YtfffpjkcfnekaaaGreat.Ex
namespace Go.Proofs.YtfffpjkcfnekaaaGreat.Ex
open Go.RowKit
open Go.Value renaming slice -> O, int -> zd, bool -> zg, agg -> zh, pointer -> zi, tuple -> zk
open Go.IntKind renaming i64 -> U
open Go.Obj renaming cells -> ze
open Go.Ending renaming returned -> zj
theorem Mm (p q:Addr) (w:World) :
  CallsD Tryz.prog 170 #[zi (some p),zi (some q)] .returning w fun e u' w'=>e=zj (zk #[])/\u'=.returning/\w'=w:=by
 refine callsD_of_wpS Tryz.func170 rfl fun b c a=>?_;apply wpS_seq;apply wpS_region;simp [wpOpsS,go_sem,recoverD,a,Tryz.ntmps170,Exit.thenS];refine wpS_of_wp ?_
 change Code.wp Tryz.prog _ _ { tmps:=#[zi (some p),zi (some q),.nilIface,undef,.nilIface,undef,undef,undef,undef,undef,undef,undef,undef],defers:=[] } w
 go_wp2
 cases b
 simp_all [bodyPostS,results,Tryz.results170]
def Bu (w:World):List Lab->List Value->Prop
 | [],xs=>xs=[]
 | l::r,xs=>∃ (pr pw:Value) (ys:List Value),xs=pr::pw::ys/\AL w pr l.r/\AL w pw l.w/\Bu w r ys
theorem Bu.over {w w':World} (hb:Ov w w'):∀ {l:List Lab} {xs:List Value},Bu w l xs->Bu w' l xs
 | [],_,h=>h
 | a::l,_,h=>by
  obtain ⟨pr,pw,ys,rfl,h1,h2,h3⟩:=h;exact ⟨pr,pw,ys,rfl,Ak h1 hb,Ak h2 hb,h3.over hb⟩
theorem Bu.append {w:World}:∀ {l m:List Lab} {xs ys:List Value},Bu w l xs->Bu w m ys->Bu w (l++m) (xs++ys)
 | [],_,_,_,h,h'=>by have e:_=_:=h;subst e;exact h'
 | a::l,_,_,_,h,h'=>by
  obtain ⟨pr,pw,zs,rfl,h1,h2,h3⟩:=h;exact ⟨pr,pw,zs++_,rfl,h1,h2,h3.append h'⟩
theorem Bu.length {w:World}:∀ {l:List Lab} {xs:List Value},Bu w l xs->xs.length=l.length*2
 | [],_,h=>by have e:_=_:=h;subst e;rfl
 | a::l,_,h=>by
  obtain ⟨pr,pw,zs,rfl,h1,h2,h3⟩:=h;have:=h3.length;simp;omega
theorem Bu.one {w:World}:∀ {l:List Lab} {xs:List Value},Bu w l xs->∀ u∈xs,u.oneCell'=true
 | [],_,h,u,hu=>by have e:_=_:=h;subst e;cases hu
 | a::l,_,h,u,hu=>by
  obtain ⟨pr,pw,zs,rfl,h1,h2,h3⟩:=h;obtain ⟨x,n,c,rfl⟩:=Az h1;obtain ⟨y,n',c',rfl⟩:=Az h2;simp only [List.mem_cons] at hu;rcases hu with rfl | rfl | hu
  ·rfl
  ·rfl
  ·exact h3.one u hu
theorem Bu.at {w:World}:∀ {l:List Lab} {xs:List Value},Bu w l xs->∀ (j:Nat) (hj:j < l.length),∃ pr pw,xs[j*2]? = some pr/\xs[j*2+1]? = some pw/\AL w pr l[j].r/\AL w pw l[j].w
 | a::l,_,h,0,hj=>by
  obtain ⟨pr,pw,zs,rfl,h1,h2,h3⟩:=h;exact ⟨pr,pw,rfl,rfl,h1,h2⟩
 | a::l,_,h,j+1,hj=>by
  obtain ⟨pr,pw,zs,rfl,h1,h2,h3⟩:=h;obtain ⟨pr',pw',e1,e2,e3,e4⟩:=h3.at j (by simpa using hj);exact ⟨pr',pw',by rw [Nat.succ_mul];exact e1,by rw [Nat.succ_mul];exact e2,e3,e4⟩
theorem Hl {w:World} {b off:Nat}:∀ (ls:List Lab) (o:Nat),(∀ i (h:i < ls.length),∃ (pr pw:Value),w.cell? ⟨b,o+i*2,none⟩=some pr/\w.cell? ⟨b,o+i*2+1,none⟩=some pw/\AL w pr ls[i].r/\AL w pw ls[i].w) ->
  ∃ xs,Bu w ls xs/\∀ j u,xs[j]? = some u->w.cell? ⟨b,o+j,none⟩=some u
 | [],o,_=>⟨[],rfl,fun j u hu=>by simp at hu⟩
 | l::ls,o,h=>by
  obtain ⟨pr,pw,h0,h1,h2,h3⟩:=h 0 (by simp);obtain ⟨xs,hx,hc⟩:=Hl (w:=w) (b:=b) (off:=off) ls (o+2) (fun i hi=>by
   obtain ⟨pr',pw',e0,e1,e2,e3⟩:=h (i+1) (by simpa using hi);refine ⟨pr',pw',?_,?_,e2,e3⟩
   ·rw [<-e0];congr 2;omega
   ·rw [<-e1];congr 2;omega)
  refine ⟨pr::pw::xs,⟨pr,pw,xs,rfl,h2,h3,hx⟩,fun j u hu=>?_⟩
  match j,hu with
  | 0,hu=>simp at hu;subst hu;simpa using h0
  | 1,hu=>simp at hu;subst hu;simpa using h1
  | j+2,hu=>
   have:=hc j u (by simpa using hu);rw [<-this];congr 2;omega
theorem QB (w:World):Calls Tryz.prog 241 #[O none 0 0,zd U 0] w fun e w'=>∃ v,e=zj v/\w'.ownsRow w.heap.size 39 2 v 0 []/\Ov w w':=by
 go_enter Tryz.func241,Tryz.ntmps241;go_wp2_with fail;go_ret;exact ⟨_,rfl,World.ownsRow_nil _ _ _ _,Below.refl _ _⟩
theorem QA (w:World):Calls Tryz.prog 241 #[O none 0 0,zd U 1] w fun e w'=>∃ v,e=zj v/\w'.ownsRow w.heap.size 39 2 v 0 []/\Ov w w':=by
 go_enter Tryz.func241,Tryz.ntmps241;go_wp2_with fail;go_ret;refine ⟨_,rfl,⟨rfl,Or.inr ⟨w.heap.size,grownCap w 1 0 39,_,rfl,Nat.le_refl _,heap_alloc_new w _,Nat.zero_le _,grownCap_le_maxLen _ _ _ _ (by decide),?_,rfl⟩⟩,(bA w _).drew⟩;have:=grownCap_ge w 1 0 39;simp [Builtin.zeroCells];unfold grownCap at this ⊢;omega
theorem Qz (w:World):Calls Tryz.prog 241 #[O none 0 0,zd U 2] w fun e w'=>∃ v,e=zj v/\w'.ownsRow w.heap.size 39 2 v 0 []/\Ov w w':=by
 go_enter Tryz.func241,Tryz.ntmps241;go_wp2_with fail;go_ret;refine ⟨_,rfl,⟨rfl,Or.inr ⟨w.heap.size,grownCap w 2 0 39,_,rfl,Nat.le_refl _,heap_alloc_new w _,Nat.zero_le _,grownCap_le_maxLen _ _ _ _ (by decide),?_,rfl⟩⟩,(bA w _).drew⟩;have:=grownCap_ge w 2 0 39;simp [Builtin.zeroCells];unfold grownCap at this ⊢;omega
theorem Qy (w:World):Calls Tryz.prog 241 #[O none 0 0,zd U 3] w fun e w'=>∃ v,e=zj v/\w'.ownsRow w.heap.size 39 2 v 0 []/\Ov w w':=by
 go_enter Tryz.func241,Tryz.ntmps241;go_wp2_with fail;go_ret;refine ⟨_,rfl,⟨rfl,Or.inr ⟨w.heap.size,grownCap w 3 0 39,_,rfl,Nat.le_refl _,heap_alloc_new w _,Nat.zero_le _,grownCap_le_maxLen _ _ _ _ (by decide),?_,rfl⟩⟩,(bA w _).drew⟩;have:=grownCap_ge w 3 0 39;simp [Builtin.zeroCells];unfold grownCap at this ⊢;omega
theorem Qx (w:World):Calls Tryz.prog 241 #[O none 0 0,zd U 4] w fun e w'=>∃ v,e=zj v/\w'.ownsRow w.heap.size 39 2 v 0 []/\Ov w w':=by
 go_enter Tryz.func241,Tryz.ntmps241;go_wp2_with fail;go_ret;refine ⟨_,rfl,⟨rfl,Or.inr ⟨w.heap.size,grownCap w 4 0 39,_,rfl,Nat.le_refl _,heap_alloc_new w _,Nat.zero_le _,grownCap_le_maxLen _ _ _ _ (by decide),?_,rfl⟩⟩,(bA w _).drew⟩;have:=grownCap_ge w 4 0 39;simp [Builtin.zeroCells];unfold grownCap at this ⊢;omega
theorem Qw (w:World):Calls Tryz.prog 241 #[O none 0 0,zd U 5] w fun e w'=>∃ v,e=zj v/\w'.ownsRow w.heap.size 39 2 v 0 []/\Ov w w':=by
 go_enter Tryz.func241,Tryz.ntmps241;go_wp2_with fail;go_ret;refine ⟨_,rfl,⟨rfl,Or.inr ⟨w.heap.size,grownCap w 5 0 39,_,rfl,Nat.le_refl _,heap_alloc_new w _,Nat.zero_le _,grownCap_le_maxLen _ _ _ _ (by decide),?_,rfl⟩⟩,(bA w _).drew⟩;have:=grownCap_ge w 5 0 39;simp [Builtin.zeroCells];unfold grownCap at this ⊢;omega
theorem Qv (w:World):Calls Tryz.prog 241 #[O none 0 0,zd U 6] w fun e w'=>∃ v,e=zj v/\w'.ownsRow w.heap.size 39 2 v 0 []/\Ov w w':=by
 go_enter Tryz.func241,Tryz.ntmps241;go_wp2_with fail;go_ret;refine ⟨_,rfl,⟨rfl,Or.inr ⟨w.heap.size,grownCap w 6 0 39,_,rfl,Nat.le_refl _,heap_alloc_new w _,Nat.zero_le _,grownCap_le_maxLen _ _ _ _ (by decide),?_,rfl⟩⟩,(bA w _).drew⟩;have:=grownCap_ge w 6 0 39;simp [Builtin.zeroCells];unfold grownCap at this ⊢;omega
theorem Qu (w:World):Calls Tryz.prog 241 #[O none 0 0,zd U 7] w fun e w'=>∃ v,e=zj v/\w'.ownsRow w.heap.size 39 2 v 0 []/\Ov w w':=by
 go_enter Tryz.func241,Tryz.ntmps241;go_wp2_with fail;go_ret;refine ⟨_,rfl,⟨rfl,Or.inr ⟨w.heap.size,grownCap w 7 0 39,_,rfl,Nat.le_refl _,heap_alloc_new w _,Nat.zero_le _,grownCap_le_maxLen _ _ _ _ (by decide),?_,rfl⟩⟩,(bA w _).drew⟩;have:=grownCap_ge w 7 0 39;simp [Builtin.zeroCells];unfold grownCap at this ⊢;omega
theorem Qt (w:World):Calls Tryz.prog 241 #[O none 0 0,zd U 8] w fun e w'=>∃ v,e=zj v/\w'.ownsRow w.heap.size 39 2 v 0 []/\Ov w w':=by
 go_enter Tryz.func241,Tryz.ntmps241;go_wp2_with fail;go_ret;refine ⟨_,rfl,⟨rfl,Or.inr ⟨w.heap.size,grownCap w 8 0 39,_,rfl,Nat.le_refl _,heap_alloc_new w _,Nat.zero_le _,grownCap_le_maxLen _ _ _ _ (by decide),?_,rfl⟩⟩,(bA w _).drew⟩;have:=grownCap_ge w 8 0 39;simp [Builtin.zeroCells];unfold grownCap at this ⊢;omega
theorem Qs (w:World):Calls Tryz.prog 241 #[O none 0 0,zd U 9] w fun e w'=>∃ v,e=zj v/\w'.ownsRow w.heap.size 39 2 v 0 []/\Ov w w':=by
 go_enter Tryz.func241,Tryz.ntmps241;go_wp2_with fail;go_ret;refine ⟨_,rfl,⟨rfl,Or.inr ⟨w.heap.size,grownCap w 9 0 39,_,rfl,Nat.le_refl _,heap_alloc_new w _,Nat.zero_le _,grownCap_le_maxLen _ _ _ _ (by decide),?_,rfl⟩⟩,(bA w _).drew⟩;have:=grownCap_ge w 9 0 39;simp [Builtin.zeroCells];unfold grownCap at this ⊢;omega
theorem Py (w:World):Calls Tryz.prog 241 #[O none 0 0,zd U 10] w fun e w'=>∃ v,e=zj v/\w'.ownsRow w.heap.size 39 2 v 0 []/\Ov w w':=by
 go_enter Tryz.func241,Tryz.ntmps241;go_wp2_with fail;go_ret;refine ⟨_,rfl,⟨rfl,Or.inr ⟨w.heap.size,grownCap w 10 0 39,_,rfl,Nat.le_refl _,heap_alloc_new w _,Nat.zero_le _,grownCap_le_maxLen _ _ _ _ (by decide),?_,rfl⟩⟩,(bA w _).drew⟩;have:=grownCap_ge w 10 0 39;simp [Builtin.zeroCells];unfold grownCap at this ⊢;omega
theorem SA (n:Nat) (hn:n<=10) (w:World):Calls Tryz.prog 241 #[O none 0 0,zd U n] w fun e w'=>∃ v,e=zj v/\w'.ownsRow w.heap.size 39 2 v 0 []/\Ov w w':=by
 match n,hn with
 | 0,_=>exact QB w
 | 1,_=>exact QA w
 | 2,_=>exact Qz w
 | 3,_=>exact Qy w
 | 4,_=>exact Qx w
 | 5,_=>exact Qw w
 | 6,_=>exact Qv w
 | 7,_=>exact Qu w
 | 8,_=>exact Qt w
 | 9,_=>exact Qs w
 | 10,_=>exact Py w
theorem AW.src2 {w:World} {ad:Addr} {n cap:Nat} {ls:List Lab} (h:AW w (O (some ad) n cap) ls):∃ xs,Bu w ls xs/\∀ j u,xs[j]? = some u->w.cell? (ad.add j)=some u:=by
 obtain ⟨-,v,k,p,q⟩:=h;injection p with r t s;rcases hl:ls with _ | ⟨a,l⟩
 ·exact ⟨[],rfl,fun j u f=>by simp at f⟩
 ·obtain ⟨b,off,d,g⟩:=q (by rw [hl];simp)
  rw [<-r] at d;have c:=Option.some.inj d;subst c;obtain ⟨xs,m,e⟩:=Hl (w:=w) (b:=b) (off:=off) ls off (fun i o=>g i o);refine ⟨xs,hl ▸ m,fun j u f=>?_⟩;rw [Addr.add_lit];exact e j u f
theorem Mi (g:Nat) (ya yn yc oa on oc) (ls ms) (w:World) (hg:Ad [O ya yn yc,O oa on oc] w g) (h1:AW w (O ya yn yc) ls) (h2:AW w (O oa on oc) ms) (hy:yn<=5) (ho:on<=5) (hyc:ya=none->yc=0) (hoc:oa=none->oc=0) :
  Calls Tryz.prog 216 #[O (some ⟨g,0,none⟩) 2 2] w fun e w'=>∃ v xs,e=zj v/\w'.ownsRow w.heap.size 39 2 v (ls++ms).length xs/\Bu w' (ls++ms) xs/\Ov w w':=by
 obtain ⟨X,Y,Q,P,N⟩:=info_parts Tryz.infoL;have K1:=Aa (SA (yn+on) (by omega) w);have Z:=Aa hg;have H1:=Aa h1;have H2:=Aa h2;have R:yn=ls.length:=by obtain ⟨-,a,c,G,-⟩:=h1;injection G
 have S:on=ms.length:=by obtain ⟨-,a,c,G,-⟩:=h2;injection G
 have E:=Aa R;have K:=Aa S;clear hg h1 h2 R S;go_enter Tryz.func216,Tryz.ntmps216;go_wp2_with fail;go_loopw [3,11] (fun s i wr=>∃ j:Int,0<=j/\j<=2/\i=zd U j/\s=zd U (if j=0 then 0 else if j=1 then (yn:Int) else (yn:Int)+on)/\wr=w) (fun _ i _=>2 - (intOf i).toNat)
 case atStart=>exact ⟨0,by omega,by omega,rfl,rfl,rfl⟩
 case round=>
  obtain ⟨j,af,hj,rfl,rfl,hw⟩:=hrel;have ab:=hw.symm;subst ab;clear hw;rcases (by omega:j=0\/j=1\/j=2) with rfl | rfl | rfl
  ·have q:=Z.o 0 _ rfl
   rw [if_pos rfl];go_wp2_with fail;exact ⟨⟨1,by omega,by omega,by first | rfl | go_num,by first | rfl | simp,by first | rfl | trivial⟩,by simp [intOf]⟩
  ·have q:=Z.o 1 _ rfl
   rw [if_neg (by omega),if_pos rfl];go_wp2_with fail;exact ⟨⟨2,by omega,by omega,by first | rfl | go_num,by first | rfl | simp,by first | rfl | trivial⟩,by simp [intOf]⟩
  ·rw [if_neg (by omega),if_neg (by omega)]
   have J:Hx (Calls Tryz.prog 241 #[O none 0 0,zd U ((yn:Int)+on)] w fun e w'=>∃ v,e=zj v/\w'.ownsRow w.heap.size 39 2 v 0 []/\Ov w w'):=by
    have:=K1.o;rw [Int.natCast_add] at this;exact this
   obtain ⟨T,hT⟩:=nm ((yn:Int)+on);rw [<-hT] at J ⊢;have as:0<=T:=by omega
   have ar:T<=10:=by omega
   clear hT;go_wp2_with fail;refine (J.o).mono ?_;rintro e w1 ⟨v,rfl,d,V⟩;clear K1 J;obtain ⟨va,vn,vc,ac⟩:∃ a n c,v=O a n c:=by
    rcases d.2 with ⟨h,_⟩ | ⟨g,ax,aw,h,_⟩
    ·exact ⟨_,_,_,h⟩
    ·exact ⟨_,_,_,h⟩
   subst ac;go_wp2_with fail;go_loopw [6,27] (fun nv i wq=>∃ (j:Int) (xs:List Value),0<=j/\j<=2/\i=zd U j/\wq.ownsRow w.heap.size 39 2 nv (if j=0 then [] else if j=1 then ls else ls++ms).length xs/\Bu w (if j=0 then [] else if j=1 then ls else ls++ms) xs/\Ov w wq) (fun _ i _=>2 - (intOf i).toNat)
   case atStart=>exact ⟨0,[],by omega,by omega,rfl,d,rfl,V⟩
   case round=>
    clear d V;obtain ⟨j,xs,af,hj,rfl,d,f,p⟩:=hrel;rcases (by omega:j=0\/j=1\/j=2) with rfl | rfl | rfl
    ·rw [if_pos rfl] at d f
     have q:=Z.o.over p 0 _ rfl;have z:w.heap.size<=wr.heap.size:=p.size;cases ya with
     | none=>
      have I:=hyc rfl;have m:ls=[]:=by
       obtain ⟨-,a0,c0,G,H⟩:=H1.o;injection G with e1 e2 e3;rcases h:ls with _ | ⟨x,r⟩
       ·rfl
       ·obtain ⟨b,aa,C,-⟩:=H (by rw [h];simp)
        rw [<-e1] at C;cases C
      have F:yn=0:=by rw [E.o,m];rfl
      subst I F;go_wp2_with (at_builtin;refine wpList_append_own_none rfl _ _ 26 rfl w.heap.size 39 X 2 Tryz.underlying26 Y _ _ _ rfl d rfl ?_);go_wp2_with fail;refine ⟨⟨1,xs,by omega,by omega,by first | rfl | go_num,?_,?_,p⟩,by simp [intOf]⟩
      ·rw [if_neg (by omega),if_pos rfl]
       rw [m];simpa using d
      ·rw [if_neg (by omega),if_pos rfl]
       rw [m];simpa using f
     | some ad=>
      obtain ⟨M,k,y⟩:=H1.o.src2;have t:=fun j u hu=>Ab p _ _ (y j u hu);have ag:([]:List Lab).length+yn<=10:=by simp;omega
      go_wp2_with (at_builtin;refine wpList_append_own _ rfl _ _ 26 rfl w.heap.size 39 X (zh #[O none 0 0,O none 0 0]) 2 48 Tryz.underlying26 Y Q P N rfl (by decide) _ _ _ rfl d ad yn yc M rfl (by rw [k.length,E.o]) t k.one (by unfold maxLen;omega) (by omega) z ?_);intro v2 w3 l A _;have D:=B5 d A z;have L:=Aa l;have B:=(f.append k);go_wp2_with fail;refine ⟨⟨1,xs++M,by omega,by omega,by first | rfl | go_num,?_,?_,p.trans D⟩,by simp [intOf]⟩
      ·rw [if_neg (by omega),if_pos rfl]
       have W:=L.o;rw [E.o] at W;simpa using W
      ·rw [if_neg (by omega),if_pos rfl]
       simpa using B
    ·rw [if_neg (by omega),if_pos rfl] at d f
     have q:=Z.o.over p 1 _ rfl;have z:w.heap.size<=wr.heap.size:=p.size;cases oa with
     | none=>
      have I:=hoc rfl;have m:ms=[]:=by
       obtain ⟨-,a0,c0,G,H⟩:=H2.o;injection G with e1 e2 e3;rcases h:ms with _ | ⟨x,r⟩
       ·rfl
       ·obtain ⟨b,aa,C,-⟩:=H (by rw [h];simp)
        rw [<-e1] at C;cases C
      have F:on=0:=by rw [K.o,m];rfl
      subst I F;go_wp2_with (at_builtin;refine wpList_append_own_none rfl _ _ 26 rfl w.heap.size 39 X 2 Tryz.underlying26 Y _ _ _ rfl d rfl ?_);go_wp2_with fail;refine ⟨⟨2,xs,by omega,by omega,by first | rfl | go_num,?_,?_,p⟩,by simp [intOf]⟩
      ·rw [if_neg (by omega),if_neg (by omega)]
       rw [m];simpa using d
      ·rw [if_neg (by omega),if_neg (by omega)]
       rw [m];simpa using f
     | some ad=>
      obtain ⟨M,k,y⟩:=H2.o.src2;have t:=fun j u hu=>Ab p _ _ (y j u hu);have ag:ls.length+on<=10:=by have:=E.o;omega
      go_wp2_with (at_builtin;refine wpList_append_own _ rfl _ _ 26 rfl w.heap.size 39 X (zh #[O none 0 0,O none 0 0]) 2 48 Tryz.underlying26 Y Q P N rfl (by decide) _ _ _ rfl d ad on oc M rfl (by rw [k.length,K.o]) t k.one (by unfold maxLen;omega) (by omega) z ?_);intro v2 w3 l A _;have D:=B5 d A z;have L:=Aa l;have B:=(f.append k);go_wp2_with fail;refine ⟨⟨2,xs++M,by omega,by omega,by first | rfl | go_num,?_,?_,p.trans D⟩,by simp [intOf]⟩
      ·rw [if_neg (by omega),if_neg (by omega)]
       have W:=L.o;rw [K.o] at W;simpa using W
      ·rw [if_neg (by omega),if_neg (by omega)]
       simpa using B
    ·rw [if_neg (by omega),if_neg (by omega)] at d f
     go_wp2_with fail;go_ret;exact ⟨_,xs,rfl,d,f.over p,p⟩
theorem LF {W:World} {B e:Nat} {v:Value} {n:Nat} {xs:List Value} (h:W.ownsRow B e 2 v n xs) (hn:0 < n):∃ g cap,v=O (some ⟨g,0,none⟩) n cap/\B<=g/\g < W.heap.size/\∀ j u,xs[j]? = some u->W.cell? ((⟨g,0,none⟩:Addr).add j)=some u:=by
 rcases h.2 with ⟨_,o⟩ | ⟨g,cap,i,c,d,b,m,l,k,f⟩
 ·omega
 ·refine ⟨g,cap,c,d,(Array.getElem?_eq_some_iff.1 b).1,fun j u a=>?_⟩
  rw [Addr.add_lit,Lib.cell_of_heap b];rw [<-f,List.getElem?_take] at a;split at a
  ·simpa using a
  ·cases a
def Fi (m:Int) (gs:List (Int × Int)) (ls:List Lab) (vs:List (Bool × Lab)):Prop:=
 (∀ b∈ls,Bb m gs b=0)/\(∀ v∈vs,Bb m gs v.2=0)/\∀ v∈vs,v.1=false->v.2.r=[]/\v.2.w=[]
theorem EE {α:Type} {P:α->Prop} {l:List α} {n:Nat} (h:n < l.length) (h1:∀ b∈l.take n,P b) (h2:P l[n]):∀ b∈l.take (n+1),P b:=fun b hb=>by
 rw [List.take_succ_eq_append_getElem h,List.mem_append,List.mem_singleton] at hb;rcases hb with hb | rfl
 ·exact h1 b hb
 ·exact h2
theorem EF {α:Type} {P:α->Prop} {l:List α} {n:Nat} (h:l.length<=n) (h1:∀ b∈l.take n,P b):∀ b∈l,P b:=by
 rw [List.take_of_length_le h] at h1;exact h1
theorem J8 {w:World} {a:Option Addr} {n c:Nat} {ps:List Pol} (h:AL w (O a n c) ps):n=ps.length:=by
 obtain ⟨e,d,b,-⟩:=h;injection b
structure BD (K kf:Nat) (m:Int) (ga:Option Addr) (gn gc:Nat) (sa:Option Addr) (sn sc:Nat) (ya:Option Addr) (yn yc:Nat) (oa:Option Addr) (on oc:Nat) (va:Option Addr) (vn vc:Nat) (fa:Option Addr) (fn fc:Nat) (ba:Option Addr) (bn bc:Nat) (gs:List (Int × Int)) (sp:List Int) (ls ms:List Lab) (vs:List (Bool × Lab)) (fs:List FnD) (l:List D) (w:World):Prop where
 m64:Cu m
 grants:AA w (O ga gn gc) gs
 speak:AN w (O sa sn sc) sp
 speakL:sp.length<=9223372036854775807
 ins:AW w (O ya yn yc) ls
 outs:AW w (O oa on oc) ms
 vars:Bs w (O va vn vc) vs
 funcs:Bv w K kf (O fa fn fc) fs
 main:Bj w K kf (O ba bn bc) l
 insN:ya=none->yc=0
 outsN:oa=none->oc=0
theorem BD.over {K kf:Nat} {m:Int} {ga:Option Addr} {gn gc:Nat} {sa:Option Addr} {sn sc:Nat} {ya:Option Addr} {yn yc:Nat} {oa:Option Addr} {on oc:Nat} {va:Option Addr} {vn vc:Nat} {fa:Option Addr} {fn fc:Nat} {ba:Option Addr} {bn bc:Nat} {gs:List (Int × Int)} {sp:List Int} {ls ms:List Lab} {vs:List (Bool × Lab)} {fs:List FnD} {l:List D} {w w':World} (h:BD K kf m ga gn gc sa sn sc ya yn yc oa on oc va vn vc fa fn fc ba bn bc gs sp ls ms vs fs l w) (hb:Ov w w'):BD K kf m ga gn gc sa sn sc ya yn yc oa on oc va vn vc fa fn fc ba bn bc gs sp ls ms vs fs l w':=
 ⟨h.m64,Af h.grants hb,h.speak.over hb,h.speakL,h.ins.over hb,h.outs.over hb,h.vars.over hb,h.funcs.over hb,h.main.over hb,h.insN,h.outsN⟩
structure okP (K kf:Nat) (m:Int) (vn yn on:Nat) (gs:List (Int × Int)) (sp:List Int) (ls ms:List Lab) (vs:List (Bool × Lab)) (fs:List FnD) (l:List D):Prop where
 chk:AR m gs=0
 speak:∀ x∈sp,0<=x/\x < m
 labs:Fi m gs (ls++ms) vs
 outs:on<=5
 vars:vn<=16
 ins:yn<=5
 funcs:fs.length<=5
 many:A2 kf fs+AI kf l<=50
 body:∀ i (h:i < fs.length),okF K vn yn on (i:Int) fs kf fs[i]
 main:∀ s∈l,okS K vn yn on (fs.length:Int) fs kf s
theorem QO (v:Value) (w:World):(Instr.typeAssert (.iface 230 v) 20 230 false).run Tryz.prog w=.ok v w:=by
 simp [Instr.typeAssert,run_underlying Tryz.underlying230,go_sem,Result.andThen]
theorem Mn (B:Nat) (x y a e:Int) (older:List PanicEntry) (w:World) (hB:B+2<=w.heap.size)
  (c0:w.cell? ⟨B,0,none⟩=some (zd U x)) (c1:w.cell? ⟨B+1,0,none⟩=some (zd U y))
  (f0:w.frozen? ⟨B,0,none⟩=false) (f1:w.frozen? ⟨B+1,0,none⟩=false) :
  CallsD Tryz.prog 170 #[zi (some ⟨B,0,none⟩),zi (some ⟨B+1,0,none⟩)] (.panicking ({ v:=.iface 230 (zh #[zd U a,zd U e]),recovered:=false }::older)) w fun en u' w'=>
   en=zj (zk #[])/\u'=.panicking ({ v:=.iface 230 (zh #[zd U a,zd U e]),recovered:=true }::older) /\
   w'.cell? ⟨B,0,none⟩=some (zd U a)/\w'.cell? ⟨B+1,0,none⟩=some (zd U e)/\Below B w w':=by
 have f:=QO;refine callsD_of_wpS Tryz.func170 rfl fun g h d=>?_;apply wpS_seq;apply wpS_region;simp [wpOpsS,go_sem,recoverD,d,Tryz.ntmps170,Exit.thenS];refine wpS_of_wp ?_
 change Code.wp Tryz.prog _ _ { tmps:=#[zi (some ⟨B,0,none⟩),zi (some ⟨B+1,0,none⟩),.iface 230 (zh #[zd U a,zd U e]),undef,.iface 230 (zh #[zd U a,zd U e]),undef,undef,undef,undef,undef,undef,undef,undef],defers:=[] } w
 go_wp2
 have c:B < w.heap.size:=by omega
 have b:B+1 < w.heap.size:=by omega
 go_region
 go_wp2
 refine ⟨rfl,_,by cases g;simp_all,zk #[],by simp [results,Tryz.results170],rfl,rfl,?_⟩;refine ⟨by simp [go_sem,c,c0],by simp [go_sem,b,c1],?_⟩;exact (((((Below.refl B w).setCell (by simp) _).setCell (by simp) _)).alloc (by simp [World.setCell];omega) _).drew
structure WC where
 n:Nat
 ga:Option Addr
 gn:Nat
 gc:Nat
 sa:Option Addr
 sn:Nat
 sc:Nat
 ya:Option Addr
 yn:Nat
 yc:Nat
 oa:Option Addr
 on:Nat
 oc:Nat
 va:Option Addr
 vn:Nat
 vc:Nat
 fa:Option Addr
 fn:Nat
 fc:Nat
 ba:Option Addr
 bn:Nat
 bc:Nat
 la:Option Addr
 ln:Nat
 lc:Nat
 ka:Option Addr
 kn:Nat
 kc:Nat
abbrev WC.v (c:WC):Value:=zh #[zd U (c.n:Int),O c.ga c.gn c.gc,O c.sa c.sn c.sc,O c.ya c.yn c.yc,O c.oa c.on c.oc,O c.va c.vn c.vc,O c.fa c.fn c.fc,O c.ba c.bn c.bc,O c.la c.ln c.lc,O c.ka c.kn c.kc]
abbrev WC.cs (c:WC):List Value:=[zd U (c.n:Int),O c.ga c.gn c.gc,O c.sa c.sn c.sc,O c.ya c.yn c.yc,O c.oa c.on c.oc,O c.va c.vn c.vc,O c.fa c.fn c.fc,O c.ba c.bn c.bc,O c.la c.ln c.lc,O c.ka c.kn c.kc]
structure FrW (X:World->Nat->Prop) (W W':World):Prop where
 os:W'.os=W.os
 tape:W'.tape=W.tape
 output:W'.output=W.output
 size:W.heap.size<=W'.heap.size
 block:∀ k,k < W.heap.size->¬ X W k->W'.heap[k]? = W.heap[k]?
 mov:∀ k,k < W.heap.size->X W' k->X W k
theorem FrW.trans {X:World->Nat->Prop} {A B C:World} (h:FrW X A B) (k:FrW X B C):FrW X A C:=
 ⟨k.os.trans h.os,k.tape.trans h.tape,k.output.trans h.output,Nat.le_trans h.size k.size,fun i hi hx=>(k.block i (Nat.lt_of_lt_of_le hi h.size) (fun hh=>hx (h.mov i hi hh))).trans (h.block i hi hx),fun i hi hx=>h.mov i hi (k.mov i (Nat.lt_of_lt_of_le hi h.size) hx)⟩
structure XOk (X:World->Nat->Prop):Prop where
 below:∀ W W',Ov W W'->∀ k,X W' k->X W k
theorem FrW.of_below {X:World->Nat->Prop} (hX:XOk X) {A B:World} (h:Ov A B):FrW X A B:=⟨h.os,h.tape,h.output,h.size,fun k hk _=>h.block k hk,fun k _ hx=>hX.below A B h k hx⟩
theorem FrW.refl {X:World->Nat->Prop} (A:World):FrW X A A:=⟨rfl,rfl,rfl,Nat.le_refl _,fun _ _ _=>rfl,fun _ _ h=>h⟩
theorem FrW.cell {X:World->Nat->Prop} {A B:World} (h:FrW X A B) {b j:Nat} {u:Value} (hc:A.cell? ⟨b,j,none⟩=some u) (hx:¬ X A b):B.cell? ⟨b,j,none⟩=some u:=
 (World.cell?_of_block (h.block b (bL hc) hx)).trans hc
theorem FrW.row {X:World->Nat->Prop} {A B:World} (h:FrW X A B) {b:Nat} {cs:List Value} (hc:Ad cs A b) (hx:¬ X A b):Ad cs B b:=fun j u hu=>h.cell (hc j u hu) hx
def SW (P:Nat->Prop) (v:Value):Prop:=∃ x y,v=zh #[x,y]/\(∀ a n c,x=O (some a) n c->¬ P a.block)/\∀ a n c,y=O (some a) n c->¬ P a.block
structure Aw (n:Nat) (X:World->Nat->Prop) (W:World) (v:Value) (l:Lev):Prop where
 at_:A3 W v l
 len:l.len n
 off:SW (X W) v
theorem DV {X:World->Nat->Prop} {A B:World} {v:Value} {l:List Bool} (h:AJ A v l) (hf:FrW X A B) (hx:∀ a n c,v=O (some a) n c->¬ X A a.block):AJ B v l:=by
 obtain ⟨o,g,k,d⟩:=h;refine ⟨o,g,k,fun j=>?_⟩;obtain ⟨b,e,f,d⟩:=d j;refine ⟨b,e,f,fun i m=>hf.cell (d i m) ?_⟩;exact hx ⟨b,e,none⟩ l.length g (by rw [k,f])
theorem Aw.keep {n:Nat} {X:World->Nat->Prop} {A B:World} {v:Value} {l:Lev} (h1:1<=n) (h:Aw n X A v l) (hf:FrW X A B):Aw n X B v l:=by
 obtain ⟨x,y,g,r,q⟩:=h.off;obtain ⟨C,z,d,s,i⟩:=h.at_;rw [g] at d;simp at d;obtain ⟨rfl,rfl⟩:=d;have p:∀ (v:Value) (l:List Bool),AJ A v l->l.length=n->∀ a m c,v=O (some a) m c->a.block < A.heap.size:=by
  intro v l u t a m c e;obtain ⟨D,w,g,f⟩:=u;obtain ⟨b,off,k,f⟩:=f (by rintro rfl;simp at t;omega);rw [g,k] at e;injection e with o;injection o with o;rw [<-o];exact bL (f 0 (by omega))
 refine ⟨⟨x,y,g,DV s hf r,DV i hf q⟩,h.len,x,y,g,fun a m c e j=>r a m c e (hf.mov _ (p _ _ s h.len.1 a m c e) j),fun a m c e j=>q a m c e (hf.mov _ (p _ _ i h.len.2 a m c e) j)⟩
theorem Aw.over {n:Nat} {X:World->Nat->Prop} (hX:XOk X) {A B:World} {v:Value} {l:Lev} (h:Aw n X A v l) (hb:Ov A B):Aw n X B v l:=by
 obtain ⟨x,y,g,f,d⟩:=h.off;exact ⟨AK h.at_ hb,h.len,x,y,g,fun a m c e b=>f a m c e (hX.below A B hb _ b),fun a m c e b=>d a m c e (hX.below A B hb _ b)⟩
theorem B8 {X:World->Nat->Prop} (hX:XOk X) {A B:World} (hb:Ov A B) (hlt:∀ k,X A k->k < A.heap.size) {v:Value} (h:Oa A.heap.size v):SW (X B) v:=by
 obtain ⟨x,y,g,f,d⟩:=h;refine ⟨x,y,g,fun a m c e b=>?_,fun a m c e b=>?_⟩
 ·have:=f a m c e
  have:=hlt _ (hX.below A B hb _ b);omega
 ·have:=d a m c e
  have:=hlt _ (hX.below A B hb _ b);omega
def A9 (n:Nat) (X:World->Nat->Prop) (w:World) (v:Value) (ls:List Lev):Prop:=
 ∃ ao cap,v=O ao ls.length cap/\(ls≠[]->∃ b off,ao=some ⟨b,off,none⟩/\∀ i (h:i < ls.length),∃ rv wv,w.cell? ⟨b,off+i*2,none⟩=some rv/\w.cell? ⟨b,off+i*2+1,none⟩=some wv/\Aw n X w (zh #[rv,wv]) ls[i])
theorem A9.levs {n:Nat} {X:World->Nat->Prop} {w:World} {v:Value} {ls:List Lev} (h:A9 n X w v ls):BW w v ls:=by
 obtain ⟨q,f,k,a⟩:=h;refine ⟨q,f,k,fun d=>?_⟩;obtain ⟨b,c,e,a⟩:=a d;refine ⟨b,c,e,fun i l=>?_⟩;obtain ⟨j,g,p,o,m⟩:=a i l;exact ⟨j,g,p,o,m.at_⟩
theorem A9.len {n:Nat} {X:World->Nat->Prop} {w:World} {v:Value} {ls:List Lev} (h:A9 n X w v ls):∀ x∈ls,x.len n:=by
 intro x e;obtain ⟨i,c,rfl⟩:=List.getElem_of_mem e;obtain ⟨o,j,m,a⟩:=h;obtain ⟨b,d,f,a⟩:=a (by rintro rfl;simp at c);obtain ⟨l,k,-,-,g⟩:=a i c;exact g.len
theorem A9.over {n:Nat} {X:World->Nat->Prop} (hX:XOk X) {w w':World} {v:Value} {ls:List Lev} (h:A9 n X w v ls) (hb:Ov w w'):A9 n X w' v ls:=by
 obtain ⟨q,f,k,a⟩:=h;refine ⟨q,f,k,fun d=>?_⟩;obtain ⟨b,c,e,a⟩:=a d;refine ⟨b,c,e,fun i l=>?_⟩;obtain ⟨j,g,p,o,m⟩:=a i l;exact ⟨j,g,Ab hb _ _ p,Ab hb _ _ o,m.over hX hb⟩
theorem Df (c:WC) (h1:1<=c.n) (h6:c.n<=6) (gs Ls) (X:World->Nat->Prop) (hX:XOk X) (v:Value) (l) (K:Nat) (cs:List Value) (d) (w:World)
  (hg:AA w (O c.ga c.gn c.gc) gs) (hE:AR c.n gs=0) (hL:A9 c.n X w (O c.la c.ln c.lc) Ls) (hl:Aw c.n X w v l) (hlm:Ls.length<=16) (hlt:∀ k,X w k->k < w.heap.size)
  (hx:RX w K cs d) (hv:∀ x∈AG K d,0<=x/\x < (Ls.length:Int)) :
  Calls Tryz.prog 103 #[c.v,v,.agg cs.toArray] w fun e w'=>
   (∃ p1 q1 r1 p2 q2 r2,e=zj (zh #[O p1 q1 r1,O p2 q2 r2])/\Aw c.n X w' (zh #[O p1 q1 r1,O p2 q2 r2]) (A6 c.n Ls l (AG K d)))/\Ov w w':=by
 obtain ⟨i,g⟩:=OJ Ls.length _ hv;obtain ⟨m,j,rfl⟩:=hx.form;obtain ⟨x,y,rfl,-⟩:=hl.at_;obtain ⟨p1,q1,r1,p2,q2,r2,rfl,rfl⟩:=AX hl.at_;refine (RJ c.n h1 h6 c.ga c.gn c.gc c.sa c.sn c.sc c.ya c.yn c.yc c.oa c.on c.oc c.va c.vn c.vc c.fa c.fn c.fc c.ba c.bn c.bc c.la c.ln c.lc c.ka c.kn c.kc gs Ls p1 q1 r1 p2 q2 r2 l K _ _ m _ j d i w hg hE hL.levs hL.len hl.at_ hl.len (by omega) hx g).mono ?_;rintro e w' ⟨⟨v,rfl,b,hd⟩,h⟩;refine ⟨?_,h⟩;have a:=b;have o:SW (X w') v:=by
  rcases hd with rfl | hd
  ·exact (hl.over hX h).off
  ·exact B8 hX h hlt hd
 have f:=GV (L:=Ls) (AG K d) l hl.len;obtain ⟨x,y,rfl,-⟩:=b;obtain ⟨u,t,s,r,q,p,rfl,rfl⟩:=AX a;exact ⟨_,_,_,_,_,_,rfl,a,f,o⟩
end Go.Proofs.YtfffpjkcfnekaaaGreat.Ex
