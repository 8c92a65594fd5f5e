/- Package label: Level keeps its contract. -/
import Derived.Test.YtfffpjkcfnekaaaGreatE02
import Derived.RangeFuncNested
import Derived.RangeFuncBound
import Derived.RangeFuncCalls
import Derived.RangeFuncLeaves
import Derived.Shelf.Abstract
import Derived.Shelf.RegionOpen
import Derived.WalkKit
import Derived.OwnWalkIn
import Derived.TacticsInMore
import Derived.LoopNIn
import Derived.LoopIn
import Derived.Deep.QuietTactic
import Derived.BigQuiet
import Derived.Defers
import Derived.Recover
import Derived.OrdersHeld
import Derived.Deep.RegionHeld3
import Derived.Laws.AppendOwnNone
set_option linter.unusedVariables false
set_option maxHeartbeats 8000000
set_option maxRecDepth 100000
namespace Go.Proofs.YtfffpjkcfnekaaaGreat
open Go.RowKit
open Go.Value renaming slice -> O, int -> zd, bool -> zg, agg -> zh, pointer -> zi, tuple -> zk
open Go.IntKind renaming i64 -> U
open Go.Obj renaming cells -> ze
open Go.Ending renaming returned -> zj
attribute [local go_sem ↓] Go.wp_at_zero Go.wp_at_succ
theorem Kj (gn:List (Nat × Nat)) (n who:Nat) (ps:List Pol):ps.all (Jm (acts gn n who))=Cy gn n who ps:=rfl
theorem RA {wB W W':World} {b0 o0 b1 o1 b2 o2:Nat} {v0 v1 v2:Value} (h:W.cell? ⟨b0,o0,none⟩=some v0/\W.cell? ⟨b1,o1,none⟩=some v1/\W.cell? ⟨b2,o2,none⟩=some v2/\Ov wB W) (hb:Ov W W'):W'.cell? ⟨b0,o0,none⟩=some v0/\W'.cell? ⟨b1,o1,none⟩=some v1/\W'.cell? ⟨b2,o2,none⟩=some v2/\Ov wB W':=Px h hb
theorem SH (args:Array Value) (w:World):(callFunc 71 args).run Tryz.prog w=.ok (.enter 71 args) w:=by simp [go_sem]
theorem LP (ab lb ob n who:Nat) (hn:n<=6) (hw:who < n) (gn:List (Nat × Nat)) (pv:Value) (ps:List Pol) (w:World) (h0:w.cell? ⟨ab,0,none⟩=some (O (some ⟨ob,0,none⟩) n n)) (h1:w.cell? ⟨lb,0,none⟩=some pv) (hr:CZ w ob n gn n) (hp:AL w pv ps) (hps:ps.length<=4/\∀ p∈ps,E5 n p) :
  Calls Tryz.prog 71 #[zd U who,zi (some ⟨ab,0,none⟩),zi (some ⟨lb,0,none⟩)] w fun e w'=>e=zj (zg (Cy gn n who ps))/\Ov w w':=by
 obtain ⟨h,k,u,hk⟩:=hr who hw;have b:Ad w h n (acts gn n who):=⟨BJ _ _ _,fun i hi=>(hk i hi).1⟩;have f:=fun (W:World) (g:Ov w W)=>FC h n (acts gn n who) pv ps W hn (Fe b g) (Ak hp g) hps;simp only [Kj] at f;obtain ⟨t,q,s,rfl⟩:=Az hp;obtain ⟨r,hr⟩:=nm (Cy gn n who ps);rw [<-hr] at f ⊢;have y:=Aa f;have B:(0:Int)<=(who:Int):=by omega
 have A:(who:Int) < (n:Int):=by omega
 clear f hr hp b hk k;go_enter Tryz.func71,Tryz.ntmps71;go_wp2_with fail;first | go_region_held3 (fun W=>W.cell? ⟨ab,0,none⟩=some (O (some ⟨ob,0,none⟩) n n)/\W.cell? ⟨ob,who,none⟩=some (O (some ⟨h,0,none⟩) n n)/\W.cell? ⟨lb,0,none⟩=some (O t q s)/\Ov w W) (first | assumption | exact ⟨h0,u,h1,below_drewN (Below.refl _ _) 1⟩ | exact RA (by assumption) hbp | fail) (first | (go_at_call 72;refine (y.o _ (by assumption:_/\_/\_/\_).2.2.2).mono ?_;rintro e l ⟨rfl,hbp⟩)) | fail
 all_goals obtain ⟨-,-,-,g⟩:=(by assumption:l.cell? _=_/\_/\_/\_)
 all_goals go_wp2_with fail
 all_goals go_ret
 all_goals exact ⟨rfl,g⟩
theorem Mr (args:Array Value) (w:World):(callFunc 73 args).run Tryz.prog w=.ok (.enter 73 args) w:=by simp [go_sem]
theorem LO (ab lb ob n who:Nat) (hn:n<=6) (hw:who < n) (gn:List (Nat × Nat)) (pv:Value) (ps:List Pol) (w:World) (h0:w.cell? ⟨ab,0,none⟩=some (O (some ⟨ob,0,none⟩) n n)) (h1:w.cell? ⟨lb,1,none⟩=some pv) (hr:CZ w ob n gn n) (hp:AL w pv ps) (hps:ps.length<=4/\∀ p∈ps,E5 n p) :
  Calls Tryz.prog 73 #[zd U who,zi (some ⟨ab,0,none⟩),zi (some ⟨lb,0,none⟩)] w fun e w'=>e=zj (zg (Cy gn n who ps))/\Ov w w':=by
 obtain ⟨h,k,u,hk⟩:=hr who hw;have b:Ad w h n (acts gn n who):=⟨BJ _ _ _,fun i hi=>(hk i hi).1⟩;have f:=fun (W:World) (g:Ov w W)=>FC h n (acts gn n who) pv ps W hn (Fe b g) (Ak hp g) hps;simp only [Kj] at f;obtain ⟨t,q,s,rfl⟩:=Az hp;obtain ⟨r,hr⟩:=nm (Cy gn n who ps);rw [<-hr] at f ⊢;have y:=Aa f;have B:(0:Int)<=(who:Int):=by omega
 have A:(who:Int) < (n:Int):=by omega
 clear f hr hp b hk k;go_enter Tryz.func73,Tryz.ntmps73;go_wp2_with fail;first | go_region_held3 (fun W=>W.cell? ⟨ab,0,none⟩=some (O (some ⟨ob,0,none⟩) n n)/\W.cell? ⟨ob,who,none⟩=some (O (some ⟨h,0,none⟩) n n)/\W.cell? ⟨lb,1,none⟩=some (O t q s)/\Ov w W) (first | assumption | exact ⟨h0,u,h1,below_drewN (Below.refl _ _) 1⟩ | exact RA (by assumption) hbp | fail) (first | (go_at_call 72;refine (y.o _ (by assumption:_/\_/\_/\_).2.2.2).mono ?_;rintro e l ⟨rfl,hbp⟩)) | fail
 all_goals obtain ⟨-,-,-,g⟩:=(by assumption:l.cell? _=_/\_/\_/\_)
 all_goals go_wp2_with fail
 all_goals go_ret
 all_goals exact ⟨rfl,g⟩
theorem Ju (n:Nat) (h1:1<=n) (hn:n<=6) (ab lb ob:Nat) (gn:List (Nat × Nat)) (v pr pw:Value) (bl:Lab) (w3:World) (h0:w3.cell? ⟨ab,0,none⟩=some (O (some ⟨ob,0,none⟩) n n)) (l0:w3.cell? ⟨lb,0,none⟩=some pr) (l1:w3.cell? ⟨lb,1,none⟩=some pw) (hr:CZ w3 ob n gn n) (hp:AL w3 pr bl.r) (hq:AL w3 pw bl.w) (hin:MU n bl) (W:World) (hB:Ov w3 W) :
  (Calls Tryz.prog 70 #[zh #[zd U n,v],.func (.func 71) #[] #[zi (some ⟨ab,0,none⟩),zi (some ⟨lb,0,none⟩)]] W fun e w'=>∃ g,e=zj (O (some ⟨g,0,none⟩) n n)/\W.heap.size<=g/\g < w'.heap.size/\w'.ownsRow W.heap.size 4 1 (O (some ⟨g,0,none⟩) n n) n (AB (BI (fun i=>Cy gn n i bl.r) n))/\Ov W w') /\
  (Calls Tryz.prog 70 #[zh #[zd U n,v],.func (.func 73) #[] #[zi (some ⟨ab,0,none⟩),zi (some ⟨lb,0,none⟩)]] W fun e w'=>∃ g,e=zj (O (some ⟨g,0,none⟩) n n)/\W.heap.size<=g/\g < w'.heap.size/\w'.ownsRow W.heap.size 4 1 (O (some ⟨g,0,none⟩) n n) n (AB (BI (fun i=>Cy gn n i bl.w) n))/\Ov W w'):=by
 have up:∀ (W':World),Ov W W'->∀ b o v,w3.cell? ⟨b,o,none⟩=some v->W'.cell? ⟨b,o,none⟩=some v:=fun W' k b o v h=>by rw [(An k).1 _ _ (Nat.lt_of_lt_of_le (bL h) hB.size),(An hB).1 _ _ (bL h)];exact h
 refine ⟨EC 71 _ _ (fun i=>Cy gn n i bl.r) n h1 hn v W (Aa fun i hi W' k=>?_) SH,EC 73 _ _ (fun i=>Cy gn n i bl.w) n h1 hn v W (Aa fun i hi W' k=>?_) Mr⟩
 ·have f:Ov w3 W':=hB.trans (k.mono hB.size)
  exact LP ab lb ob n i hn hi gn pr bl.r W' (up W' k _ _ _ h0) (up W' k _ _ _ l0) (EH hr f) (Ak hp f) hin.1
 ·have f:Ov w3 W':=hB.trans (k.mono hB.size)
  exact LO ab lb ob n i hn hi gn pw bl.w W' (up W' k _ _ _ h0) (up W' k _ _ _ l1) (EH hr f) (Ak hq f) hin.2
theorem S4 {wB W:World} {b o0 o1 q:Nat} {v0 v1 u:Value} (h:W.cell? ⟨b,o0,none⟩=some v0/\W.cell? ⟨b,o1,none⟩=some v1/\(W.cell? ⟨q,0,none⟩=some u->Ov wB W)) (hq:W.cell? ⟨q,0,none⟩=some u):Ov wB W:=h.2.2 hq
theorem Rz {wB W W':World} {b o0 o1 q:Nat} {v0 v1 u:Value} (h:W.cell? ⟨b,o0,none⟩=some v0/\W.cell? ⟨b,o1,none⟩=some v1/\(W.cell? ⟨q,0,none⟩=some u->Ov wB W)) (hq:W.cell? ⟨q,0,none⟩=some u) (hb:Ov W W'):W'.cell? ⟨b,o0,none⟩=some v0/\W'.cell? ⟨b,o1,none⟩=some v1/\(W'.cell? ⟨q,0,none⟩=some u->Ov wB W'):=by
 obtain ⟨i,g,k⟩:=h;have f:=k hq;obtain ⟨e,l⟩:=An hb;exact ⟨by rw [e _ _ (bL i)];exact i,by rw [e _ _ (bL g)];exact g,fun _=>f.trans (hb.mono f.size)⟩
theorem Tx {wB W:World} {b o0 o1 q g n:Nat} {v0 v1 u y:Value} (h:W.cell? ⟨b,o0,none⟩=some v0/\W.cell? ⟨b,o1,none⟩=some v1/\(W.cell? ⟨q,0,none⟩=some (O none 0 0)->Ov wB W)) (hb:b≠q) (hq:W.cell? ⟨q,0,none⟩=some u) :
  ((W.setCell ⟨q,0,none⟩ (O (some ⟨g,0,none⟩) n n)).setCell ⟨q,1,none⟩ y).cell? ⟨b,o0,none⟩=some v0/\((W.setCell ⟨q,0,none⟩ (O (some ⟨g,0,none⟩) n n)).setCell ⟨q,1,none⟩ y).cell? ⟨b,o1,none⟩=some v1/\(((W.setCell ⟨q,0,none⟩ (O (some ⟨g,0,none⟩) n n)).setCell ⟨q,1,none⟩ y).cell? ⟨q,0,none⟩=some (O none 0 0)->Ov wB ((W.setCell ⟨q,0,none⟩ (O (some ⟨g,0,none⟩) n n)).setCell ⟨q,1,none⟩ y)):=by
 obtain ⟨k,i,l⟩:=h;have f:∀ o,((W.setCell ⟨q,0,none⟩ (O (some ⟨g,0,none⟩) n n)).setCell ⟨q,1,none⟩ y).cell? ⟨b,o,none⟩=W.cell? ⟨b,o,none⟩:=fun o=>by
  rw [World.cell?_setCell_other _ _ _ _ (by intro e;injection e with e;exact hb e.symm),World.cell?_setCell_other _ _ _ _ (by intro e;injection e with e;exact hb e.symm)]
 refine ⟨by rw [f];exact k,by rw [f];exact i,fun e=>?_⟩;rw [World.cell?_setCell_other _ _ _ _ (by simp),World.cell?_setCell_same _ _ _ hq] at e;cases e
theorem MW {m:Int} {gs:List (Int × Int)} {bl:Lab} (h:Bb m gs bl=0):∃ n:Nat,m=n/\1<=n/\n<=6/\(Ax gs).map toI=gs/\(Ax gs).length<=20/\(∀ g∈Ax gs,g.1 < n/\g.2 < n)/\MU n bl/\AR m gs=0:=by
 unfold Bb at h;split at h
 ·rename_i b
  obtain ⟨n,e,p,l,k,i,f⟩:=Dr b;subst e;exact ⟨n,rfl,p,l,k,i,f,IV h,b⟩
 ·rename_i b
  exact absurd h b
theorem MT:QU:=by
 intro m v gs pr pw bl w hv hp hq;have HV:=Aa hv;have HP:=Aa hp;have HQ:=Aa hq;obtain ⟨va,vn,vc,rfl⟩:=CK hv;obtain ⟨pa,pn,pc,rfl⟩:=Az hp;obtain ⟨qa,qn,qc,rfl⟩:=Az hq;have s:Ov w (((w.alloc (ze #[zd U m,O va vn vc] 24)).alloc (ze #[O pa pn pc,O qa qn qc] 39)).alloc (ze #[O none 0 0,O none 0 0] 50)):=((bA w _).alloc (by simp) _).alloc (by simp;omega) _;have g:=M2 m (O va vn vc) gs (O pa pn pc) (O qa qn qc) bl _ (Af HV.o s) (Ak HP.o s) (Ak HQ.o s);have H:=fun h=>MW (m:=m) (gs:=gs) (bl:=bl) h;obtain ⟨r,hr⟩:=nm (Bb m gs bl);rw [<-hr] at g H ⊢;have HC:=Aa g;have ab:=Aa H;clear hv hp hq g H hr;go_enter Tryz.func23,Tryz.ntmps23;go_wp2_with fail;refine (HC.o).mono ?_;rintro e l ⟨rfl,B⟩;have u:=s.trans (B.mono (by simp <;> omega))
 have al:=B.size;simp at al;obtain ⟨J,hf⟩:=An B;have a0:l.cell? ⟨w.heap.size,0,none⟩=some (zd U m):=by rw [J _ _ (by simp <;> omega)];simp [go_sem]
 have a1:l.cell? ⟨w.heap.size,1,none⟩=some (O va vn vc):=by rw [J _ _ (by simp <;> omega)];simp [go_sem]
 have c0:l.cell? ⟨w.heap.size+1,0,none⟩=some (O pa pn pc):=by rw [J _ _ (by simp <;> omega)];simp [go_sem]
 have c1:l.cell? ⟨w.heap.size+1,1,none⟩=some (O qa qn qc):=by rw [J _ _ (by simp <;> omega)];simp [go_sem]
 have Z:l.cell? ⟨w.heap.size+1+1,0,none⟩=some (O none 0 0):=by rw [J _ _ (by simp <;> omega)];simp [go_sem]
 have e1:l.cell? ⟨w.heap.size+1+1,1,none⟩=some (O none 0 0):=by rw [J _ _ (by simp <;> omega)];simp [go_sem]
 have f0:l.frozen? ⟨w.heap.size+1+1,0,none⟩=false:=by rw [hf _ _ (by simp <;> omega)];simp [go_sem]
 have f1:l.frozen? ⟨w.heap.size+1+1,1,none⟩=false:=by rw [hf _ _ (by simp <;> omega)];simp [go_sem]
 clear J hf B s HC;by_cases hr0:r=0
 ·subst hr0
  obtain ⟨n,hm,h1,h6,I,E,P,N,T⟩:=ab.o (by first | rfl | trivial);subst hm;have F:=PA n h1 h6 (O va vn vc) (Ax gs) l (by rw [I];exact Af HV.o u) E P (by rw [I];exact T);have G:=Aa F;have ac:=Aa N;clear F N I E P T ab HV;go_wp2_with fail;refine (G.o).mono ?_;rintro e M ⟨ob,rfl,p,L⟩;obtain ⟨k,A⟩:=nm (M.alloc (ze #[O (some ⟨ob,0,none⟩) n n] 137));have t:Ov M k:=by rw [A];exact bA M _
  have f:Ov l k:=L.trans (t.mono L.size);have C:=u.trans (f.mono u.size);have bi:=f.size;have up:∀ b o v,l.cell? ⟨b,o,none⟩=some v->k.cell? ⟨b,o,none⟩=some v:=fun b o v h=>by rw [(An f).1 _ _ (bL h)];exact h
  have V:k.cell? ⟨M.heap.size,0,none⟩=some (O (some ⟨ob,0,none⟩) n n):=by rw [A];simp [go_sem]
  have KT:=Aa fun (W:World) (hB:Ov k W)=>Ju n h1 h6 M.heap.size (w.heap.size+1) ob (Ax gs) (O va vn vc) _ _ bl k V (up _ _ _ c0) (up _ _ _ c1) (EH p t) (Ak HP.o C) (Ak HQ.o C) ac.o W hB;have b0:=up _ _ _ a0;have b1:=up _ _ _ a1;have E0:=Aa (up _ _ _ Z);have E1:=Aa (up _ _ _ e1);have F0:Hx (k.frozen? ⟨w.heap.size+1+1,0,none⟩=false):=by rw [(An f).2 _ _ (bL Z)];exact f0
  have F1:Hx (k.frozen? ⟨w.heap.size+1+1,1,none⟩=false):=by rw [(An f).2 _ _ (bL Z)];exact f1
  have y:Hx (w.heap.size+1+1 < k.heap.size):=by show _ < _;omega
  have a4:Hx (w.heap.size≠w.heap.size+1+1):=by show _≠_;omega
  have aa:=Aa A;have ED:Hx (k.drew.cell? ⟨w.heap.size+1+1,0,none⟩=some (O none 0 0)):=E0.o;clear a0 a1 c0 c1 Z e1 f0 f1 V up p L t f A HP HQ ac G u;go_wp2_with fail;rw [<-aa.o];clear aa;first | go_region_held3 (fun W=>W.cell? ⟨w.heap.size,0,none⟩=some (zd U n)/\W.cell? ⟨w.heap.size,1,none⟩=some (O va vn vc)/\(W.cell? ⟨w.heap.size+1+1,0,none⟩=some (O none 0 0)->Ov k W)) (first | assumption | exact ⟨b0,b1,fun _=>below_drewN (Below.refl _ _) 1⟩ | exact Rz (by assumption) ep0 hbq | exact Rz (by assumption) ED.o hbp | exact Tx (by assumption) a4.o eq0 | fail) (first | (go_at_call 70;have a5:=ep0;refine (KT.o _ (S4 (by assumption) ep0)).2.mono ?_;rintro e wq ⟨g2,rfl,au,a7,aq,hbq⟩;have eq0:wq.cell? ⟨w.heap.size+1+1,0,none⟩=some (O none 0 0):=(by rw [(An hbq).1 _ _ (bL ep0)];exact ep0);have ax:wq.cell? ⟨w.heap.size+1+1,1,none⟩=some (O none 0 0):=(by rw [(An hbq).1 _ _ (bL ep0)];exact ep1);have bs:wq.frozen? ⟨w.heap.size+1+1,0,none⟩=false:=(by rw [(An hbq).2 _ _ (bL ep0)];exact fp0);have br:wq.frozen? ⟨w.heap.size+1+1,1,none⟩=false:=(by rw [(An hbq).2 _ _ (bL ep0)];exact fp1)) | (go_at_call 70;refine (KT.o _ (S4 (by assumption) ED.o)).1.mono ?_;rintro e wp ⟨g1,rfl,bm,Q,ar,hbp⟩;have ep0:wp.cell? ⟨w.heap.size+1+1,0,none⟩=some (O none 0 0):=(by rw [(An hbp).1 _ _ y.o];exact E0.o);have ep1:wp.cell? ⟨w.heap.size+1+1,1,none⟩=some (O none 0 0):=(by rw [(An hbp).1 _ _ y.o];exact E1.o);have fp0:wp.frozen? ⟨w.heap.size+1+1,0,none⟩=false:=(by rw [(An hbp).2 _ _ y.o];exact F0.o);have fp1:wp.frozen? ⟨w.heap.size+1+1,1,none⟩=false:=(by rw [(An hbp).2 _ _ y.o];exact F1.o))) | fail
  all_goals go_wp2_with fail
  all_goals
   refine bodyPost_ret (v:=zk #[zh #[O (some ⟨g1,0,none⟩) n n,O (some ⟨g2,0,none⟩) n n],zd U 0]) (by simp [results,Tryz.results23,go_sem,eq0,ax]) rfl ⟨_,rfl,Hz (w:=w) (wa:=k.drew) (q:=w.heap.size+1+1) (f1:=fun i=>Cy (Ax gs) n i bl.r) (f2:=fun i=>Cy (Ax gs) n i bl.w) C.size y.o ar Q hbp.size aq hbq au _ _,?_⟩;have S:Ov w k.drew:=below_drewN C 1;have R:=S.trans (hbp.mono S.size);have aw:=R.trans (hbq.mono R.size);exact (aw.setCell (by simp;omega) _).setCell (by simp;omega) _
 ·have bj:(r != 0)=true:=by simpa using hr0
  go_wp2_with fail;exact bodyPost_ret (v:=zk #[zh #[O none 0 0,O none 0 0],zd U r]) (by simp [results,Tryz.results23,go_sem,Z,e1]) rfl ⟨_,rfl,HU _ _,(u.setCell (by simp;omega) _).setCell (by simp;omega) _⟩
end Go.Proofs.YtfffpjkcfnekaaaGreat
namespace Go.Proofs.YtfffpjkcfnekaaaGreat.Ex
open Go.RowKit
open Go.Value renaming slice -> O, int -> zd, bool -> zg, agg -> zh, pointer -> zi, tuple -> zk
open Go.IntKind renaming i64 -> U
open Go.Obj renaming cells -> ze
open Go.Ending renaming returned -> zj
theorem Cb {w:World} {B B' e s:Nat} {v:Value} {n:Nat} {xs:List Value} (h:w.ownsRow B e s v n xs) (hb:B'<=B):w.ownsRow B' e s v n xs:=by
 obtain ⟨f,h | ⟨g,cap,b,l,k,i⟩⟩:=h
 ·exact ⟨f,Or.inl h⟩
 ·exact ⟨f,Or.inr ⟨g,cap,b,l,Nat.le_trans hb k,i⟩⟩
theorem AE {w:World} {B e s:Nat} {v:Value} {n:Nat} {xs:List Value} (h:w.ownsRow B e s v n xs):∃ a n c,v=O a n c:=by
 obtain ⟨l,⟨h,_⟩ | ⟨g,cap,f,b,k,i⟩⟩:=h
 ·exact ⟨_,_,_,h⟩
 ·exact ⟨_,_,_,b⟩
theorem PC (m:Int) (ga gn gc) (sa sn sc ya yn yc oa on oc va vn vc fa fn fc ba bn bc la ln lc ka kn kc gs) (lr lw kr kw:Value) (l k) (w:World) (hg:AA w (O ga gn gc) gs) (hl:A3 w (zh #[lr,lw]) l) (hk:A3 w (zh #[kr,kw]) k) (h2:Fj m gs l k=0) :
  Calls Tryz.prog 57 #[zh #[zd U m,O ga gn gc,O sa sn sc,O ya yn yc,O oa on oc,O va vn vc,O fa fn fc,O ba bn bc,O la ln lc,O ka kn kc],zh #[lr,lw],zh #[kr,kw]] w fun e w'=>e=zj (zg (Av l k m.toNat))/\Ov w w':=by
 have b:Ov w (((w.alloc (ze #[zd U m,O ga gn gc,O sa sn sc,O ya yn yc,O oa on oc,O va vn vc,O fa fn fc,O ba bn bc,O la ln lc,O ka kn kc] 108)).alloc (ze #[lr,lw] 50)).alloc (ze #[kr,kw] 50)):=((bA w _).alloc (by simp) _).alloc (by simp;omega) _;have K:=Aa (QF m (O ga gn gc) gs (zh #[lr,lw]) (zh #[kr,kw]) l k _ (Af hg b) (AK hl b) (AK hk b));rw [h2] at K;obtain ⟨F,n1,p,rfl⟩:∃ a n c,lr=O a n c:=by obtain ⟨x,y,e,⟨a,c,f,-⟩,-⟩:=hl;simp at e;obtain ⟨rfl,rfl⟩:=e;exact ⟨_,_,_,f⟩
 obtain ⟨E,t,i,rfl⟩:∃ a n c,lw=O a n c:=by obtain ⟨x,y,e,-,⟨a,c,f,-⟩⟩:=hl;simp at e;obtain ⟨rfl,rfl⟩:=e;exact ⟨_,_,_,f⟩
 obtain ⟨C,s,h,rfl⟩:∃ a n c,kr=O a n c:=by obtain ⟨x,y,e,⟨a,c,f,-⟩,-⟩:=hk;simp at e;obtain ⟨rfl,rfl⟩:=e;exact ⟨_,_,_,f⟩
 obtain ⟨B,q,g,rfl⟩:∃ a n c,kw=O a n c:=by obtain ⟨x,y,e,-,⟨a,c,f,-⟩⟩:=hk;simp at e;obtain ⟨rfl,rfl⟩:=e;exact ⟨_,_,_,f⟩
 obtain ⟨c0,c1⟩:=rc2 (SU w [zd U m,O ga gn gc,O sa sn sc,O ya yn yc,O oa on oc,O va vn vc,O fa fn fc,O ba bn bc,O la ln lc,O ka kn kc] 108 (ze #[O F n1 p,O E t i] 50) (ze #[O C s h,O B q g] 50));obtain ⟨J,I⟩:=rc2 (ST w (ze #[zd U m,O ga gn gc,O sa sn sc,O ya yn yc,O oa on oc,O va vn vc,O fa fn fc,O ba bn bc,O la ln lc,O ka kn kc] 108) [O F n1 p,O E t i] 50 (ze #[O C s h,O B q g] 50));obtain ⟨H,G⟩:=rc2 (Tl w (ze #[zd U m,O ga gn gc,O sa sn sc,O ya yn yc,O oa on oc,O va vn vc,O fa fn fc,O ba bn bc,O la ln lc,O ka kn kc] 108) (ze #[O F n1 p,O E t i] 50) [O C s h,O B q g] 50);clear hg hl hk h2;go_enter Tryz.func57,Tryz.ntmps57;go_wp2_with fail;refine (K.o).mono ?_;rintro e L ⟨rfl,u⟩;have A:=b.trans (u.mono (by simp <;> omega))
 clear K c0 c1 J I H G;go_wp2_with fail;exact bodyPost_ret (v:=zg (Av l k m.toNat)) (by simp [results,Tryz.results57,go_sem]) rfl ⟨rfl,A⟩
theorem MY (m:Int) (ga gn gc) (sa sn sc ya yn yc oa on oc va vn vc fa fn fc ba bn bc la ln lc ka kn kc gs) (lr lw kr kw:Value) (l k) (w:World) (hg:AA w (O ga gn gc) gs) (hl:A3 w (zh #[lr,lw]) l) (hk:A3 w (zh #[kr,kw]) k) (h2:Fj m gs l k=0) :
  Calls Tryz.prog 58 #[zh #[zd U m,O ga gn gc,O sa sn sc,O ya yn yc,O oa on oc,O va vn vc,O fa fn fc,O ba bn bc,O la ln lc,O ka kn kc],zh #[lr,lw],zh #[kr,kw]] w fun e w'=>∃ vj,e=zj vj/\A1 w w' vj (BA l k m.toNat)/\Ov w w':=by
 have b:Ov w ((((w.alloc (ze #[zd U m,O ga gn gc,O sa sn sc,O ya yn yc,O oa on oc,O va vn vc,O fa fn fc,O ba bn bc,O la ln lc,O ka kn kc] 108)).alloc (ze #[lr,lw] 50)).alloc (ze #[kr,kw] 50)).alloc (ze #[O none 0 0,O none 0 0] 50)):=(((bA w _).alloc (by simp) _).alloc (by simp;omega) _).alloc (by simp;omega) _;have K:=Aa (Sz m (O ga gn gc) gs (zh #[lr,lw]) (zh #[kr,kw]) l k _ (Af hg b) (AK hl b) (AK hk b));rw [h2] at K;obtain ⟨a1,n1,F,rfl⟩:∃ a n c,lr=O a n c:=by obtain ⟨x,y,e,⟨a,c,A,-⟩,-⟩:=hl;simp at e;obtain ⟨rfl,rfl⟩:=e;exact ⟨_,_,_,A⟩
 obtain ⟨Z,S,E,rfl⟩:∃ a n c,lw=O a n c:=by obtain ⟨x,y,e,-,⟨a,c,A,-⟩⟩:=hl;simp at e;obtain ⟨rfl,rfl⟩:=e;exact ⟨_,_,_,A⟩
 obtain ⟨W,R,C,rfl⟩:∃ a n c,kr=O a n c:=by obtain ⟨x,y,e,⟨a,c,A,-⟩,-⟩:=hk;simp at e;obtain ⟨rfl,rfl⟩:=e;exact ⟨_,_,_,A⟩
 obtain ⟨V,Q,B,rfl⟩:∃ a n c,kw=O a n c:=by obtain ⟨x,y,e,-,⟨a,c,A,-⟩⟩:=hk;simp at e;obtain ⟨rfl,rfl⟩:=e;exact ⟨_,_,_,A⟩
 obtain ⟨c0,c1⟩:=rc2 (SU w [zd U m,O ga gn gc,O sa sn sc,O ya yn yc,O oa on oc,O va vn vc,O fa fn fc,O ba bn bc,O la ln lc,O ka kn kc] 108 (ze #[O a1 n1 F,O Z S E] 50) (ze #[O W R C,O V Q B] 50));obtain ⟨d0,d1⟩:=rc2 (ST w (ze #[zd U m,O ga gn gc,O sa sn sc,O ya yn yc,O oa on oc,O va vn vc,O fa fn fc,O ba bn bc,O la ln lc,O ka kn kc] 108) [O a1 n1 F,O Z S E] 50 (ze #[O W R C,O V Q B] 50));obtain ⟨e0,e1⟩:=rc2 (Tl w (ze #[zd U m,O ga gn gc,O sa sn sc,O ya yn yc,O oa on oc,O va vn vc,O fa fn fc,O ba bn bc,O la ln lc,O ka kn kc] 108) (ze #[O a1 n1 F,O Z S E] 50) [O W R C,O V Q B] 50);clear hg hl hk h2;go_enter Tryz.func58,Tryz.ntmps58;go_wp2_with fail;refine (K.o).mono ?_;rintro e i ⟨vj,rfl,hf,h⟩;rw [if_pos trivial] at hf;have u:=b.trans (h.mono (by simp <;> omega))
 obtain ⟨vr,vw,rfl,hr,hw,P⟩:=hf;have q:=Cb (B':=w.heap.size+1+1+1+1) hr (by simp);have p:=Cb (B':=w.heap.size+1+1+1+1) hw (by simp);obtain ⟨M,J,H,rfl⟩:=AE q;obtain ⟨L,I,G,rfl⟩:=AE p;have g:Ov i (i.alloc (ze #[O M J H,O L I G] 50)):=bA i _;have N:w.heap.size+1+1+1 < i.heap.size:=by have:=h.size;simp at this;omega
 obtain ⟨T,s⟩:=An h;obtain ⟨t,f⟩:=An g;have x0:(i.alloc (ze #[O M J H,O L I G] 50)).cell? ⟨w.heap.size+1+1+1,0,none⟩=some (O none 0 0):=by rw [t _ _ (by first | omega | (simp <;> omega)),T _ _ (by first | omega | (simp <;> omega))];simp [go_sem]
 have x1:(i.alloc (ze #[O M J H,O L I G] 50)).cell? ⟨w.heap.size+1+1+1,1,none⟩=some (O none 0 0):=by rw [t _ _ (by first | omega | (simp <;> omega)),T _ _ (by first | omega | (simp <;> omega))];simp [go_sem]
 have f0:(i.alloc (ze #[O M J H,O L I G] 50)).frozen? ⟨w.heap.size+1+1+1,0,none⟩=false:=by rw [f _ _ (by first | omega | (simp <;> omega)),s _ _ (by first | omega | (simp <;> omega))];simp [go_sem]
 have f1:(i.alloc (ze #[O M J H,O L I G] 50)).frozen? ⟨w.heap.size+1+1+1,1,none⟩=false:=by rw [f _ _ (by first | omega | (simp <;> omega)),s _ _ (by first | omega | (simp <;> omega))];simp [go_sem]
 have HR:=Aa (Bp q g);have HW:=Aa (Bp p g);have HB:=Aa (u.trans (g.mono u.size));have ab:=Aa P;have ak:=Aa N;clear K c0 c1 d0 d1 e0 e1 hr hw q p P T s t f h u b N g;go_wp2_with fail;exact bodyPost_ret (v:=zh #[O M J H,O L I G]) (by simp [results,Tryz.results58,go_sem,x0,x1]) rfl ⟨_,rfl,⟨_,_,rfl,Cb (AZ (AZ HR.o (by simp) _) (by simp) _) (by omega),Cb (AZ (AZ HW.o (by simp) _) (by simp) _) (by omega),ab.o⟩,(HB.o.setCell (by simp;omega) _).setCell (by simp;omega) _⟩
theorem LN (m:Int) (ga gn gc) (sa sn sc ya yn yc oa on oc va vn vc fa fn fc ba bn bc la ln lc ka kn kc gs) (pr pw:Value) (bl:Lab) (w:World) (hg:AA w (O ga gn gc) gs) (hl:AL w pr bl.r) (hk:AL w pw bl.w) (h2:Bb m gs bl=0) :
  Calls Tryz.prog 114 #[zh #[zd U m,O ga gn gc,O sa sn sc,O ya yn yc,O oa on oc,O va vn vc,O fa fn fc,O ba bn bc,O la ln lc,O ka kn kc],zh #[pr,pw]] w fun e w'=>∃ vj,e=zj vj/\A1 w w' vj (Ar (Ax gs) m.toNat bl)/\Ov w w':=by
 obtain ⟨I,n1,z1,rfl⟩:=Az hl;obtain ⟨H,G,z2,rfl⟩:=Az hk;have b:Ov w (((w.alloc (ze #[zd U m,O ga gn gc,O sa sn sc,O ya yn yc,O oa on oc,O va vn vc,O fa fn fc,O ba bn bc,O la ln lc,O ka kn kc] 108)).alloc (ze #[O I n1 z1,O H G z2] 39)).alloc (ze #[O none 0 0,O none 0 0] 50)):=((bA w _).alloc (by simp) _).alloc (by simp;omega) _;have K:=Aa (MT m (O ga gn gc) gs (O I n1 z1) (O H G z2) bl _ (Af hg b) (Ak hl b) (Ak hk b));rw [h2] at K;obtain ⟨c0,c1⟩:=rc2 (SU w [zd U m,O ga gn gc,O sa sn sc,O ya yn yc,O oa on oc,O va vn vc,O fa fn fc,O ba bn bc,O la ln lc,O ka kn kc] 108 (ze #[O I n1 z1,O H G z2] 39) (ze #[O none 0 0,O none 0 0] 50));obtain ⟨Q,P⟩:=rc2 (ST w (ze #[zd U m,O ga gn gc,O sa sn sc,O ya yn yc,O oa on oc,O va vn vc,O fa fn fc,O ba bn bc,O la ln lc,O ka kn kc] 108) [O I n1 z1,O H G z2] 39 (ze #[O none 0 0,O none 0 0] 50));clear hg hl hk h2;go_enter Tryz.func114,Tryz.ntmps114;go_wp2_with fail;refine (K.o).mono ?_;rintro e i ⟨vj,rfl,N,h⟩;rw [if_pos trivial] at N;have s:=b.trans (h.mono (by simp <;> omega))
 obtain ⟨Z,W,rfl,M,hw,F⟩:=N;have l:=Cb (B':=w.heap.size+1+1+1) M (by simp);have k:=Cb (B':=w.heap.size+1+1+1) hw (by simp);obtain ⟨C,A,u,rfl⟩:=AE l;obtain ⟨B,y,t,rfl⟩:=AE k;have g:Ov i (i.alloc (ze #[O C A u,O B y t] 50)):=bA i _;have E:w.heap.size+1+1 < i.heap.size:=by have:=h.size;simp at this;omega
 obtain ⟨J,p⟩:=An h;obtain ⟨q,f⟩:=An g;have x0:(i.alloc (ze #[O C A u,O B y t] 50)).cell? ⟨w.heap.size+1+1,0,none⟩=some (O none 0 0):=by rw [q _ _ (by first | omega | (simp <;> omega)),J _ _ (by first | omega | (simp <;> omega))];simp [go_sem]
 have x1:(i.alloc (ze #[O C A u,O B y t] 50)).cell? ⟨w.heap.size+1+1,1,none⟩=some (O none 0 0):=by rw [q _ _ (by first | omega | (simp <;> omega)),J _ _ (by first | omega | (simp <;> omega))];simp [go_sem]
 have f0:(i.alloc (ze #[O C A u,O B y t] 50)).frozen? ⟨w.heap.size+1+1,0,none⟩=false:=by rw [f _ _ (by first | omega | (simp <;> omega)),p _ _ (by first | omega | (simp <;> omega))];simp [go_sem]
 have f1:(i.alloc (ze #[O C A u,O B y t] 50)).frozen? ⟨w.heap.size+1+1,1,none⟩=false:=by rw [f _ _ (by first | omega | (simp <;> omega)),p _ _ (by first | omega | (simp <;> omega))];simp [go_sem]
 have S:=Aa (Bp l g);have R:=Aa (Bp k g);have V:=Aa (s.trans (g.mono s.size));have L:=Aa F;have T:=Aa E;clear K c0 c1 Q P M hw l k F J p q f h s b E g;go_wp2_with fail;exact bodyPost_ret (v:=zh #[O C A u,O B y t]) (by simp [results,Tryz.results114,go_sem,x0,x1]) rfl ⟨_,rfl,⟨_,_,rfl,Cb (AZ (AZ S.o (by simp) _) (by simp) _) (by omega),Cb (AZ (AZ R.o (by simp) _) (by simp) _) (by omega),L.o⟩,(V.o.setCell (by simp;omega) _).setCell (by simp;omega) _⟩
end Go.Proofs.YtfffpjkcfnekaaaGreat.Ex
namespace Go.Proofs.YtfffpjkcfnekaaaGreat.Ex
def A7 (n:Nat):Lev:=⟨List.replicate n true,List.replicate n false⟩
def AG:Nat->D->List Int
 | 0,_=>[]
 | k+1,d=>if AQ d=2 then [Bk d] else (A4 d).flatMap (AG k)
def A6 (n:Nat) (L:List Lev) (l:Lev) (vs:List Int):Lev:=vs.foldl (fun l v=>BA l (L.getD v.toNat Ah) n) l
section walk
variable {σ:Type} (n K:Nat) (lev:σ->List Lev) (step:Int->D->Lev->σ->σ)
def GC (cnt:D->Nat) (cnt1:List D->Nat) (rec:List D->Int->Lev->σ->σ) (p:Lev) (q:Int × σ) (d:D):Int × σ:=
 (q.1+(cnt d:Int),rec (Ao d) (q.1+1+(cnt1 (Aj d):Int)) (A6 n (lev (step q.1 d p q.2)) p (AG K (Am d)))
  (rec (Aj d) (q.1+1) (A6 n (lev (step q.1 d p q.2)) p (AG K (Am d))) (step q.1 d p q.2)))
def goS:Nat->List D->Int->Lev->σ->σ
 | 0,_,_,_,st=>st
 | k+1,l,a,p,st=>(l.foldl (GC n K lev step (CY (k+1)) (AI k) (goS k) p) (a,st)).2
def goF (flev:σ->List Lev) (kf:Nat) (q:Int × σ) (x:Nat × FnD):Int × σ:=
 (q.1+(AI kf x.2.body:Int),goS n K lev step kf x.2.body q.1 ((flev q.2).getD x.1 Ah) q.2)
def D6 (flev:σ->List Lev) (kf:Nat) (fs:List FnD) (main:List D) (st:σ):σ:=
 let q:=((List.range fs.length).zip fs).foldl (goF n K lev step flev kf) (0,st)
 goS n K lev step kf main q.1 (A7 n) q.2
theorem Ky {R:σ->σ->Prop} (hr:∀ st,R st st) (ht:∀ {a b c},R a b->R b c->R a c) (hs:∀ a d p st,R st (step a d p st)) :
  ∀ (k:Nat) (l:List D) (a:Int) (p:Lev) (st:σ),R st (goS n K lev step k l a p st):=by
 intro k
 induction k with
 | zero=>intro l a p st;exact hr st
 | succ k ih=>
  intro l;unfold goS
  induction l with
  | nil=>intro a p st;exact hr st
  | cons d l ihl=>
   intro a p st;rw [List.foldl_cons];refine ht ?_ (ihl _ p _);exact ht (hs _ _ _ _) (ht (ih _ _ _ _) (ih _ _ _ _))
theorem L6 {R:σ->σ->Prop} (hr:∀ st,R st st) (ht:∀ {a b c},R a b->R b c->R a c) (hs:∀ a d p st,R st (step a d p st)) (flev:σ->List Lev) (kf:Nat) (fs main) (st:σ) :
  R st (D6 n K lev step flev kf fs main st):=by
 unfold D6;have h:∀ (xs:List (Nat × FnD)) (q:Int × σ),R q.2 (xs.foldl (goF n K lev step flev kf) q).2:=by
  intro xs
  induction xs with
  | nil=>intro q;exact hr _
  | cons x xs ih=>
   intro q;rw [List.foldl_cons];exact ht (Ky n K lev step hr ht hs _ _ _ _ _) (ih (goF n K lev step flev kf q x))
 exact ht (h _ (0,st)) (Ky n K lev step hr ht hs _ _ _ _ _)
theorem I2 {P:Nat->D->Prop} {P1:D->Prop} (hP:∀ k d,P (k+1) d->P1 d/\(∀ s∈Aj d,P k s)/\∀ s∈Ao d,P k s) {R:σ->σ->Prop} (hr:∀ st,R st st) (ht:∀ {a b c},R a b->R b c->R a c) (hs:∀ a d p st,P1 d->R st (step a d p st)) :
  ∀ (k:Nat) (l:List D) (a:Int) (p:Lev) (st:σ),(∀ s∈l,P k s)->R st (goS n K lev step k l a p st):=by
 intro k
 induction k with
 | zero=>intro l a p st _;exact hr st
 | succ k ih=>
  intro l;unfold goS
  induction l with
  | nil=>intro a p st _;exact hr st
  | cons d l ihl=>
   intro a p st hl;obtain ⟨g,f,e⟩:=hP k d (hl d (by simp));rw [List.foldl_cons];refine ht ?_ (ihl _ p _ fun s hs=>hl s (by simp [hs]));exact ht (hs _ _ _ _ g) (ht (ih _ _ _ _ f) (ih _ _ _ _ e))
theorem Kz {P Pm:Nat->D->Prop} {P1:D->Prop} (hPm:∀ k d,Pm (k+1) d->P1 d/\(∀ s∈Aj d,Pm k s)/\∀ s∈Ao d,Pm k s) {Q:Nat->Nat->D->Prop} (hQ:∀ i k d,Q i (k+1) d->P1 d/\(∀ s∈Aj d,Q i k s)/\∀ s∈Ao d,Q i k s)
  {R:σ->σ->Prop} (hr:∀ st,R st st) (ht:∀ {a b c},R a b->R b c->R a c) (hs:∀ a d p st,P1 d->R st (step a d p st)) (flev:σ->List Lev) (kf:Nat) (fs:List FnD) (main:List D) (st:σ) (hf:∀ i (h:i < fs.length),∀ s∈fs[i].body,Q i kf s) (hm:∀ s∈main,Pm kf s) :
  R st (D6 n K lev step flev kf fs main st):=by
 unfold D6;have h:∀ (xs:List (Nat × FnD)) (q:Int × σ),(∀ x∈xs,∀ s∈x.2.body,Q x.1 kf s)->R q.2 (xs.foldl (goF n K lev step flev kf) q).2:=by
  intro xs
  induction xs with
  | nil=>intro q _;exact hr _
  | cons x xs ih=>
   intro q e;rw [List.foldl_cons];exact ht (I2 n K lev step (hQ x.1) hr ht hs _ _ _ _ _ (e x (by simp))) (ih (goF n K lev step flev kf q x) fun y f=>e y (by simp [f]))
 refine ht (h _ (0,st) fun x e=>?_) (I2 n K lev step hPm hr ht hs _ _ _ _ _ hm);obtain ⟨i,hi,rfl⟩:=List.getElem_of_mem e;simp at hi;simp only [List.getElem_zip,List.getElem_range];exact hf i hi
end walk
theorem DM (f:Nat->Bool) {n i:Nat} (h:i < n):(BI f n)[i]?.getD false=f i:=by simp [BI,h]
theorem ER (l) (n:Nat):Av l l n=true:=BL.2 fun _ _=>⟨id,id⟩
theorem K8 {l k q:Lev} {n:Nat} (h:Av l k n=true) (h2:Av k q n=true):Av l q n=true:=
 BL.2 fun i hi=>⟨fun h3=>(BL.1 h i hi).1 ((BL.1 h2 i hi).1 h3),fun h3=>(BL.1 h2 i hi).2 ((BL.1 h i hi).2 h3)⟩
theorem PD (l k) (n:Nat):Av l (BA l k n) n=true:=BL.2 fun i hi=>by
 simp only [BA,DM _ hi,GF,LH];cases l.r[i]?.getD false <;> cases k.r[i]?.getD false <;> cases l.w[i]?.getD false <;> cases k.w[i]?.getD false <;> simp
theorem GV {n:Nat} {L:List Lev}:∀ (vs:List Int) (l:Lev),l.len n->(A6 n L l vs).len n
 | [],_,h=>h
 | v::vs,l,_=>GV vs _ ⟨AH _ _,AH _ _⟩
section ask
variable {σ:Type} (n K:Nat) (lev:σ->List Lev) (known:List Bool) (ins:List Lev) (fs:List FnD) (flow:Lev->Bool × Nat->σ->σ)
def toVar (l:Lev) (v:Int) (st:σ):σ:=if known.getD v.toNat false=true then st else flow l (true,v.toNat) st
def Gf (p:Lev) (st:σ) (q:Int × D):σ:=toVar known flow (A6 n (lev st) p (AG K q.2)) q.1 st
def GT (d:D) (p:Lev) (st:σ):σ:=
 let st1:=((BV fs (Ae d)).ps.zip (Ai d)).foldl (Gf n K lev known flow p) st
 flow p (false,(Ae d).toNat) (toVar known flow (A6 n (lev st1) p (AG K (BV fs (Ae d)).res)) (Ap d) st1)
def Dy (a:Int) (d:D) (p:Lev) (st:σ):σ:=
 if Ag d=1 then toVar known flow (A6 n (lev st) p (AG K (Am d))) (Ap d) st
 else if Ag d=2 then GT n K lev known fs flow d p st
 else if Ag d=3 then toVar known flow (BA p (ins.getD (Ae d).toNat Ah) n) (Ap d) st
 else if Ag d=5 then toVar known flow ⟨p.r,(A6 n (lev st) p (AG K (Am d))).w⟩ (Ap d) st
 else if Ag d=6 then toVar known flow ⟨(A6 n (lev st) p (AG K (Am d))).r,p.w⟩ (Ap d) st
 else st
theorem N0 {R:σ->σ->Prop} (hr:∀ st,R st st) (ht:∀ {a b c},R a b->R b c->R a c) (hv:∀ l i st,known.getD i false=false->R st (flow l (true,i) st)) (hw:∀ l i st,R st (flow l (false,i) st)) (a:Int) (d p) (st:σ):R st (Dy n K lev known ins fs flow a d p st):=by
 have e:∀ l v st,R st (toVar known flow l v st):=by
  intro l v st;unfold toVar;split
  ·exact hr st
  ·rename_i h;exact hv _ _ _ (by simpa using h)
 have f:∀ (xs:List (Int × D)) st,R st (xs.foldl (Gf n K lev known flow p) st):=by
  intro xs
  induction xs with
  | nil=>intro st;exact hr st
  | cons x xs ih=>intro st;rw [List.foldl_cons];exact ht (e _ _ _) (ih _)
 unfold Dy
 repeat' split
 all_goals first | exact e _ _ _ | exact hr _ | skip
 unfold GT;exact ht (f _ _) (ht (e _ _ _) (hw _ _ _))
end ask
structure ISt where
 vs:List Lev
 fs:List Lev
 more:Bool
def ISt.at (st:ISt) (i:Bool × Nat):Lev:=if i.1=true then st.vs.getD i.2 Ah else st.fs.getD i.2 Ah
def ISt.up (st:ISt) (i:Bool × Nat) (l:Lev):ISt:=if i.1=true then ⟨st.vs.set i.2 l,st.fs,true⟩ else ⟨st.vs,st.fs.set i.2 l,true⟩
def C4 (n:Nat) (l:Lev) (i:Bool × Nat) (st:ISt):ISt:=if Av l (st.at i) n=true then st else st.up i (BA (st.at i) l n)
def Hc (n K kf:Nat) (known:List Bool) (ins:List Lev) (fs:List FnD) (main:List D) (st:ISt):ISt:=
 D6 n K ISt.vs (Dy n K ISt.vs known ins fs (C4 n)) ISt.fs kf fs main st
theorem C9 {l:List Lev} {i j:Nat} {x:Lev}:(l.set i x).getD j Ah=if i=j/\j < l.length then x else l.getD j Ah:=by
 simp only [List.getD_eq_getElem?_getD,List.getElem?_set];by_cases h:i=j
 ·subst h
  by_cases h2:i < l.length
  ·simp [h2]
  ·simp [h2]
 ·simp [h]
def LeI (n:Nat) (a b:ISt):Prop:=(∀ i,Av (a.vs.getD i Ah) (b.vs.getD i Ah) n=true)/\∀ i,Av (a.fs.getD i Ah) (b.fs.getD i Ah) n=true
def H7 (n:Nat) (l:Lev):Nat:=((List.range n).map fun i=>(if l.r[i]?.getD false=true then 1 else 0)+(if l.w[i]?.getD false=true then 0 else 1)).sum
def DH (n:Nat) (st:ISt):Nat:=(st.vs.map (H7 n)).sum+(st.fs.map (H7 n)).sum
theorem OM {f g:Nat->Nat}:∀ {n:Nat},(∀ i,i < n->f i<=g i)->((List.range n).map f).sum<=((List.range n).map g).sum
 | 0,_=>by simp
 | n+1,h=>by
  rw [List.range_succ,List.map_append,List.map_append,List.sum_append,List.sum_append];have:=OM (n:=n) fun i hi=>h i (by omega);have:=h n (by omega);simp;omega
theorem OL {f g:Nat->Nat}:∀ {n:Nat},(∀ i,i < n->f i<=g i)->(∃ i,i < n/\f i < g i)->((List.range n).map f).sum < ((List.range n).map g).sum
 | 0,_,⟨i,h,_⟩=>by omega
 | n+1,h,⟨i,hi,hlt⟩=>by
  rw [List.range_succ,List.map_append,List.map_append,List.sum_append,List.sum_append];by_cases hn:i=n
  ·subst hn
   have:=OM (n:=i) fun j hj=>h j (by omega);simp;omega
  ·have:=OL (n:=n) (fun j hj=>h j (by omega)) ⟨i,by omega,hlt⟩
   have:=h n (by omega);simp;omega
theorem I6 {n:Nat} {x l:Lev} (h:¬ Av l x n=true):H7 n (BA x l n) < H7 n x:=by
 have f:∃ i,i < n/\¬ ((x.r[i]?.getD false=true->l.r[i]?.getD false=true)/\(l.w[i]?.getD false=true->x.w[i]?.getD false=true)):=by
  refine Classical.byContradiction fun b=>h (BL.2 fun i hi=>Classical.byContradiction fun e=>b ⟨i,hi,e⟩)
 obtain ⟨i,hi,e⟩:=f;unfold H7;refine OL (fun j g=>?_) ⟨i,hi,?_⟩
 ·simp only [BA,DM _ g,GF,LH]
  cases l.r[j]?.getD false <;> cases x.r[j]?.getD false <;> cases l.w[j]?.getD false <;> cases x.w[j]?.getD false <;> simp
 ·simp only [BA,DM _ hi,GF,LH]
  revert e;cases l.r[i]?.getD false <;> cases x.r[i]?.getD false <;> cases l.w[i]?.getD false <;> cases x.w[i]?.getD false <;> simp
theorem Jg {f:Lev->Nat} {y:Lev}:∀ {l:List Lev} {i:Nat},i < l.length->f y < f (l.getD i Ah)->((l.set i y).map f).sum < (l.map f).sum
 | [],i,h,_=>by simp at h
 | x::l,0,_,h=>by simp at h ⊢;omega
 | x::l,i+1,hi,h=>by
  have:=Jg (l:=l) (i:=i) (by simpa using hi) (by simpa using h);simp only [List.set_cons_succ,List.map_cons,List.sum_cons];omega
structure Fo (n nv nf:Nat) (known:List Bool) (L:List Lev) (st:ISt):Prop where
 lv:st.vs.length=nv
 lf:st.fs.length=nf
 rv:∀ l∈st.vs,l.len n
 rf:∀ l∈st.fs,l.len n
 kn:∀ i,known.getD i false=true->st.vs.getD i Ah=L.getD i Ah
theorem DU (l k) (n:Nat):(BA l k n).len n:=⟨AH _ _,AH _ _⟩
def Ds (n nv nf:Nat) (known:List Bool) (L:List Lev) (a b:ISt):Prop:=
 (Fo n nv nf known L a->Fo n nv nf known L b)/\LeI n a b
theorem Ds.refl (n nv nf:Nat) (known:List Bool) (L) (a:ISt):Ds n nv nf known L a a:=⟨id,fun _=>ER _ _,fun _=>ER _ _⟩
theorem Ds.trans {n nv nf:Nat} {known:List Bool} {L:List Lev} {a b c:ISt} (h:Ds n nv nf known L a b) (k:Ds n nv nf known L b c):Ds n nv nf known L a c:=
 ⟨fun x=>k.1 (h.1 x),fun i=>K8 (h.2.1 i) (k.2.1 i),fun i=>K8 (h.2.2 i) (k.2.2 i)⟩
theorem Gx {l:List Lev} {i:Nat} {x y:Lev} (h:y∈l.set i x):y=x\/y∈l:=by
 rcases List.mem_or_eq_of_mem_set h with h | h
 ·exact Or.inr h
 ·exact Or.inl h
theorem HY (n nv nf:Nat) (known:List Bool) (L l) (i:Bool × Nat) (st:ISt) (hk:i.1=true->known.getD i.2 false=false):Ds n nv nf known L st (C4 n l i st):=by
 unfold C4;split
 ·exact Ds.refl ..
 ·obtain ⟨b,j⟩:=i
  cases b with
  | true=>
   have hk:=hk rfl;simp only [ISt.up,ISt.at,if_true];refine ⟨fun h=>⟨by simpa using h.lv,h.lf,fun x hx=>?_,h.rf,fun m e=>?_⟩,fun m=>?_,fun m=>ER _ _⟩
   ·rcases Gx hx with rfl | hx
    ·exact DU _ _ _
    ·exact h.rv x hx
   ·dsimp only
    rw [C9,if_neg,h.kn m e];rintro ⟨rfl,-⟩;dsimp only at hk;rw [hk] at e;cases e
   ·dsimp only
    rw [C9];split
    ·rename_i h;rw [<-h.1];exact PD _ _ _
    ·exact ER _ _
  | false=>
   simp only [ISt.up,ISt.at,Bool.false_eq_true,if_false];refine ⟨fun h=>⟨h.lv,by simpa using h.lf,h.rv,fun x hx=>?_,h.kn⟩,fun m=>ER _ _,fun m=>?_⟩
   ·rcases Gx hx with rfl | hx
    ·exact DU _ _ _
    ·exact h.rf x hx
   ·dsimp only
    rw [C9];split
    ·rename_i h;rw [<-h.1];exact PD _ _ _
    ·exact ER _ _
theorem Nm (n nv nf K kf:Nat) (known:List Bool) (L ins fs main) (st:ISt):Ds n nv nf known L st (Hc n K kf known ins fs main st):=
 L6 n K ISt.vs _ (R:=Ds n nv nf known L) (Ds.refl n nv nf known L) Ds.trans (fun a d p st=>N0 n K ISt.vs known ins fs (C4 n) (R:=Ds n nv nf known L) (Ds.refl n nv nf known L) Ds.trans (fun l i st hk=>HY n nv nf known L l (true,i) st fun _=>hk) (fun l i st=>HY n nv nf known L l (false,i) st fun h=>by cases h) a d p st) ISt.fs kf fs main st
theorem NX (n:Nat) (l) (i:Bool × Nat) (st:ISt) (hi:i.1=true->i.2 < st.vs.length) (hi2:i.1=false->i.2 < st.fs.length):C4 n l i st=st\/(DH n (C4 n l i st) < DH n st/\(C4 n l i st).vs.length=st.vs.length/\(C4 n l i st).fs.length=st.fs.length):=by
 unfold C4;split
 ·exact Or.inl rfl
 ·rename_i h
  obtain ⟨b,j⟩:=i
  cases b with
  | true=>
   simp only [ISt.up,ISt.at,if_true] at h ⊢;refine Or.inr ⟨?_,by simp,by simp⟩;have:=Jg (f:=H7 n) (l:=st.vs) (i:=j) (hi rfl) (I6 h);unfold DH;dsimp only;omega
  | false=>
   simp only [ISt.up,ISt.at,Bool.false_eq_true,if_false] at h ⊢;refine Or.inr ⟨?_,by simp,by simp⟩;have:=Jg (f:=H7 n) (l:=st.fs) (i:=j) (hi2 rfl) (I6 h);unfold DH;dsimp only;omega
def inR (nv nf:Nat) (fs:List FnD) (d:D):Prop:=
 ((Ag d=1\/Ag d=2\/Ag d=3\/Ag d=5\/Ag d=6)->(Ap d).toNat < nv)/\(Ag d=2->(Ae d).toNat < nf/\∀ v∈(BV fs (Ae d)).ps,v.toNat < nv)
def CV (n nv nf:Nat) (a b:ISt):Prop:=(a.vs.length=nv/\a.fs.length=nf)->(b.vs.length=nv/\b.fs.length=nf)/\DH n b<=DH n a/\(b.more=true->a.more=true\/DH n b < DH n a)
theorem CV.refl (n nv nf:Nat) (a:ISt):CV n nv nf a a:=fun h=>⟨h,Nat.le_refl _,Or.inl⟩
theorem CV.trans {n nv nf:Nat} {a b c:ISt} (h:CV n nv nf a b) (k:CV n nv nf b c):CV n nv nf a c:=fun ha=>by
 obtain ⟨h1,h2,h3⟩:=h ha;obtain ⟨k1,k2,k3⟩:=k h1;refine ⟨k1,Nat.le_trans k2 h2,fun hc=>?_⟩;rcases k3 hc with hb | hb
 ·rcases h3 hb with h | h
  ·exact Or.inl h
  ·exact Or.inr (by omega)
 ·exact Or.inr (by omega)
theorem H6 (n nv nf:Nat) (l) (i:Bool × Nat) (st:ISt) (hi:i.1=true->i.2 < nv) (hi2:i.1=false->i.2 < nf):CV n nv nf st (C4 n l i st):=fun h=>by
 rcases NX n l i st (by rw [h.1];exact hi) (by rw [h.2];exact hi2) with e | ⟨h1,h2,h3⟩
 ·rw [e];exact ⟨h,Nat.le_refl _,Or.inl⟩
 ·exact ⟨⟨h2.trans h.1,h3.trans h.2⟩,by omega,fun _=>Or.inr h1⟩
theorem PI (n nv nf K:Nat) (known:List Bool) (ins fs) (a:Int) (d p) (st:ISt) (hd:inR nv nf fs d):CV n nv nf st (Dy n K ISt.vs known ins fs (C4 n) a d p st):=by
 have e:∀ l (v:Int) st,v.toNat < nv->CV n nv nf st (toVar known (C4 n) l v st):=by
  intro l v st i;unfold toVar;split
  ·exact CV.refl n nv nf _
  ·exact H6 n nv nf _ _ _ (fun _=>i) (fun h=>by cases h)
 have k:∀ (xs:List (Int × D)) st,(∀ x∈xs,x.1.toNat < nv)->CV n nv nf st (xs.foldl (Gf n K ISt.vs known (C4 n) p) st):=by
  intro xs
  induction xs with
  | nil=>intro st _;exact CV.refl n nv nf _
  | cons x xs ih=>intro st f;rw [List.foldl_cons];exact (e _ _ _ (f x (by simp))).trans (ih _ fun y g=>f y (by simp [g]))
 unfold Dy;split
 ·rename_i hk;exact e _ _ _ (hd.1 (by omega))
 split
 ·rename_i hk
  unfold GT;refine (k _ _ fun x f=>?_).trans ((e _ _ _ (hd.1 (by omega))).trans (H6 n nv nf _ _ _ (fun h=>by cases h) (fun _=>(hd.2 hk).1)));exact (hd.2 hk).2 _ (List.of_mem_zip (a:=x.1) (b:=x.2) f).1
 split
 ·rename_i hk;exact e _ _ _ (hd.1 (by omega))
 split
 ·rename_i hk;exact e _ _ _ (hd.1 (by omega))
 split
 ·rename_i hk;exact e _ _ _ (hd.1 (by omega))
 ·exact CV.refl n nv nf _
end Go.Proofs.YtfffpjkcfnekaaaGreat.Ex
namespace Go.Proofs.YtfffpjkcfnekaaaGreat.Ex
open Go.RowKit Go.Shelf
open Go.Value renaming slice -> O, int -> zd, bool -> zg, agg -> zh, pointer -> zi, tuple -> zk
open Go.IntKind renaming i64 -> U
open Go.Obj renaming cells -> ze
open Go.Ending renaming returned -> zj
attribute [local go_sem] Oper.semAt_some
theorem Sj {F:Fence} (hd:F.depth=none) (k:Nat):F.room k:=fun d h=>by rw [hd] at h;cases h
theorem PO {F:Fence} (hd:F.depth=none) {m m':Nat} {P:Program} {l:Nat} {f:FuncId} {tmps:Array Value} {assign body:Code} {w:World} {R:Ending->World->Prop}
  (h:RoundIn F m P l f tmps assign body w R):RoundIn F m' P l f tmps assign body w R:=⟨h.1,fun c cs _=>h.2 c cs (Sj hd _)⟩
theorem PN {F:Fence} (hd:F.depth=none) {m:Nat} (m':Nat) {P:Program} {l:Nat} {args:Array Value} {W:World} {R:Ending->World->Prop} (h:YieldAt F m P l args W R):YieldAt F m' P l args W R:=by
 obtain ⟨fn,e,b,body,f,g⟩:=h;exact ⟨fn,e,b,body,f,PO hd g⟩
abbrev EW (nv:Nat):={ x:Int // 0<=x/\x < nv }
theorem GY {k:Nat} {ds:List D} {j:Nat} (h:j < ds.length):(ds.take (j+1)).flatMap (AG k)=(ds.take j).flatMap (AG k)++AG k ds[j]:=by
 rw [List.take_succ_eq_append_getElem h,List.flatMap_append];simp
theorem OJ (nv:Nat):∀ (l:List Int),(∀ v∈l,0<=v/\v < (nv:Int))->∃ ys:List (EW nv),ys.map Subtype.val=l
 | [],_=>⟨[],rfl⟩
 | v::l,h=>by
  obtain ⟨ys,hy⟩:=OJ nv l fun x hx=>h x (by simp [hx]);exact ⟨⟨v,h v (by simp)⟩::ys,by simp [hy]⟩
theorem Mf (F:Fence) (hd:F.depth=none) (hf:F.fn 211) (hro:F.round=none) (l nv N:Nat) (w0:World) (J Jx:List (EW nv)->World->Prop)
  (hJ:∀ s A B,J s A->Ov A B->J s B)
  (hY:∀ m pre x W,J pre W->pre.length < N->YieldAt F m Tryz.prog l #[zd U x.1] W fun e W'=>
   (e=zj (zg true)/\J (pre++[x]) W'/\Below w0.heap.size W W')\/(e=zj (zg false)/\Jx (pre++[x]) W')) :
  ∀ (k n:Nat) (cs:List Value) (d:D) (pre ys:List (EW nv)) (W:World),RX w0 k cs d->Ov w0 W->J pre W->ys.map Subtype.val=AG k d->pre.length+ys.length<=N ->
   CallsIn F n Tryz.prog 211 #[.agg cs.toArray,.func (.yield l) #[] #[]] W fun e W'=>
    (e=zj (zg true)/\J (pre++ys) W'/\Below w0.heap.size W W')\/(e=zj (zg false)/\∃ q,q <+: ys/\Jx (pre++q) W'):=by
 intro k
 induction k with
 | zero=>intro n cs d pre ys W h;exact h.elim
 | succ k ih=>
  intro n cs d pre ys W h hW hj u hN;obtain ⟨kd,nn,v,g,rfl,rfl,i1,i2,hm,ao,cap,rfl,S⟩:=h;have ad:∀ k:Nat,(F.depth.isSome=true->1<=k):=fun k h=>by rw [hd] at h;cases h
  have bf:g.length<=9223372036854775807:=hm;by_cases hk:kd=2
  ·subst hk
   have t:ys.map Subtype.val=[nn]:=by rw [u];simp [AG,AQ,Bk,xD]
   obtain ⟨y,rfl⟩:∃ y,ys=[y]:=by
    match ys,t with
    | [y],_=>exact ⟨y,rfl⟩
   have ar:y.1=nn:=by simpa using t
   subst ar;have f:=bA W (ze #[zd U 2,zd U y.1,O ao g.length cap] 94);obtain ⟨fn,a5,am,body,hy,hR⟩:=hY (n - 1) pre y _ (hJ _ _ _ hj f) (by simp at hN;omega);have hB:Below w0.heap.size W (W.alloc (ze #[zd U 2,zd U y.1,O ao g.length cap] 94)):=f.mono hW.size;have HB:=Aa hB;clear hB f hj u t S;refine callsIn_of_wp Tryz.func211 rfl hf ?_ hro;simp only [Tryz.ntmps211,List.size_toArray,List.length_cons,List.length_nil,Nat.reduceAdd,Nat.reduceSub,Array.replicate_succ,Array.replicate_zero,List.push_toArray,List.append_toArray,List.nil_append,List.cons_append]
   gi_wp2_with ((try refine ⟨ad _,?_⟩);refine hR.mono ?_;clear hR;rintro e W2 (⟨rfl,G,E⟩ | ⟨rfl,M⟩))
   ·go_ret
    exact .inl ⟨rfl,G,HB.o.trans E⟩
   ·go_ret
    exact .inr ⟨rfl,[y],List.prefix_refl _,M⟩
  ·have hv:AG (k+1) (xD kd nn g)=g.flatMap (AG k):=by simp [AG,AQ,A4,xD,hk]
   rw [hv] at u;have bh:(kd == 2)=false:=by simpa using hk
   have f:=bA W (ze #[zd U kd,zd U nn,O ao g.length cap] 94);have HB:Hx (Below w0.heap.size W (W.alloc (ze #[zd U kd,zd U nn,O ao g.length cap] 94))):=f.mono hW.size;have a0:=Aa (hJ _ _ _ hj f);have a1:=Aa S;have ah:=Aa u;have HW:=Aa hW;have HN:=Aa hN;clear S u hv f hj hW hN hY;refine callsIn_of_wp Tryz.func211 rfl hf ?_ hro;simp only [Tryz.ntmps211,List.size_toArray,List.length_cons,List.length_nil,Nat.reduceAdd,Nat.reduceSub,Array.replicate_succ,Array.replicate_zero,List.push_toArray,List.append_toArray,List.nil_append,List.cons_append]
   gi_wp2
   gi_loopw [17] (fun i wr=>∃ (j:Nat) (q1 q2:List (EW nv)),j<=g.length/\i=zd U j/\ys=q1++q2/\q1.map Subtype.val=(g.take j).flatMap (AG k)/\J (pre++q1) wr/\Below w0.heap.size W wr) (fun i _=>g.length - (intOf i).toNat)
   case atStart=>exact ⟨0,[],ys,Nat.zero_le _,rfl,rfl,by simp,by simpa using a0.o,HB.o⟩
   case round=>
    obtain ⟨j,q1,q2,bi,rfl,hq,ac,af,T⟩:=hrel;have Z:=Aa hq;have H:=Aa ac;have V:=Aa af;clear hq ac af;by_cases hlt:j < g.length
    ·obtain ⟨b,off,rfl,ae⟩:=a1.o (by rintro rfl;simp at hlt)
     obtain ⟨bq,av,C,hr⟩:=ae j g[j] (List.getElem?_eq_getElem hlt);obtain ⟨xa,xc,rfl⟩:=hr.form;have p:=HW.o.trans T;have g0:wr.cell? ⟨b,off+j*3,none⟩=_:=Ab p _ _ (C 0 _ rfl);have g1:=Ab p _ _ (C 1 _ rfl);have g2:=Ab p _ _ (C 2 _ rfl);have au:∃ z q3,q2=z++q3/\z.map Subtype.val=AG k g[j]:=by
      have h1:=ah.o;rw [Z.o,List.map_append,H.o] at h1;have h2:g.flatMap (AG k)=(g.take j).flatMap (AG k)++(AG k g[j]++(g.drop (j+1)).flatMap (AG k)):=by
       rw [<-List.append_assoc,<-GY hlt,<-List.flatMap_append,List.take_append_drop]
      rw [h2] at h1;have h3:=List.append_cancel_left h1;obtain ⟨z,q3,e1,e2,-⟩:=List.map_eq_append_iff.1 h3;exact ⟨z,q3,e1,e2⟩
     obtain ⟨z,q3,P,hz⟩:=au;have I:(pre++q1).length+z.length<=N:=by
      have:=HN.o;rw [Z.o,P] at this;simp at this ⊢;omega
     obtain ⟨ek,R⟩:=nm (AQ g[j]);obtain ⟨en,Q⟩:=nm (Bk g[j]);obtain ⟨xl,L⟩:=nm ((A4 g[j]).length);have f:=bA wr (ze #[zd U ek,zd U en,O xa xl xc] 94);rw [<-R,<-Q,<-L] at hr;rw [<-R] at g0;rw [<-Q] at g1;rw [<-L] at g2;have KI:=Aa (ih (n - 1) _ g[j] (pre++q1) z _ hr (p.trans (f.mono p.size)) (hJ _ _ _ V.o f) hz I);have a3:=Aa (T.trans (f.mono p.size));have HX:Hx (ys=(q1++z)++q3/\(q1++z).map Subtype.val=(g.take (j+1)).flatMap (AG k)):=by
      refine ⟨by rw [Z.o,P,List.append_assoc],?_⟩;rw [List.map_append,H.o,hz,GY hlt]
     clear ae C hr av R Q L P hz I f p V Z H
     gi_wp2_with ((try refine ⟨ad _,?_⟩);gi_at_call 211;refine (KI.o).mono ?_;clear KI;rintro e W2 (⟨rfl,G,E⟩ | ⟨rfl,q,hq,M⟩))
     ·have az:=Aa G
      have a2:=Aa (a3.o.trans E);clear G E
      gi_wp2
      go_roundw
      case rel=>exact ⟨j+1,q1++z,q3,by omega,by go_num,HX.o.1,HX.o.2,by rw [<-List.append_assoc];exact az.o,a2.o⟩
      case measure=>simp [intOf];omega
     ·gi_wp2
      go_ret;refine .inr ⟨rfl,q1++q,?_,by rw [<-List.append_assoc];exact M⟩;rw [HX.o.1,List.append_assoc];exact (List.prefix_append_right_inj _).2 (hq.trans (List.prefix_append _ _))
    ·gi_wp2
     go_ret;refine .inl ⟨rfl,?_,T⟩;have h1:=ah.o;have h2:=H.o;rw [List.take_of_length_le (by omega),<-h1,Z.o] at h2;have h3:q2=[]:=by
      have:=congrArg List.length h2;simp at this;exact this
     rw [Z.o,h3,List.append_nil];exact V.o
end Go.Proofs.YtfffpjkcfnekaaaGreat.Ex
namespace Go.Proofs.YtfffpjkcfnekaaaGreat.Ex
open Go.RowKit
open Go.Value renaming slice -> O, int -> zd, bool -> zg, agg -> zh, pointer -> zi, tuple -> zk
open Go.IntKind renaming i64 -> U
open Go.Obj renaming cells -> ze
open Go.Ending renaming returned -> zj
def EM:List Value:=[zd U 3,zd U 0,zd U 0,zd U 0,zd U 0,O none 0 0,O none 0 0,O none 0 0,O none 0 0,zd U 4,zd U 0,zd U 0,zd U 2,zd U 0,O none 0 0,O none 0 0,O none 0 0,O none 0 0]
def Ad (cs:List Value) (w:World) (b:Nat):Prop:=∀ j u,cs[j]? = some u->w.cell? ⟨b,j,none⟩=some u
theorem Ad.over {cs:List Value} {w w':World} {b:Nat} (h:Ad cs w b) (hB:Ov w w'):Ad cs w' b:=fun j u hu=>Ab hB _ _ (h j u hu)
abbrev Fc (bi bo bv bm:Nat):Value:=zh #[zd U 1,O none 0 0,O none 0 0,O (some ⟨bi,0,none⟩) 1 1,O (some ⟨bo,0,none⟩) 1 1,O (some ⟨bv,0,none⟩) 1 1,O none 0 0,O (some ⟨bm,0,none⟩) 2 2]
theorem Tryz.infoL:(Tryz.prog.info? 39).map (fun i=>(i.zero,i.size,i.bytes))=some (some (zh #[O none 0 0,O none 0 0]),2,48):=by kernel_rfl
theorem Ad.new (cs:List Value) (t:Nat) (w:World):Ad cs (w.alloc (.cells cs.toArray t)) w.heap.size:=fun j u hu=>by
 rw [Lib.cell_of_heap (heap_alloc_new w _)];simpa using hu
structure Ii (bi bo bv bm:Nat) (w:World):Prop where
 ins:Ad [O none 0 0,O none 0 0] w bi
 outs:Ad [O none 0 0,O none 0 0] w bo
 vars:Ad [zg false,O none 0 0,O none 0 0] w bv
 main:Ad EM w bm
theorem Ii.over {bi bo bv bm:Nat} {w w':World} (h:Ii bi bo bv bm w) (hB:Ov w w'):Ii bi bo bv bm w':=
 ⟨h.ins.over hB,h.outs.over hB,h.vars.over hB,h.main.over hB⟩
end Go.Proofs.YtfffpjkcfnekaaaGreat.Ex
namespace Go.Proofs.YtfffpjkcfnekaaaGreat.Ex
open Go.RowKit Go.Shelf
open Go.Value renaming slice -> O, int -> zd, bool -> zg, agg -> zh, pointer -> zi, tuple -> zk
open Go.IntKind renaming i64 -> U
open Go.Obj renaming cells -> ze
open Go.Ending renaming returned -> zj
attribute [local go_sem] Oper.semAt_some
def SX (B:Nat) (v:Value):Prop:=∀ a n c,v=O (some a) n c->B<=a.block
def Oa (B:Nat) (v:Value):Prop:=∃ x y,v=zh #[x,y]/\SX B x/\SX B y
theorem Kg {W:World} {B e s n:Nat} {v:Value} {xs:List Value} (h:W.ownsRow B e s v n xs):SX B v:=by
 intro a m c f;rcases h.2 with ⟨h,-⟩ | ⟨g,cap,k,h,i,-⟩
 ·rw [f] at h;cases h
 ·rw [f] at h;injection h with b p l;injection b with b;rw [b];exact i
theorem Bm {w w':World} {v:Value} {l:Lev} (h:A1 w w' v l):Oa w.heap.size v:=by
 obtain ⟨x,y,f,e,b,-⟩:=h;exact ⟨x,y,f,Kg e,Kg b⟩
theorem Aq {w w':World} {v:Value} {l:Lev} (h:A1 w w' v l):A3 w' v l:=by
 obtain ⟨x,y,f,e,b,-⟩:=h;exact ⟨x,y,f,B4 e,B4 b⟩
theorem E7 {W W':World} {v:Value} {l:List Bool} (h:AJ W v l) (hc:∀ a u,W.cell? a=some u->W'.cell? a=some u):AJ W' v l:=by
 obtain ⟨p,cap,k,e⟩:=h;refine ⟨p,cap,k,fun f=>?_⟩;obtain ⟨b,off,g,e⟩:=e f;exact ⟨b,off,g,fun i hi=>hc _ _ (e i hi)⟩
theorem Gz {W W':World} {v:Value} {l:Lev} (h:A3 W v l) (hc:∀ a u,W.cell? a=some u->W'.cell? a=some u):A3 W' v l:=by
 obtain ⟨x,y,f,e,b⟩:=h;exact ⟨x,y,f,E7 e hc,E7 b hc⟩
theorem MM (F:Fence) (n:Nat) (hf:F.fn 164) (hro:F.round=none) (ek en:Int) (xa xl xc) (w:World) :
  CallsIn F n Tryz.prog 164 #[zh #[zd U ek,zd U en,O xa xl xc]] w fun e w'=>e=zj (.func (.func 210) #[] #[zi (some ⟨w.heap.size,0,none⟩)])/\w'=w.alloc (ze #[zd U ek,zd U en,O xa xl xc] 94):=by
 refine callsIn_of_wp Tryz.func164 rfl hf ?_ hro;simp only [Tryz.ntmps164,List.size_toArray,List.length_cons,List.length_nil,Nat.reduceAdd,Nat.reduceSub,Array.replicate_succ,Array.replicate_zero,List.push_toArray,List.append_toArray,List.nil_append,List.cons_append]
 gi_wp2
 go_ret;exact ⟨rfl,rfl⟩
theorem OI (F:Fence) (hd:F.depth=none) (n:Nat) (hf:F.fn 210) (hf2:F.fn 211) (hro:F.round=none) (l nv Bt K:Nat) (w0:World) (ek en:Int) (xa xl xc d) (ys:List (EW nv)) (J Jx:List (EW nv)->World->Prop)
  (hJ:∀ s A B,J s A->Ov A B->J s B)
  (hY:∀ pre x W,J pre W->pre.length < ys.length->YieldAt F (n - 1) Tryz.prog l #[zd U x.1] W fun e W'=>
   (e=zj (zg true)/\J (pre++[x]) W'/\Below w0.heap.size W W')\/(e=zj (zg false)/\Jx (pre++[x]) W'))
  (W:World) (c0:W.cell? ⟨Bt,0,none⟩=some (zd U ek)) (c1:W.cell? ⟨Bt,1,none⟩=some (zd U en)) (c2:W.cell? ⟨Bt,2,none⟩=some (O xa xl xc)) (hx:RX w0 K [zd U ek,zd U en,O xa xl xc] d) (hW:Ov w0 W) (hys:ys.map Subtype.val=AG K d) (h0:J [] W) :
  CallsIn F n Tryz.prog 210 #[.func (.yield l) #[] #[],zi (some ⟨Bt,0,none⟩)] W fun e W'=>(∃ v,e=zj v) /\
   ((∃ zs,zs=ys/\J zs W')\/(∃ pre,pre <+: ys/\Jx pre W')):=by
 have b:∀ k:Nat,(F.depth.isSome=true->1<=k):=fun k h=>by rw [hd] at h;cases h
 have g:=Aa (Mf F hd hf2 hro l nv ys.length w0 J Jx hJ (fun m pre x W p hl=>PN hd m (hY pre x W p hl)) K (n - 1) _ d [] ys W hx hW h0 hys (by simp));clear hx hys hY h0 hW;refine callsIn_of_wp Tryz.func210 rfl hf ?_ hro;simp only [Tryz.ntmps210,List.size_toArray,List.length_cons,List.length_nil,Nat.reduceAdd,Nat.reduceSub,Array.replicate_succ,Array.replicate_zero,List.push_toArray,List.append_toArray,List.nil_append,List.cons_append]
 gi_wp2_with ((try refine ⟨b _,?_⟩);gi_at_call 211;refine g.o.mono ?_;clear g;rintro e t (⟨rfl,f,_⟩ | ⟨rfl,q,i,hx⟩))
 ·go_end0
  exact ⟨⟨_,rfl⟩,.inl ⟨_,rfl,by simpa using f⟩⟩
 ·go_end0
  exact ⟨⟨_,rfl⟩,.inr ⟨q,i,by simpa using hx⟩⟩
theorem GX (F:Fence) (hd:F.depth=none) (n:Nat) (hf:F.fn 210) (hf2:F.fn 211) (hro:F.round=none) (nv Bt K:Nat) (w0:World) (ek en:Int) (xa xl xc d) (ys:List (EW nv)) (w:World) (hBt:Bt < w.heap.size) (hw:Ov w0 w)
  (c0:w.cell? ⟨Bt,0,none⟩=some (zd U ek)) (c1:w.cell? ⟨Bt,1,none⟩=some (zd U en)) (c2:w.cell? ⟨Bt,2,none⟩=some (O xa xl xc)) (hx:RX w0 K [zd U ek,zd U en,O xa xl xc] d) (hys:ys.map Subtype.val=AG K d) :
  SeqStopsK F n Tryz.prog 210 #[zi (some ⟨Bt,0,none⟩)] (fun x:EW nv=>#[Value.int U x.1]) (Below w0.heap.size) (fun zs=>zs=ys) (fun pre=>pre <+: ys) ys.length w:=fun l J Jx W hW hJ _ hY h0=>
 OI F hd n hf hf2 hro l nv Bt K w0 ek en xa xl xc d ys J Jx (fun s A B hj hb=>hJ s A B none hj ⟨hb.os,hb.tape,hb.output,hb.size,fun k hk _=>hb.block k hk⟩ (fun r e=>by cases e)) hY W
  ((hW.cell (p:=⟨Bt,0,none⟩) hBt).trans c0) ((hW.cell (p:=⟨Bt,1,none⟩) hBt).trans c1) ((hW.cell (p:=⟨Bt,2,none⟩) hBt).trans c2) hx (hw.trans (hW.mono hw.size)) hys h0
end Go.Proofs.YtfffpjkcfnekaaaGreat.Ex
namespace Go.Proofs.YtfffpjkcfnekaaaGreat.Ex
open Go.RowKit
open Go.Value renaming slice -> O, int -> zd, bool -> zg, agg -> zh, pointer -> zi, tuple -> zk
open Go.IntKind renaming i64 -> U
open Go.Obj renaming cells -> ze
open Go.Ending renaming returned -> zj
theorem tk {P:Program} {ops:Array Oper} {Q:Exit->Act->World->Prop} {md:Region.Mode} {S:World->Prop} {i:Nat} {oi:Oper} {v:Value} {fuel:Nat} {listed:Array Bool} {a:Act} {w:World} (hy:YieldsIf P ops S oi v a) (hS:S w)
  (h:wpAnyH P md ops Q S fuel (listed.setIfInBounds i true) (a.put oi.dst v) w) (hi:ops[i]? = some oi:=by rfl)
  (hs:Region.noSelect ops=true:=by kernel_rfl) (hf:Region.free md ops listed i=true:=by kernel_rfl) (hr:(Region.ready md ops listed).contains i=true:=by kernel_rfl)
  (hQ:∀ c a w,Q (.panic c) (a.put oi.dst v) w->Q (.panic c) a w:=by exact fun _ _ _ h=>h):wpAnyH P md ops Q S (fuel+1) listed a w:=
 wpAnyH_take hi hs hf hr hQ hy hS h
def Ef (Qn:Act->World->Prop):Exit->Act->World->Prop
 | .normal,a,w=>Qn a w
 | _,_,_=>False
theorem Pf {Qn:Act->World->Prop}:¬ LetsOut (Ef Qn):=fun ⟨_,_,h⟩=>h
theorem PV {lo n:Nat} {P:Program} {o:Oper} {a:Act} {K K':Act->World->Prop} {Qn:Act->World->Prop} (hK:∀ a w,K a w->K' a w) :
  ∀ x:Result Next,o.upon P a K (Ef Qn) x->o.uponIn (Fence.wide.inRound lo) n P a K' (Ef Qn) x:=by
 intro x h;unfold Oper.upon at h;split at h
 ·exact hK _ _ h
 ·exact hK _ _ h
 ·exact hK _ _ h
 ·refine ⟨fun h=>(by cases h),CallsIn.inRound lo (callsIn_wide.2 (h.mono ?_))⟩
  intro e f h
  cases e with
  | returned v=>exact hK _ _ h
  | panicked c=>exact h
  | outgrown=>exact h
 ·exact ⟨fun h=>(by cases h),fun c cs _=>by obtain ⟨v,b,r,s⟩:=h c cs;exact ⟨v,b,hK _ _ r,stepsIn_wide.2 s⟩⟩
 ·exact h
 ·exact h.elim
theorem Td {lo n:Nat} {P:Program} {ops:Array Oper} (hdf:∀ (i:Nat) o,ops[i]? = some o->∀ c,o.op≠.defer c) {Qn:Act->World->Prop} {i:Nat} {K K':Act->World->Prop} (hK:∀ a w,K a w->K' a w) (a:Act) (w:World)
  (h:wpOp P ops (Ef Qn) i K a w):wpOpIn (Fence.wide.inRound lo) n P ops (Ef Qn) i K' a w:=by
 unfold wpOp at h;unfold wpOpIn;split at h
 ·rename_i b;simp only [b];exact hK _ _ h
 ·rename_i o b
  simp only [b];split at h
  ·rename_i hw
   rw [if_pos hw];rcases h with h | ⟨-,h⟩
   ·refine ⟨fun _ _=>trivial,?_⟩
    rw [Oper.semAt_plain _ _ _ (hdf i o b)];exact PV hK _ h
   ·exact (Pf h).elim
  ·rename_i hw
   rw [if_neg hw];exact ⟨fun _ _=>trivial,hK _ _ h⟩
theorem PM {lo n:Nat} {P:Program} {md:Region.Mode} {ops:Array Oper} (hdf:∀ (i:Nat) o,ops[i]? = some o->∀ c,o.op≠.defer c) {Qn:Act->World->Prop} :
  ∀ (fuel:Nat) (listed:Array Bool) (a:Act) (w:World),wpAny P md ops (Ef Qn) fuel listed a w->wpAnyIn (Fence.wide.inRound lo) n P md ops (Ef Qn) fuel listed a w
 | 0,_,_,_,h=>h
 | fuel+1,listed,a,w,h=>⟨h.1,fun i hi=>Td hdf (fun a w h=>PM hdf fuel _ a w h) a w (h.2 i hi)⟩
theorem DN {lo n:Nat} {P:Program} {id:Nat} {ops:Array Oper} {Q:Exit->Act->World->Prop} {S:World->Prop} {a:Act} {w:World} (hm:P.follows .mixedOrders=true) (hdf:∀ (i:Nat) o,ops[i]? = some o->∀ c,o.op≠.defer c)
  (h:wpAnyH P .any ops (Ef (Q .normal)) S ops.size (Array.replicate ops.size false) a w.drew):(Code.region id ops true).wpIn (Fence.wide.inRound lo) n P Q a w:=
 wpIn_mono (wpIn_region_any hm (PM hdf _ _ _ _ (wpAny_of_held _ _ _ _ h))) fun e a w h=>by
  cases e <;> first | exact h | exact h.elim
end Go.Proofs.YtfffpjkcfnekaaaGreat.Ex
namespace Go.Proofs.YtfffpjkcfnekaaaGreat.Ex
open Go.RowKit Go.Shelf
open Go.Value renaming slice -> O, int -> zd, bool -> zg, agg -> zh, pointer -> zi, tuple -> zk
open Go.IntKind renaming i64 -> U
open Go.Obj renaming cells -> ze
open Go.Ending renaming returned -> zj
attribute [local go_sem] Oper.semAt_some
theorem EP {n:Nat} {gs:List (Int × Int)} {l k:Lev} (h:AR n gs=0) (hl:l.len n) (hk:k.len n):Fj n gs l k=0:=by
 have e:CN (n:Int) l=0:=by unfold CN;rw [if_pos ⟨by rw [hl.1],by rw [hl.2]⟩]
 have b:CN (n:Int) k=0:=by unfold CN;rw [if_pos ⟨by rw [hk.1],by rw [hk.2]⟩]
 simp [Fj,Dn,h,e,b]
theorem AX {w:World} {x y:Value} {l:Lev} (h:A3 w (zh #[x,y]) l):∃ p1 q1 r1 p2 q2 r2,x=O p1 q1 r1/\y=O p2 q2 r2:=by
 obtain ⟨u,v,e,⟨a,c,f,-⟩,⟨i,g,b,-⟩⟩:=h;simp at e;obtain ⟨rfl,rfl⟩:=e;exact ⟨_,_,_,_,_,_,f,b⟩
theorem GB {W W':World} (h:Ov W W'):KeepsOthers W W':=KeepsOthers.of_grownBy (row:=none) ⟨h.os,h.tape,h.output,h.size,fun k hk _=>h.block k hk⟩ (fun _ _ e=>by cases e)
theorem FE {W:World} {p:Addr} {a:Option Addr} {m c:Nat} {v:Value} {l:List Bool} (hp:W.cell? p=some (O a m c)) (h:AJ W v l) (u:Value):AJ (W.setCell p u) v l:=by
 obtain ⟨s,cap,q,f⟩:=h;refine ⟨s,cap,q,fun e=>?_⟩;obtain ⟨b,off,k,f⟩:=f e;refine ⟨b,off,k,fun i hi=>?_⟩;have g:=f i hi;have e:p≠⟨b,off+i,none⟩:=by
  rintro rfl;rw [hp] at g;cases g
 rw [World.cell?_setCell_other _ _ _ _ e];exact g
theorem Cz {W:World} {p:Addr} {a:Option Addr} {m c:Nat} {v:Value} {l:Lev} (hp:W.cell? p=some (O a m c)) (h:A3 W v l) (u:Value):A3 (W.setCell p u) v l:=by
 obtain ⟨x,y,f,e,b⟩:=h;exact ⟨x,y,f,FE hp e u,FE hp b u⟩
theorem M7 (n:Nat) (L l) (vs:List Int) (v:Int):A6 n L l (vs++[v])=BA (A6 n L l vs) (L.getD v.toNat Ah) n:=by simp [A6]
def Ln (n:Nat) (s:Nat) (wc:List Value) (lr lw:Value) (Ls:List Lev) (l:Lev) (nv:Nat) (pre:List (EW nv)) (W:World):Prop:=
 ∃ xr xw,W.cell? ⟨s+1,0,none⟩=some xr/\W.cell? ⟨s+1,1,none⟩=some xw/\W.frozen? ⟨s+1,0,none⟩=false/\W.frozen? ⟨s+1,1,none⟩=false/\A3 W (zh #[xr,xw]) (A6 n Ls l (pre.map Subtype.val))/\((xr=lr/\xw=lw)\/Oa s (zh #[xr,xw]))/\Ad wc W s /\
  W.cell? ⟨s+1+1+1,0,none⟩=some (O none 0 0)/\W.cell? ⟨s+1+1+1,1,none⟩=some (O none 0 0)/\W.frozen? ⟨s+1+1+1,0,none⟩=false/\W.frozen? ⟨s+1+1+1,1,none⟩=false
theorem M8 (n:Nat) (s:Nat) (wc:List Value) (lr lw:Value) (Ls l) (nv:Nat):Own (Ln n s wc lr lw Ls l nv):=by
 rintro q A B row ⟨p,k,c0,c1,f0,f1,hl,t,f,i,g,C,y⟩ e b;exact ⟨p,k,cell_kept c0 e b,cell_kept c1 e b,(frozen_kept c0 e b).trans f0,(frozen_kept c1 e b).trans f1,Gz hl (fun a u h=>cell_kept h e b),t,fun j u h=>cell_kept (f j u h) e b,cell_kept i e b,cell_kept g e b,(frozen_kept i e b).trans C,(frozen_kept g e b).trans y⟩
theorem M6 {n nv:Nat} {wc:List Value} {lr lw:Value} {Ls:List Lev} {l:Lev} {pre:List (EW nv)} {x:EW nv} {w W W2:World} {v1 v2:Value} (hI:Ln n w.heap.size wc lr lw Ls l nv pre W) (hB:Ov w W) (hb2:Ov W W2)
  (hf:A1 W W2 (zh #[v1,v2]) (BA (A6 n Ls l (pre.map Subtype.val)) (Ls.getD x.1.toNat Ah) n)) :
  KeepsOthers W ((W2.setCell ⟨w.heap.size+1,0,none⟩ v1).setCell ⟨w.heap.size+1,1,none⟩ v2)/\Below w.heap.size W ((W2.setCell ⟨w.heap.size+1,0,none⟩ v1).setCell ⟨w.heap.size+1,1,none⟩ v2)/\Ln n w.heap.size wc lr lw Ls l nv (pre++[x]) ((W2.setCell ⟨w.heap.size+1,0,none⟩ v1).setCell ⟨w.heap.size+1,1,none⟩ v2)/\Ov w ((W2.setCell ⟨w.heap.size+1,0,none⟩ v1).setCell ⟨w.heap.size+1,1,none⟩ v2):=by
 obtain ⟨I,H,c0,c1,f0,f1,hl,J,g,t,A,G,F⟩:=hI;have i:w.heap.size+1+1+1 < W.heap.size:=bL t;have k:Below w.heap.size W ((W2.setCell ⟨w.heap.size+1,0,none⟩ v1).setCell ⟨w.heap.size+1,1,none⟩ v2):=((hb2.mono (by omega)).setCell (by simp) _).setCell (by simp) _;have f:∀ b o u,b≠w.heap.size+1->W.cell? ⟨b,o,none⟩=some u->((W2.setCell ⟨w.heap.size+1,0,none⟩ v1).setCell ⟨w.heap.size+1,1,none⟩ v2).cell? ⟨b,o,none⟩=some u:=fun b o u L h=>by
  have e:=Ab hb2 _ _ h;simp [go_sem,e]
 refine ⟨(GB hb2).trans ((KeepsOthers.setCell _ _ _).trans (KeepsOthers.setCell _ _ _)),k,?_,hB.trans k⟩;have p:=Bm hf;obtain ⟨u1,u2,y,s,q,-⟩:=hf;simp at y;obtain ⟨rfl,rfl⟩:=y;refine ⟨v1,v2,?_,?_,?_,?_,?_,Or.inr ?_,fun j u h=>f _ _ _ (by omega) (g j u h),f _ _ _ (by omega) t,f _ _ _ (by omega) A,?_,?_⟩
 ·simp [go_sem,Ab hb2 _ _ c0]
 ·have E:=Ab hb2 _ _ c1
  simp [go_sem,E]
 ·simp [go_sem,((An hb2).2 _ _ (by omega:w.heap.size+1 < W.heap.size)).trans f0]
 ·simp [go_sem,((An hb2).2 _ _ (by omega:w.heap.size+1 < W.heap.size)).trans f1]
 ·rw [List.map_append,List.map_singleton,M7]
  refine ⟨v1,v2,rfl,B4 (AZ (AZ s (by simp;omega) _) (by simp;omega) _),B4 (AZ (AZ q (by simp;omega) _) (by simp;omega) _)⟩
 ·obtain ⟨a,b,e,C,B⟩:=p
  exact ⟨a,b,e,fun a n c h=>Nat.le_trans hB.size (C a n c h),fun a n c h=>Nat.le_trans hB.size (B a n c h)⟩
 ·simp [go_sem,((An hb2).2 _ _ i).trans G]
 ·simp [go_sem,((An hb2).2 _ _ i).trans F]
abbrev Oi (w:World) (n:Nat) (ga:Option Addr) (gn gc:Nat) (sa:Option Addr) (sn sc:Nat) (ya:Option Addr) (yn yc:Nat) (oa:Option Addr) (on oc:Nat) (va:Option Addr) (vn vc:Nat) (fa:Option Addr) (fn fc:Nat) (ba:Option Addr) (bn bc b off ln lc:Nat) (ka:Option Addr) (kn kc j:Nat) (b1:Option Addr) (b2 b3:Nat) (b4:Option Addr) (b5 b6:Nat) (Wz:World):Prop:=Wz.cell? ⟨w.heap.size,0,none⟩=some (zd U (n:Int))/\Wz.cell? ⟨w.heap.size,1,none⟩=some (O ga gn gc)/\Wz.cell? ⟨w.heap.size,2,none⟩=some (O sa sn sc)/\Wz.cell? ⟨w.heap.size,3,none⟩=some (O ya yn yc)/\Wz.cell? ⟨w.heap.size,4,none⟩=some (O oa on oc)/\Wz.cell? ⟨w.heap.size,5,none⟩=some (O va vn vc)/\Wz.cell? ⟨w.heap.size,6,none⟩=some (O fa fn fc)/\Wz.cell? ⟨w.heap.size,7,none⟩=some (O ba bn bc)/\Wz.cell? ⟨w.heap.size,8,none⟩=some (O (some ⟨b,off,none⟩) ln lc)/\Wz.cell? ⟨w.heap.size,9,none⟩=some (O ka kn kc)/\Wz.cell? ⟨b,off+j*2,none⟩=some (O b1 b2 b3)/\Wz.cell? ⟨b,off+j*2+1,none⟩=some (O b4 b5 b6)
theorem RJ (n:Nat) (h1:1<=n) (h6:n<=6) (ga gn gc sa sn sc ya yn yc oa on oc va vn vc fa fn fc ba bn bc la ln lc ka kn kc gs) (Ls:List Lev) (p1 q1 r1 p2 q2 r2 l) (K:Nat) (ek en:Int) (xa xl xc d) (ys:List (EW Ls.length)) (w:World)
  (hg:AA w (O ga gn gc) gs) (hE:AR n gs=0) (hL:BW w (O la ln lc) Ls) (hLl:∀ x∈Ls,x.len n) (hl:A3 w (zh #[O p1 q1 r1,O p2 q2 r2]) l) (hll:l.len n) (hlm:Ls.length<=9223372036854775807)
  (hx:RX w K [zd U ek,zd U en,O xa xl xc] d) (hys:ys.map Subtype.val=AG K d) :
  Calls Tryz.prog 103 #[zh #[zd U (n:Int),O ga gn gc,O sa sn sc,O ya yn yc,O oa on oc,O va vn vc,O fa fn fc,O ba bn bc,O la ln lc,O ka kn kc],zh #[O p1 q1 r1,O p2 q2 r2],zh #[zd U ek,zd U en,O xa xl xc]] w fun e w'=>
   (∃ v,e=zj v/\A3 w' v (A6 n Ls l (AG K d))/\(v=zh #[O p1 q1 r1,O p2 q2 r2]\/Oa w.heap.size v))/\Ov w w':=by
 have p:Ov w (((((w.alloc (ze #[zd U (n:Int),O ga gn gc,O sa sn sc,O ya yn yc,O oa on oc,O va vn vc,O fa fn fc,O ba bn bc,O la ln lc,O ka kn kc] 108)).alloc (ze #[O p1 q1 r1,O p2 q2 r2] 50)).alloc (ze #[zd U ek,zd U en,O xa xl xc] 94)).alloc (ze #[O none 0 0,O none 0 0] 50)).alloc (ze #[zd U ek,zd U en,O xa xl xc] 94)):=by
  refine Below.alloc ?_ (by simp <;> omega) _
  refine Below.alloc ?_ (by simp <;> omega) _
  refine Below.alloc ?_ (by simp <;> omega) _
  refine Below.alloc ?_ (by simp <;> omega) _
  exact bA w _
 have ai:Ln n w.heap.size [zd U (n:Int),O ga gn gc,O sa sn sc,O ya yn yc,O oa on oc,O va vn vc,O fa fn fc,O ba bn bc,O la ln lc,O ka kn kc] (O p1 q1 r1) (O p2 q2 r2) Ls l Ls.length [] (((((w.alloc (ze #[zd U (n:Int),O ga gn gc,O sa sn sc,O ya yn yc,O oa on oc,O va vn vc,O fa fn fc,O ba bn bc,O la ln lc,O ka kn kc] 108)).alloc (ze #[O p1 q1 r1,O p2 q2 r2] 50)).alloc (ze #[zd U ek,zd U en,O xa xl xc] 94)).alloc (ze #[O none 0 0,O none 0 0] 50)).alloc (ze #[zd U ek,zd U en,O xa xl xc] 94)):=by
  refine ⟨O p1 q1 r1,O p2 q2 r2,by simp [go_sem],by simp [go_sem],by simp [go_sem],by simp [go_sem],AK hl p,Or.inl ⟨rfl,rfl⟩,?_,by simp [go_sem],by simp [go_sem],by simp [go_sem],by simp [go_sem]⟩;intro j u hu;have hj:j < 10:=by have:=(List.getElem?_eq_some_iff.1 hu).1;simpa using this
  rcases (by omega:j=0\/j=1\/j=2\/j=3\/j=4\/j=5\/j=6\/j=7\/j=8\/j=9) with h | h | h | h | h | h | h | h | h | h <;> subst h <;> simp at hu <;> subst hu <;> simp [go_sem]
 obtain ⟨k0,k1,k2⟩:=rc3 (TE w (ze #[zd U (n:Int),O ga gn gc,O sa sn sc,O ya yn yc,O oa on oc,O va vn vc,O fa fn fc,O ba bn bc,O la ln lc,O ka kn kc] 108) (ze #[O p1 q1 r1,O p2 q2 r2] 50) (ze #[zd U ek,zd U en,O xa xl xc] 94) (ze #[O none 0 0,O none 0 0] 50) [zd U ek,zd U en,O xa xl xc] 94);have al:=Aa (GX Fence.wide rfl 2 trivial trivial rfl Ls.length (w.heap.size+1+1+1+1) K w ek en xa xl xc d ys _ (by simp) p k0 k1 k2 hx hys);have KJ:=Aa fun (W:World) (t:Ov w W) (xr xw kr kw:Value) (a b:Lev) (ha:A3 W (zh #[xr,xw]) a) (R:A3 W (zh #[kr,kw]) b) (aw:a.len n) (lb:b.len n)=>MY (n:Int) ga gn gc sa sn sc ya yn yc oa on oc va vn vc fa fn fc ba bn bc la ln lc ka kn kc gs xr xw kr kw a b W (Af hg t) ha R (EP hE aw lb);have HL:=Aa fun (W:World) (t:Ov w W)=>CH hL t;have L:=Aa p;have am:=Aa ai;have P:ln=Ls.length:=by obtain ⟨ao,cap,he,-⟩:=hL;injection he
 have ak:=Aa hys;have bo:=Aa P;have ci:ln<=9223372036854775807:=by rw [P];exact hlm
 clear P;clear p ai k0 k1 k2 hx hL hg hE hl hys;refine (callsIn_wide (n:=3)).1 ?_;refine callsIn_of_wp_marks Tryz.func103 rfl trivial ?_ rfl;simp only [Tryz.ntmps103,List.size_toArray,List.length_cons,List.length_nil,Nat.reduceAdd,Nat.reduceSub,Array.replicate_succ,Array.replicate_zero,List.push_toArray,List.append_toArray,List.nil_append,List.cons_append]
 gi_wp2_with (refine ⟨trivial,?_⟩;gi_at_call 164;refine (MM Fence.wide _ trivial rfl _ _ _ _ _ _).mono ?_;rintro e w' ⟨rfl,rfl⟩)
 refine wpIn_rangeFunc_ownF (F:=Fence.wide) rfl (by omega) (gf:=210) (lb:=#[zi (some ⟨w.heap.size+1+1+1+1,0,none⟩)]) rfl trivial (enters_of Tryz.func210 (by kernel_rfl) rfl)
  al.o belowK_t (belowK_b (by simp <;> omega)) (Below.refl _ _) (fun _=>rfl)
  (fun N W=>Ln n w.heap.size [zd U (n:Int),O ga gn gc,O sa sn sc,O ya yn yc,O oa on oc,O va vn vc,O fa fn fc,O ba bn bc,O la ln lc,O ka kn kc] (O p1 q1 r1) (O p2 q2 r2) Ls l Ls.length N W/\Ov w W)
  (fun _ _ _=>False)
  (OwnFrom.and (Own.from (M8 n w.heap.size [zd U (n:Int),O ga gn gc,O sa sn sc,O ya yn yc,O oa on oc,O va vn vc,O fa fn fc,O ba bn bc,O la ln lc,O ka kn kc] (O p1 q1 r1) (O p2 q2 r2) Ls l Ls.length) _) (ownFrom_below (Nat.le_refl _) (by simp <;> omega)))
  (fun _ _ _ _ _ hs _ _=>hs)
  ⟨am.o,L.o⟩
  (fun x=>{ tmps:=#[zh #[zd U (n:Int),O ga gn gc,O sa sn sc,O ya yn yc,O oa on oc,O va vn vc,O fa fn fc,O ba bn bc,O la ln lc,O ka kn kc],zh #[O p1 q1 r1,O p2 q2 r2],zh #[zd U ek,zd U en,O xa xl xc],zi (some ⟨w.heap.size,0,none⟩),zi (some ⟨w.heap.size+1,0,none⟩),zi (some ⟨w.heap.size+1+1,0,none⟩),zi (some ⟨w.heap.size+1+1+1,0,none⟩),zd U x.1,zh #[zd U ek,zd U en,O xa xl xc],.func (.func 210) #[] #[zi (some ⟨w.heap.size+1+1+1+1,0,none⟩)],zd U x.1,undef,undef,undef,undef,undef,undef,undef,undef,undef,undef],defers:=[] }) ?assign ?body ?done ?stop
 case assign=>
  intro l x W K s
  gi_wp2
  exact s
 case body=>
  clear al am L ak;rintro lo N x W ⟨⟨xr,xw,c0,c1,f0,f1,hl,hd,k,s0,s1,g0,g1⟩,t⟩ _;have Z:=Aa fun (v1 v2:Value) (W2:World)=>M6 (x:=x) (v1:=v1) (v2:=v2) (W2:=W2) ⟨xr,xw,c0,c1,f0,f1,hl,hd,k,s0,s1,g0,g1⟩ t;obtain ⟨G,E,C,J,I,H,rfl,rfl⟩:=AX hl;obtain ⟨x,c7,c6⟩:=x;obtain ⟨j,rfl⟩:∃ j:Nat,x=(j:Int):=⟨x.toNat,by omega⟩;have hj:j < Ls.length:=by omega
  obtain ⟨b,off,cap,rv,wv,hv,V,aj,y⟩:=I1 (HL.o w (Below.refl _ _)) hj;have dg:b < w.heap.size:=bL V;obtain ⟨e0,e1⟩:=co2 t V aj;have A:=AK y t;clear V aj y;injection hv with az ay ax;subst az ax;have dc:j < ln:=by rw [bo.o];exact hj
  clear ay;obtain ⟨b1,b2,b3,b4,b5,b6,rfl,rfl⟩:=AX A;obtain ⟨w0,w1,w2,w3,w4,w5,w6,w7,w8,w9⟩:=Ch k;have bm:=Aa (fun W2 (R:Ov W W2)=>KJ.o W2 (t.trans (R.mono t.size)) _ _ _ _ _ _ (AK hl R) (AK A R) (GV _ _ hll) (hLl _ (List.getElem_mem hj)));have ae:Ls.getD (j:Int).toNat Ah=Ls[j]:=by simp [List.getD_eq_getElem?_getD,hj]
  have bp:=Aa ae;clear ae;clear KJ HL hl A hd k t hLl hll;have db:(j:Int) < (ln:Int):=by omega
  have a9:Tryz.prog.follows .mixedOrders=true:=by kernel_rfl
  have de:1<=3 - 1 - 1:=by omega
  gi_wp2
  have be:(fun W2:World=>Oi w n ga gn gc sa sn sc ya yn yc oa on oc va vn vc fa fn fc ba bn bc b off ln lc ka kn kc j b1 b2 b3 b4 b5 b6 W2) W.drew:=⟨w0,w1,w2,w3,w4,w5,w6,w7,w8,w9,e0,e1⟩;refine DN (S:=fun W2=>Oi w n ga gn gc sa sn sc ya yn yc oa on oc va vn vc fa fn fc ba bn bc b off ln lc ka kn kc j b1 b2 b3 b4 b5 b6 W2) a9 ?_ ?_
  ·intro i o g c hc
   match i with
   | 0 | 1 | 2 | 3 | 4 | 5 | 6 | 7 | 8 | 9=>simp at g;subst g;cases hc
   | i+10=>simp at g
  refine kT 0 ?_;refine kT 2 ?_;refine kT 3 ?_;refine kT 4 ?_;refine kT 5 ?_;refine kT 6 ?_;refine kT 7 ?_;refine rdA 1 rfl fun K s=>?_;go_simp;refine xK s be fun f=>?_;clear s K f;refine rdA 8 rfl fun K s=>?_;go_simp;refine (bm.o _ (bD W)).mono ?_;rintro e M ⟨vj,rfl,hf,R⟩;have HF:=Aa hf;obtain ⟨v1,v2,rfl,a8,a7,-⟩:=hf;obtain ⟨o1,o2,o3,rfl⟩:=AE a8;obtain ⟨o4,o5,o6,rfl⟩:=AE a7;have B:Hx (Ov W M):=(bD W).trans (R.mono (Nat.le_refl _));have bb:w.heap.size+1+1+1 < W.heap.size:=bL s0;obtain ⟨dn,dm⟩:=co2 B.o c0 c1;have dl:M.frozen? ⟨w.heap.size+1,0,none⟩=false:=((An B.o).2 _ _ (by omega)).trans f0;have dk:M.frozen? ⟨w.heap.size+1,1,none⟩=false:=((An B.o).2 _ _ (by omega)).trans f1;have ah:(fun W2:World=>Oi w n ga gn gc sa sn sc ya yn yc oa on oc va vn vc fa fn fc ba bn bc b off ln lc ka kn kc j b1 b2 b3 b4 b5 b6 W2) M:=by
   have q:=Ab B.o;exact ⟨q _ _ w0,q _ _ w1,q _ _ w2,q _ _ w3,q _ _ w4,q _ _ w5,q _ _ w6,q _ _ w7,q _ _ w8,q _ _ w9,q _ _ e0,q _ _ e1⟩
  go_simp;refine xK s ah fun f=>?_;clear s K f;refine rdA 9 rfl fun K s=>?_;go_simp;refine s.out _ _ ?_ (fun f=>?_)
  ·obtain ⟨t0,t1,t2,t3,t4,t5,t6,t7,t8,t9,au,ar⟩:=ah
   have ad:b≠w.heap.size+1:=by omega
   have g:∀ b' o' u,b'≠w.heap.size+1->M.cell? ⟨b',o',none⟩=some u->((M.setCell ⟨w.heap.size+1,0,none⟩ (O o1 o2 o3)).setCell ⟨w.heap.size+1,1,none⟩ (O o4 o5 o6)).cell? ⟨b',o',none⟩=some u:=fun b' o' u bd h=>by
    have:=bd.symm;simp [go_sem,h]
   exact ⟨g _ _ _ (by omega) t0,g _ _ _ (by omega) t1,g _ _ _ (by omega) t2,g _ _ _ (by omega) t3,g _ _ _ (by omega) t4,g _ _ _ (by omega) t5,g _ _ _ (by omega) t6,g _ _ _ (by omega) t7,g _ _ _ (by omega) t8,g _ _ _ (by omega) t9,g _ _ _ ad au,g _ _ _ ad ar⟩
  clear s K f;refine gE ?_;have ag:=Z.o (O o1 o2 o3) (O o4 o5 o6) M B.o (by rw [bp.o];exact HF.o);exact ag
 case done=>
  rintro D zs W hD rfl ⟨⟨xr,xw,c0,c1,f0,f1,hl,hd,k,s0,s1,g0,g1⟩,t⟩ s;obtain ⟨G,E,C,J,I,H,rfl,rfl⟩:=AX hl
  gi_wp2
  have bb:w.heap.size+1+1+1 < W.heap.size:=bL s0;have bf:=(KeepsOthers.setCell W ⟨w.heap.size+1+1+1,0,none⟩ (O G E C)).same D _ s rfl;have T:=(KeepsOthers.setCell (W.setCell ⟨w.heap.size+1+1+1,0,none⟩ (O G E C)) ⟨w.heap.size+1+1+1,1,none⟩ (O J I H)).same D _ bf rfl;have x0:((W.setCell ⟨w.heap.size+1+1+1,0,none⟩ (O G E C)).setCell ⟨w.heap.size+1+1+1,1,none⟩ (O J I H)).cell? ⟨w.heap.size+1+1+1,0,none⟩=some (O G E C):=by simp [go_sem,s0]
  have x1:((W.setCell ⟨w.heap.size+1+1+1,0,none⟩ (O G E C)).setCell ⟨w.heap.size+1+1+1,1,none⟩ (O J I H)).cell? ⟨w.heap.size+1+1+1,1,none⟩=some (O J I H):=by simp [go_sem,s1]
  have Q:∀ a u,((W.setCell ⟨w.heap.size+1+1+1,0,none⟩ (O G E C)).setCell ⟨w.heap.size+1+1+1,1,none⟩ (O J I H)).cell? a=some u->(((W.setCell ⟨w.heap.size+1+1+1,0,none⟩ (O G E C)).setCell ⟨w.heap.size+1+1+1,1,none⟩ (O J I H)).putObj D (.deferred none)).cell? a=some u:=fun a u h=>cell_kept h (grownBy_putObj' _ D (.deferred none)) (fun r e=>by cases e;exact ⟨_,T,rfl⟩);have y0:=Q _ _ x0;have y1:=Q _ _ x1;have av:(W.setCell ⟨w.heap.size+1+1+1,0,none⟩ (O G E C)).cell? ⟨w.heap.size+1+1+1,1,none⟩=some (O none 0 0):=by simp [go_sem,s1]
  refine ⟨by simp,.inl ⟨_,_,rfl,run_takeDeferred T,?_⟩⟩;refine ⟨zh #[O G E C,O J I H],by simp [results,Tryz.f103,go_sem,y0,y1],⟨_,rfl,?_,?_⟩,?_⟩
  ·rw [<-ak.o]
   exact Gz (Cz av (Cz s0 hl _) _) Q
  ·rcases hd with ⟨h1,h2⟩ | h
   ·exact Or.inl (by rw [h1,h2])
   ·exact Or.inr h
  ·exact ((t.setCell (by simp;omega) _).setCell (by simp;omega) _).trans (belowK_b (w:=w) (Nat.le_refl _) _ D _ _ (by simp at hD;omega) T rfl rfl)
 case stop=>
  rintro D c N W _ _ h _;exact h.elim
end Go.Proofs.YtfffpjkcfnekaaaGreat.Ex
namespace Go.Proofs.YtfffpjkcfnekaaaGreat.Ex
open Go.RowKit
open Go.Value renaming slice -> O, int -> zd, bool -> zg, agg -> zh, pointer -> zi, tuple -> zk
open Go.IntKind renaming i64 -> U
open Go.Obj renaming cells -> ze
open Go.Ending renaming returned -> zj
theorem Mm (p q:Addr) (w:World) :
  CallsD Tryz.prog 170 #[zi (some p),zi (some q)] .returning w fun e u' w'=>e=zj (zk #[])/\u'=.returning/\w'=w:=by
 refine callsD_of_wpS Tryz.func170 rfl fun f cs b=>?_;apply wpS_seq;apply wpS_region;simp [wpOpsS,go_sem,recoverD,b,Tryz.ntmps170,Exit.thenS];refine wpS_of_wp ?_
 change Code.wp Tryz.prog _ _ { tmps:=#[zi (some p),zi (some q),.nilIface,undef,.nilIface,undef,undef,undef,undef,undef,undef,undef,undef],defers:=[] } w
 go_wp2
 cases f
 simp_all [bodyPostS,results,Tryz.results170]
def Bu (w:World):List Lab->List Value->Prop
 | [],xs=>xs=[]
 | l::r,xs=>∃ (pr pw:Value) (ys:List Value),xs=pr::pw::ys/\AL w pr l.r/\AL w pw l.w/\Bu w r ys
theorem Bu.over {w w':World} (hb:Ov w w'):∀ {l:List Lab} {xs:List Value},Bu w l xs->Bu w' l xs
 | [],_,h=>h
 | a::l,_,h=>by
  obtain ⟨pr,pw,ys,rfl,h1,h2,h3⟩:=h;exact ⟨pr,pw,ys,rfl,Ak h1 hb,Ak h2 hb,h3.over hb⟩
theorem Bu.append {w:World}:∀ {l m:List Lab} {xs ys:List Value},Bu w l xs->Bu w m ys->Bu w (l++m) (xs++ys)
 | [],_,_,_,h,h'=>by have e:_=_:=h;subst e;exact h'
 | a::l,_,_,_,h,h'=>by
  obtain ⟨pr,pw,zs,rfl,h1,h2,h3⟩:=h;exact ⟨pr,pw,zs++_,rfl,h1,h2,h3.append h'⟩
theorem Bu.length {w:World}:∀ {l:List Lab} {xs:List Value},Bu w l xs->xs.length=l.length*2
 | [],_,h=>by have e:_=_:=h;subst e;rfl
 | a::l,_,h=>by
  obtain ⟨pr,pw,zs,rfl,h1,h2,h3⟩:=h;have:=h3.length;simp;omega
theorem Bu.one {w:World}:∀ {l:List Lab} {xs:List Value},Bu w l xs->∀ u∈xs,u.oneCell'=true
 | [],_,h,u,hu=>by have e:_=_:=h;subst e;cases hu
 | a::l,_,h,u,hu=>by
  obtain ⟨pr,pw,zs,rfl,h1,h2,h3⟩:=h;obtain ⟨x,n,c,rfl⟩:=Az h1;obtain ⟨y,n',c',rfl⟩:=Az h2;simp only [List.mem_cons] at hu;rcases hu with rfl | rfl | hu
  ·rfl
  ·rfl
  ·exact h3.one u hu
theorem Bu.at {w:World}:∀ {l:List Lab} {xs:List Value},Bu w l xs->∀ (j:Nat) (hj:j < l.length),∃ pr pw,xs[j*2]? = some pr/\xs[j*2+1]? = some pw/\AL w pr l[j].r/\AL w pw l[j].w
 | a::l,_,h,0,hj=>by
  obtain ⟨pr,pw,zs,rfl,h1,h2,h3⟩:=h;exact ⟨pr,pw,rfl,rfl,h1,h2⟩
 | a::l,_,h,j+1,hj=>by
  obtain ⟨pr,pw,zs,rfl,h1,h2,h3⟩:=h;obtain ⟨pr',pw',e1,e2,e3,e4⟩:=h3.at j (by simpa using hj);exact ⟨pr',pw',by rw [Nat.succ_mul];exact e1,by rw [Nat.succ_mul];exact e2,e3,e4⟩
theorem Hl {w:World} {b off:Nat}:∀ (ls:List Lab) (o:Nat),(∀ i (h:i < ls.length),∃ (pr pw:Value),w.cell? ⟨b,o+i*2,none⟩=some pr/\w.cell? ⟨b,o+i*2+1,none⟩=some pw/\AL w pr ls[i].r/\AL w pw ls[i].w) ->
  ∃ xs,Bu w ls xs/\∀ j u,xs[j]? = some u->w.cell? ⟨b,o+j,none⟩=some u
 | [],o,_=>⟨[],rfl,fun j u hu=>by simp at hu⟩
 | l::ls,o,h=>by
  obtain ⟨pr,pw,h0,h1,h2,h3⟩:=h 0 (by simp);obtain ⟨xs,hx,hc⟩:=Hl (w:=w) (b:=b) (off:=off) ls (o+2) (fun i hi=>by
   obtain ⟨pr',pw',e0,e1,e2,e3⟩:=h (i+1) (by simpa using hi);refine ⟨pr',pw',?_,?_,e2,e3⟩
   ·rw [<-e0];congr 2;omega
   ·rw [<-e1];congr 2;omega)
  refine ⟨pr::pw::xs,⟨pr,pw,xs,rfl,h2,h3,hx⟩,fun j u hu=>?_⟩
  match j,hu with
  | 0,hu=>simp at hu;subst hu;simpa using h0
  | 1,hu=>simp at hu;subst hu;simpa using h1
  | j+2,hu=>
   have:=hc j u (by simpa using hu);rw [<-this];congr 2;omega
theorem QB (w:World):Calls Tryz.prog 241 #[O none 0 0,zd U 0] w fun e w'=>∃ v,e=zj v/\w'.ownsRow w.heap.size 39 2 v 0 []/\Ov w w':=by
 go_enter Tryz.func241,Tryz.ntmps241;go_wp2_with fail;go_ret;exact ⟨_,rfl,World.ownsRow_nil _ _ _ _,Below.refl _ _⟩
theorem QA (w:World):Calls Tryz.prog 241 #[O none 0 0,zd U 1] w fun e w'=>∃ v,e=zj v/\w'.ownsRow w.heap.size 39 2 v 0 []/\Ov w w':=by
 go_enter Tryz.func241,Tryz.ntmps241;go_wp2_with fail;go_ret;refine ⟨_,rfl,⟨rfl,Or.inr ⟨w.heap.size,grownCap w 1 0 39,_,rfl,Nat.le_refl _,heap_alloc_new w _,Nat.zero_le _,grownCap_le_maxLen _ _ _ _ (by decide),?_,rfl⟩⟩,(bA w _).drew⟩;have:=grownCap_ge w 1 0 39;simp [Builtin.zeroCells];unfold grownCap at this ⊢;omega
theorem Qz (w:World):Calls Tryz.prog 241 #[O none 0 0,zd U 2] w fun e w'=>∃ v,e=zj v/\w'.ownsRow w.heap.size 39 2 v 0 []/\Ov w w':=by
 go_enter Tryz.func241,Tryz.ntmps241;go_wp2_with fail;go_ret;refine ⟨_,rfl,⟨rfl,Or.inr ⟨w.heap.size,grownCap w 2 0 39,_,rfl,Nat.le_refl _,heap_alloc_new w _,Nat.zero_le _,grownCap_le_maxLen _ _ _ _ (by decide),?_,rfl⟩⟩,(bA w _).drew⟩;have:=grownCap_ge w 2 0 39;simp [Builtin.zeroCells];unfold grownCap at this ⊢;omega
theorem Qy (w:World):Calls Tryz.prog 241 #[O none 0 0,zd U 3] w fun e w'=>∃ v,e=zj v/\w'.ownsRow w.heap.size 39 2 v 0 []/\Ov w w':=by
 go_enter Tryz.func241,Tryz.ntmps241;go_wp2_with fail;go_ret;refine ⟨_,rfl,⟨rfl,Or.inr ⟨w.heap.size,grownCap w 3 0 39,_,rfl,Nat.le_refl _,heap_alloc_new w _,Nat.zero_le _,grownCap_le_maxLen _ _ _ _ (by decide),?_,rfl⟩⟩,(bA w _).drew⟩;have:=grownCap_ge w 3 0 39;simp [Builtin.zeroCells];unfold grownCap at this ⊢;omega
theorem Qx (w:World):Calls Tryz.prog 241 #[O none 0 0,zd U 4] w fun e w'=>∃ v,e=zj v/\w'.ownsRow w.heap.size 39 2 v 0 []/\Ov w w':=by
 go_enter Tryz.func241,Tryz.ntmps241;go_wp2_with fail;go_ret;refine ⟨_,rfl,⟨rfl,Or.inr ⟨w.heap.size,grownCap w 4 0 39,_,rfl,Nat.le_refl _,heap_alloc_new w _,Nat.zero_le _,grownCap_le_maxLen _ _ _ _ (by decide),?_,rfl⟩⟩,(bA w _).drew⟩;have:=grownCap_ge w 4 0 39;simp [Builtin.zeroCells];unfold grownCap at this ⊢;omega
theorem Qw (w:World):Calls Tryz.prog 241 #[O none 0 0,zd U 5] w fun e w'=>∃ v,e=zj v/\w'.ownsRow w.heap.size 39 2 v 0 []/\Ov w w':=by
 go_enter Tryz.func241,Tryz.ntmps241;go_wp2_with fail;go_ret;refine ⟨_,rfl,⟨rfl,Or.inr ⟨w.heap.size,grownCap w 5 0 39,_,rfl,Nat.le_refl _,heap_alloc_new w _,Nat.zero_le _,grownCap_le_maxLen _ _ _ _ (by decide),?_,rfl⟩⟩,(bA w _).drew⟩;have:=grownCap_ge w 5 0 39;simp [Builtin.zeroCells];unfold grownCap at this ⊢;omega
theorem Qv (w:World):Calls Tryz.prog 241 #[O none 0 0,zd U 6] w fun e w'=>∃ v,e=zj v/\w'.ownsRow w.heap.size 39 2 v 0 []/\Ov w w':=by
 go_enter Tryz.func241,Tryz.ntmps241;go_wp2_with fail;go_ret;refine ⟨_,rfl,⟨rfl,Or.inr ⟨w.heap.size,grownCap w 6 0 39,_,rfl,Nat.le_refl _,heap_alloc_new w _,Nat.zero_le _,grownCap_le_maxLen _ _ _ _ (by decide),?_,rfl⟩⟩,(bA w _).drew⟩;have:=grownCap_ge w 6 0 39;simp [Builtin.zeroCells];unfold grownCap at this ⊢;omega
theorem Qu (w:World):Calls Tryz.prog 241 #[O none 0 0,zd U 7] w fun e w'=>∃ v,e=zj v/\w'.ownsRow w.heap.size 39 2 v 0 []/\Ov w w':=by
 go_enter Tryz.func241,Tryz.ntmps241;go_wp2_with fail;go_ret;refine ⟨_,rfl,⟨rfl,Or.inr ⟨w.heap.size,grownCap w 7 0 39,_,rfl,Nat.le_refl _,heap_alloc_new w _,Nat.zero_le _,grownCap_le_maxLen _ _ _ _ (by decide),?_,rfl⟩⟩,(bA w _).drew⟩;have:=grownCap_ge w 7 0 39;simp [Builtin.zeroCells];unfold grownCap at this ⊢;omega
theorem Qt (w:World):Calls Tryz.prog 241 #[O none 0 0,zd U 8] w fun e w'=>∃ v,e=zj v/\w'.ownsRow w.heap.size 39 2 v 0 []/\Ov w w':=by
 go_enter Tryz.func241,Tryz.ntmps241;go_wp2_with fail;go_ret;refine ⟨_,rfl,⟨rfl,Or.inr ⟨w.heap.size,grownCap w 8 0 39,_,rfl,Nat.le_refl _,heap_alloc_new w _,Nat.zero_le _,grownCap_le_maxLen _ _ _ _ (by decide),?_,rfl⟩⟩,(bA w _).drew⟩;have:=grownCap_ge w 8 0 39;simp [Builtin.zeroCells];unfold grownCap at this ⊢;omega
theorem Qs (w:World):Calls Tryz.prog 241 #[O none 0 0,zd U 9] w fun e w'=>∃ v,e=zj v/\w'.ownsRow w.heap.size 39 2 v 0 []/\Ov w w':=by
 go_enter Tryz.func241,Tryz.ntmps241;go_wp2_with fail;go_ret;refine ⟨_,rfl,⟨rfl,Or.inr ⟨w.heap.size,grownCap w 9 0 39,_,rfl,Nat.le_refl _,heap_alloc_new w _,Nat.zero_le _,grownCap_le_maxLen _ _ _ _ (by decide),?_,rfl⟩⟩,(bA w _).drew⟩;have:=grownCap_ge w 9 0 39;simp [Builtin.zeroCells];unfold grownCap at this ⊢;omega
theorem Py (w:World):Calls Tryz.prog 241 #[O none 0 0,zd U 10] w fun e w'=>∃ v,e=zj v/\w'.ownsRow w.heap.size 39 2 v 0 []/\Ov w w':=by
 go_enter Tryz.func241,Tryz.ntmps241;go_wp2_with fail;go_ret;refine ⟨_,rfl,⟨rfl,Or.inr ⟨w.heap.size,grownCap w 10 0 39,_,rfl,Nat.le_refl _,heap_alloc_new w _,Nat.zero_le _,grownCap_le_maxLen _ _ _ _ (by decide),?_,rfl⟩⟩,(bA w _).drew⟩;have:=grownCap_ge w 10 0 39;simp [Builtin.zeroCells];unfold grownCap at this ⊢;omega
theorem SA (n:Nat) (hn:n<=10) (w:World):Calls Tryz.prog 241 #[O none 0 0,zd U n] w fun e w'=>∃ v,e=zj v/\w'.ownsRow w.heap.size 39 2 v 0 []/\Ov w w':=by
 match n,hn with
 | 0,_=>exact QB w
 | 1,_=>exact QA w
 | 2,_=>exact Qz w
 | 3,_=>exact Qy w
 | 4,_=>exact Qx w
 | 5,_=>exact Qw w
 | 6,_=>exact Qv w
 | 7,_=>exact Qu w
 | 8,_=>exact Qt w
 | 9,_=>exact Qs w
 | 10,_=>exact Py w
theorem AW.src2 {w:World} {ad:Addr} {n cap:Nat} {ls:List Lab} (h:AW w (O (some ad) n cap) ls):∃ xs,Bu w ls xs/\∀ j u,xs[j]? = some u->w.cell? (ad.add j)=some u:=by
 obtain ⟨-,E,q,t,y⟩:=h;injection t with A C B;rcases hl:ls with _ | ⟨a,l⟩
 ·exact ⟨[],rfl,fun j u k=>by simp at k⟩
 ·obtain ⟨b,off,f,p⟩:=y (by rw [hl];simp)
  rw [<-A] at f;have e:=Option.some.inj f;subst e;obtain ⟨xs,s,g⟩:=Hl (w:=w) (b:=b) (off:=off) ls off (fun i hi=>p i hi);refine ⟨xs,hl ▸ s,fun j u k=>?_⟩;rw [Addr.add_lit];exact g j u k
theorem Mi (g:Nat) (ya yn yc oa on oc) (ls ms) (w:World) (hg:Ad [O ya yn yc,O oa on oc] w g) (h1:AW w (O ya yn yc) ls) (h2:AW w (O oa on oc) ms) (hy:yn<=5) (ho:on<=5) (hyc:ya=none->yc=0) (hoc:oa=none->oc=0) :
  Calls Tryz.prog 216 #[O (some ⟨g,0,none⟩) 2 2] w fun e w'=>∃ v xs,e=zj v/\w'.ownsRow w.heap.size 39 2 v (ls++ms).length xs/\Bu w' (ls++ms) xs/\Ov w w':=by
 obtain ⟨i0,hi,W,V,S⟩:=info_parts Tryz.infoL;have K1:=Aa (SA (yn+on) (by omega) w);have HG:=Aa hg;have H1:=Aa h1;have H2:=Aa h2;have Z:yn=ls.length:=by obtain ⟨-,a,c,L,-⟩:=h1;injection L
 have aa:on=ms.length:=by obtain ⟨-,a,c,L,-⟩:=h2;injection L
 have I:=Aa Z;have Q:=Aa aa;clear hg h1 h2 Z aa;go_enter Tryz.func216,Tryz.ntmps216;go_wp2_with fail;go_loopw [3,11] (fun s i wr=>∃ j:Int,0<=j/\j<=2/\i=zd U j/\s=zd U (if j=0 then 0 else if j=1 then (yn:Int) else (yn:Int)+on)/\wr=w) (fun _ i _=>2 - (intOf i).toNat)
 case atStart=>exact ⟨0,by omega,by omega,rfl,rfl,rfl⟩
 case round=>
  obtain ⟨j,aj,hj,rfl,rfl,hw⟩:=hrel;have ag:=hw.symm;subst ag;clear hw;rcases (by omega:j=0\/j=1\/j=2) with rfl | rfl | rfl
  ·have q:=HG.o 0 _ rfl
   rw [if_pos rfl];go_wp2_with fail;exact ⟨⟨1,by omega,by omega,by first | rfl | go_num,by first | rfl | simp,by first | rfl | trivial⟩,by simp [intOf]⟩
  ·have q:=HG.o 1 _ rfl
   rw [if_neg (by omega),if_pos rfl];go_wp2_with fail;exact ⟨⟨2,by omega,by omega,by first | rfl | go_num,by first | rfl | simp,by first | rfl | trivial⟩,by simp [intOf]⟩
  ·rw [if_neg (by omega),if_neg (by omega)]
   have P:Hx (Calls Tryz.prog 241 #[O none 0 0,zd U ((yn:Int)+on)] w fun e w'=>∃ v,e=zj v/\w'.ownsRow w.heap.size 39 2 v 0 []/\Ov w w'):=by
    have:=K1.o;rw [Int.natCast_add] at this;exact this
   obtain ⟨T,hT⟩:=nm ((yn:Int)+on);rw [<-hT] at P ⊢;have az:0<=T:=by omega
   have ay:T<=10:=by omega
   clear hT;go_wp2_with fail;refine (P.o).mono ?_;rintro e w1 ⟨v,rfl,f,ab⟩;clear K1 P;obtain ⟨va,vn,vc,ah⟩:∃ a n c,v=O a n c:=by
    rcases f.2 with ⟨h,_⟩ | ⟨g,cap,a3,h,_⟩
    ·exact ⟨_,_,_,h⟩
    ·exact ⟨_,_,_,h⟩
   subst ah;go_wp2_with fail;go_loopw [6,27] (fun nv i wq=>∃ (j:Int) (xs:List Value),0<=j/\j<=2/\i=zd U j/\wq.ownsRow w.heap.size 39 2 nv (if j=0 then [] else if j=1 then ls else ls++ms).length xs/\Bu w (if j=0 then [] else if j=1 then ls else ls++ms) xs/\Ov w wq) (fun _ i _=>2 - (intOf i).toNat)
   case atStart=>exact ⟨0,[],by omega,by omega,rfl,f,rfl,ab⟩
   case round=>
    clear f ab;obtain ⟨j,xs,aj,hj,rfl,f,k,y⟩:=hrel;rcases (by omega:j=0\/j=1\/j=2) with rfl | rfl | rfl
    ·rw [if_pos rfl] at f k
     have q:=HG.o.over y 0 _ rfl;have C:w.heap.size<=wr.heap.size:=y.size
     cases ya with
     | none=>
      have N:=hyc rfl;have t:ls=[]:=by
       obtain ⟨-,a0,c0,L,M⟩:=H1.o;injection L with e1 e2 e3;rcases h:ls with _ | ⟨x,r⟩
       ·rfl
       ·obtain ⟨b,off,G,-⟩:=M (by rw [h];simp)
        rw [<-e1] at G;cases G
      have J:yn=0:=by rw [I.o,t];rfl
      subst N J;go_wp2_with (at_builtin;refine wpList_append_own_none rfl _ _ 26 rfl w.heap.size 39 i0 2 Tryz.underlying26 hi _ _ _ rfl f rfl ?_);go_wp2_with fail;refine ⟨⟨1,xs,by omega,by omega,by first | rfl | go_num,?_,?_,y⟩,by simp [intOf]⟩
      ·rw [if_neg (by omega),if_pos rfl]
       rw [t];simpa using f
      ·rw [if_neg (by omega),if_pos rfl]
       rw [t];simpa using k
     | some ad=>
      obtain ⟨ys,l,B⟩:=H1.o.src2;have A:=fun j u hu=>Ab y _ _ (B j u hu);have ak:([]:List Lab).length+yn<=10:=by simp;omega
      go_wp2_with (at_builtin;refine wpList_append_own _ rfl _ _ 26 rfl w.heap.size 39 i0 (zh #[O none 0 0,O none 0 0]) 2 48 Tryz.underlying26 hi W V S rfl (by decide) _ _ _ rfl f ad yn yc ys rfl (by rw [l.length,I.o]) A l.one (by unfold maxLen;omega) (by omega) C ?_);intro v2 w3 p E _;have H:=B5 f E C;have R:=Aa p;have F:=(k.append l);go_wp2_with fail;refine ⟨⟨1,xs++ys,by omega,by omega,by first | rfl | go_num,?_,?_,y.trans H⟩,by simp [intOf]⟩
      ·rw [if_neg (by omega),if_pos rfl]
       have h3:=R.o;rw [I.o] at h3;simpa using h3
      ·rw [if_neg (by omega),if_pos rfl]
       simpa using F
    ·rw [if_neg (by omega),if_pos rfl] at f k
     have q:=HG.o.over y 1 _ rfl;have C:w.heap.size<=wr.heap.size:=y.size
     cases oa with
     | none=>
      have N:=hoc rfl;have t:ms=[]:=by
       obtain ⟨-,a0,c0,L,M⟩:=H2.o;injection L with e1 e2 e3;rcases h:ms with _ | ⟨x,r⟩
       ·rfl
       ·obtain ⟨b,off,G,-⟩:=M (by rw [h];simp)
        rw [<-e1] at G;cases G
      have J:on=0:=by rw [Q.o,t];rfl
      subst N J;go_wp2_with (at_builtin;refine wpList_append_own_none rfl _ _ 26 rfl w.heap.size 39 i0 2 Tryz.underlying26 hi _ _ _ rfl f rfl ?_);go_wp2_with fail;refine ⟨⟨2,xs,by omega,by omega,by first | rfl | go_num,?_,?_,y⟩,by simp [intOf]⟩
      ·rw [if_neg (by omega),if_neg (by omega)]
       rw [t];simpa using f
      ·rw [if_neg (by omega),if_neg (by omega)]
       rw [t];simpa using k
     | some ad=>
      obtain ⟨ys,l,B⟩:=H2.o.src2;have A:=fun j u hu=>Ab y _ _ (B j u hu);have ak:ls.length+on<=10:=by have:=I.o;omega
      go_wp2_with (at_builtin;refine wpList_append_own _ rfl _ _ 26 rfl w.heap.size 39 i0 (zh #[O none 0 0,O none 0 0]) 2 48 Tryz.underlying26 hi W V S rfl (by decide) _ _ _ rfl f ad on oc ys rfl (by rw [l.length,Q.o]) A l.one (by unfold maxLen;omega) (by omega) C ?_);intro v2 w3 p E _;have H:=B5 f E C;have R:=Aa p;have F:=(k.append l);go_wp2_with fail;refine ⟨⟨2,xs++ys,by omega,by omega,by first | rfl | go_num,?_,?_,y.trans H⟩,by simp [intOf]⟩
      ·rw [if_neg (by omega),if_neg (by omega)]
       have h3:=R.o;rw [Q.o] at h3;simpa using h3
      ·rw [if_neg (by omega),if_neg (by omega)]
       simpa using F
    ·rw [if_neg (by omega),if_neg (by omega)] at f k
     go_wp2_with fail;go_ret;exact ⟨_,xs,rfl,f,k.over y,y⟩
theorem LF {W:World} {B e:Nat} {v:Value} {n:Nat} {xs:List Value} (h:W.ownsRow B e 2 v n xs) (hn:0 < n):∃ g cap,v=O (some ⟨g,0,none⟩) n cap/\B<=g/\g < W.heap.size/\∀ j u,xs[j]? = some u->W.cell? ((⟨g,0,none⟩:Addr).add j)=some u:=by
 rcases h.2 with ⟨_,y⟩ | ⟨g,cap,p,i,k,f,t,s,q,l⟩
 ·omega
 ·refine ⟨g,cap,i,k,(Array.getElem?_eq_some_iff.1 f).1,fun j u b=>?_⟩
  rw [Addr.add_lit,Lib.cell_of_heap f];rw [<-l,List.getElem?_take] at b;split at b
  ·simpa using b
  ·cases b
def Fi (m:Int) (gs:List (Int × Int)) (ls:List Lab) (vs:List (Bool × Lab)):Prop:=
 (∀ b∈ls,Bb m gs b=0)/\(∀ v∈vs,Bb m gs v.2=0)/\∀ v∈vs,v.1=false->v.2.r=[]/\v.2.w=[]
theorem EE {α:Type} {P:α->Prop} {l:List α} {n:Nat} (h:n < l.length) (h1:∀ b∈l.take n,P b) (h2:P l[n]):∀ b∈l.take (n+1),P b:=fun b hb=>by
 rw [List.take_succ_eq_append_getElem h,List.mem_append,List.mem_singleton] at hb;rcases hb with hb | rfl
 ·exact h1 b hb
 ·exact h2
theorem EF {α:Type} {P:α->Prop} {l:List α} {n:Nat} (h:l.length<=n) (h1:∀ b∈l.take n,P b):∀ b∈l,P b:=by
 rw [List.take_of_length_le h] at h1;exact h1
theorem J8 {w:World} {a:Option Addr} {n c:Nat} {ps:List Pol} (h:AL w (O a n c) ps):n=ps.length:=by
 obtain ⟨e,cap,b,-⟩:=h;injection b
structure BD (K kf:Nat) (m:Int) (ga:Option Addr) (gn gc:Nat) (sa:Option Addr) (sn sc:Nat) (ya:Option Addr) (yn yc:Nat) (oa:Option Addr) (on oc:Nat) (va:Option Addr) (vn vc:Nat) (fa:Option Addr) (fn fc:Nat) (ba:Option Addr) (bn bc:Nat) (gs:List (Int × Int)) (sp:List Int) (ls ms:List Lab) (vs:List (Bool × Lab)) (fs:List FnD) (l:List D) (w:World):Prop where
 m64:Cu m
 grants:AA w (O ga gn gc) gs
 speak:AN w (O sa sn sc) sp
 speakL:sp.length<=9223372036854775807
 ins:AW w (O ya yn yc) ls
 outs:AW w (O oa on oc) ms
 vars:Bs w (O va vn vc) vs
 funcs:Bv w K kf (O fa fn fc) fs
 main:Bj w K kf (O ba bn bc) l
 insN:ya=none->yc=0
 outsN:oa=none->oc=0
theorem BD.over {K kf:Nat} {m:Int} {ga:Option Addr} {gn gc:Nat} {sa:Option Addr} {sn sc:Nat} {ya:Option Addr} {yn yc:Nat} {oa:Option Addr} {on oc:Nat} {va:Option Addr} {vn vc:Nat} {fa:Option Addr} {fn fc:Nat} {ba:Option Addr} {bn bc:Nat} {gs:List (Int × Int)} {sp:List Int} {ls ms:List Lab} {vs:List (Bool × Lab)} {fs:List FnD} {l:List D} {w w':World} (h:BD K kf m ga gn gc sa sn sc ya yn yc oa on oc va vn vc fa fn fc ba bn bc gs sp ls ms vs fs l w) (hb:Ov w w'):BD K kf m ga gn gc sa sn sc ya yn yc oa on oc va vn vc fa fn fc ba bn bc gs sp ls ms vs fs l w':=
 ⟨h.m64,Af h.grants hb,h.speak.over hb,h.speakL,h.ins.over hb,h.outs.over hb,h.vars.over hb,h.funcs.over hb,h.main.over hb,h.insN,h.outsN⟩
structure okP (K kf:Nat) (m:Int) (vn yn on:Nat) (gs:List (Int × Int)) (sp:List Int) (ls ms:List Lab) (vs:List (Bool × Lab)) (fs:List FnD) (l:List D):Prop where
 chk:AR m gs=0
 speak:∀ x∈sp,0<=x/\x < m
 labs:Fi m gs (ls++ms) vs
 outs:on<=5
 vars:vn<=16
 ins:yn<=5
 funcs:fs.length<=5
 many:A2 kf fs+AI kf l<=50
 body:∀ i (h:i < fs.length),okF K vn yn on (i:Int) fs kf fs[i]
 main:∀ s∈l,okS K vn yn on (fs.length:Int) fs kf s
theorem QO (v:Value) (w:World):(Instr.typeAssert (.iface 230 v) 20 230 false).run Tryz.prog w=.ok v w:=by
 simp [Instr.typeAssert,run_underlying Tryz.underlying230,go_sem,Result.andThen]
theorem Mn (B:Nat) (x y a e:Int) (older:List PanicEntry) (w:World) (hB:B+2<=w.heap.size)
  (c0:w.cell? ⟨B,0,none⟩=some (zd U x)) (c1:w.cell? ⟨B+1,0,none⟩=some (zd U y))
  (f0:w.frozen? ⟨B,0,none⟩=false) (f1:w.frozen? ⟨B+1,0,none⟩=false) :
  CallsD Tryz.prog 170 #[zi (some ⟨B,0,none⟩),zi (some ⟨B+1,0,none⟩)] (.panicking ({ v:=.iface 230 (zh #[zd U a,zd U e]),recovered:=false }::older)) w fun en u' w'=>
   en=zj (zk #[])/\u'=.panicking ({ v:=.iface 230 (zh #[zd U a,zd U e]),recovered:=true }::older) /\
   w'.cell? ⟨B,0,none⟩=some (zd U a)/\w'.cell? ⟨B+1,0,none⟩=some (zd U e)/\Below B w w':=by
 have h:=QO;refine callsD_of_wpS Tryz.func170 rfl fun i cs g=>?_;apply wpS_seq;apply wpS_region;simp [wpOpsS,go_sem,recoverD,g,Tryz.ntmps170,Exit.thenS];refine wpS_of_wp ?_
 change Code.wp Tryz.prog _ _ { tmps:=#[zi (some ⟨B,0,none⟩),zi (some ⟨B+1,0,none⟩),.iface 230 (zh #[zd U a,zd U e]),undef,.iface 230 (zh #[zd U a,zd U e]),undef,undef,undef,undef,undef,undef,undef,undef],defers:=[] } w
 go_wp2
 have f:B < w.heap.size:=by omega
 have b:B+1 < w.heap.size:=by omega
 go_region
 go_wp2
 refine ⟨rfl,_,by cases i;simp_all,zk #[],by simp [results,Tryz.results170],rfl,rfl,?_⟩;refine ⟨by simp [go_sem,f,c0],by simp [go_sem,b,c1],?_⟩;exact (((((Below.refl B w).setCell (by simp) _).setCell (by simp) _)).alloc (by simp [World.setCell];omega) _).drew
structure WC where
 n:Nat
 ga:Option Addr
 gn:Nat
 gc:Nat
 sa:Option Addr
 sn:Nat
 sc:Nat
 ya:Option Addr
 yn:Nat
 yc:Nat
 oa:Option Addr
 on:Nat
 oc:Nat
 va:Option Addr
 vn:Nat
 vc:Nat
 fa:Option Addr
 fn:Nat
 fc:Nat
 ba:Option Addr
 bn:Nat
 bc:Nat
 la:Option Addr
 ln:Nat
 lc:Nat
 ka:Option Addr
 kn:Nat
 kc:Nat
abbrev WC.v (c:WC):Value:=zh #[zd U (c.n:Int),O c.ga c.gn c.gc,O c.sa c.sn c.sc,O c.ya c.yn c.yc,O c.oa c.on c.oc,O c.va c.vn c.vc,O c.fa c.fn c.fc,O c.ba c.bn c.bc,O c.la c.ln c.lc,O c.ka c.kn c.kc]
abbrev WC.cs (c:WC):List Value:=[zd U (c.n:Int),O c.ga c.gn c.gc,O c.sa c.sn c.sc,O c.ya c.yn c.yc,O c.oa c.on c.oc,O c.va c.vn c.vc,O c.fa c.fn c.fc,O c.ba c.bn c.bc,O c.la c.ln c.lc,O c.ka c.kn c.kc]
structure FrW (X:World->Nat->Prop) (W W':World):Prop where
 os:W'.os=W.os
 tape:W'.tape=W.tape
 output:W'.output=W.output
 size:W.heap.size<=W'.heap.size
 block:∀ k,k < W.heap.size->¬ X W k->W'.heap[k]? = W.heap[k]?
 mov:∀ k,k < W.heap.size->X W' k->X W k
theorem FrW.trans {X:World->Nat->Prop} {A B C:World} (h:FrW X A B) (k:FrW X B C):FrW X A C:=
 ⟨k.os.trans h.os,k.tape.trans h.tape,k.output.trans h.output,Nat.le_trans h.size k.size,fun i hi hx=>(k.block i (Nat.lt_of_lt_of_le hi h.size) (fun hh=>hx (h.mov i hi hh))).trans (h.block i hi hx),fun i hi hx=>h.mov i hi (k.mov i (Nat.lt_of_lt_of_le hi h.size) hx)⟩
structure XOk (X:World->Nat->Prop):Prop where
 below:∀ W W',Ov W W'->∀ k,X W' k->X W k
theorem FrW.of_below {X:World->Nat->Prop} (hX:XOk X) {A B:World} (h:Ov A B):FrW X A B:=⟨h.os,h.tape,h.output,h.size,fun k hk _=>h.block k hk,fun k _ hx=>hX.below A B h k hx⟩
theorem FrW.refl {X:World->Nat->Prop} (A:World):FrW X A A:=⟨rfl,rfl,rfl,Nat.le_refl _,fun _ _ _=>rfl,fun _ _ h=>h⟩
theorem FrW.cell {X:World->Nat->Prop} {A B:World} (h:FrW X A B) {b j:Nat} {u:Value} (hc:A.cell? ⟨b,j,none⟩=some u) (hx:¬ X A b):B.cell? ⟨b,j,none⟩=some u:=
 (World.cell?_of_block (h.block b (bL hc) hx)).trans hc
theorem FrW.row {X:World->Nat->Prop} {A B:World} (h:FrW X A B) {b:Nat} {cs:List Value} (hc:Ad cs A b) (hx:¬ X A b):Ad cs B b:=fun j u hu=>h.cell (hc j u hu) hx
def SW (P:Nat->Prop) (v:Value):Prop:=∃ x y,v=zh #[x,y]/\(∀ a n c,x=O (some a) n c->¬ P a.block)/\∀ a n c,y=O (some a) n c->¬ P a.block
structure Aw (n:Nat) (X:World->Nat->Prop) (W:World) (v:Value) (l:Lev):Prop where
 at_:A3 W v l
 len:l.len n
 off:SW (X W) v
theorem DV {X:World->Nat->Prop} {A B:World} {v:Value} {l:List Bool} (h:AJ A v l) (hf:FrW X A B) (hx:∀ a n c,v=O (some a) n c->¬ X A a.block):AJ B v l:=by
 obtain ⟨p,cap,k,e⟩:=h;refine ⟨p,cap,k,fun g=>?_⟩;obtain ⟨b,off,f,e⟩:=e g;refine ⟨b,off,f,fun i hi=>hf.cell (e i hi) ?_⟩;exact hx ⟨b,off,none⟩ l.length cap (by rw [k,f])
theorem Aw.keep {n:Nat} {X:World->Nat->Prop} {A B:World} {v:Value} {l:Lev} (h1:1<=n) (h:Aw n X A v l) (hf:FrW X A B):Aw n X B v l:=by
 obtain ⟨x,y,i,u,t⟩:=h.off;obtain ⟨G,F,f,C,k⟩:=h.at_;rw [i] at f;simp at f;obtain ⟨rfl,rfl⟩:=f;have lt:∀ (v:Value) (l:List Bool),AJ A v l->l.length=n->∀ a m c,v=O (some a) m c->a.block < A.heap.size:=by
  intro v l E hl a m c e;obtain ⟨H,cap,i,g⟩:=E;obtain ⟨b,off,q,g⟩:=g (by rintro rfl;simp at hl;omega);rw [i,q] at e;injection e with s;injection s with s;rw [<-s];exact bL (g 0 (by omega))
 refine ⟨⟨x,y,i,DV C hf u,DV k hf t⟩,h.len,x,y,i,fun a m c e p=>u a m c e (hf.mov _ (lt _ _ C h.len.1 a m c e) p),fun a m c e p=>t a m c e (hf.mov _ (lt _ _ k h.len.2 a m c e) p)⟩
theorem Aw.over {n:Nat} {X:World->Nat->Prop} (hX:XOk X) {A B:World} {v:Value} {l:Lev} (h:Aw n X A v l) (hb:Ov A B):Aw n X B v l:=by
 obtain ⟨x,y,i,g,f⟩:=h.off;exact ⟨AK h.at_ hb,h.len,x,y,i,fun a m c e b=>g a m c e (hX.below A B hb _ b),fun a m c e b=>f a m c e (hX.below A B hb _ b)⟩
theorem B8 {X:World->Nat->Prop} (hX:XOk X) {A B:World} (hb:Ov A B) (hlt:∀ k,X A k->k < A.heap.size) {v:Value} (h:Oa A.heap.size v):SW (X B) v:=by
 obtain ⟨x,y,i,g,f⟩:=h;refine ⟨x,y,i,fun a m c e b=>?_,fun a m c e b=>?_⟩
 ·have:=g a m c e
  have:=hlt _ (hX.below A B hb _ b);omega
 ·have:=f a m c e
  have:=hlt _ (hX.below A B hb _ b);omega
def A9 (n:Nat) (X:World->Nat->Prop) (w:World) (v:Value) (ls:List Lev):Prop:=
 ∃ ao cap,v=O ao ls.length cap/\(ls≠[]->∃ b off,ao=some ⟨b,off,none⟩/\∀ i (h:i < ls.length),∃ rv wv,w.cell? ⟨b,off+i*2,none⟩=some rv/\w.cell? ⟨b,off+i*2+1,none⟩=some wv/\Aw n X w (zh #[rv,wv]) ls[i])
theorem A9.levs {n:Nat} {X:World->Nat->Prop} {w:World} {v:Value} {ls:List Lev} (h:A9 n X w v ls):BW w v ls:=by
 obtain ⟨t,cap,l,e⟩:=h;refine ⟨t,cap,l,fun f=>?_⟩;obtain ⟨b,off,g,e⟩:=e f;refine ⟨b,off,g,fun i hi=>?_⟩;obtain ⟨rv,k,s,q,p⟩:=e i hi;exact ⟨rv,k,s,q,p.at_⟩
theorem A9.len {n:Nat} {X:World->Nat->Prop} {w:World} {v:Value} {ls:List Lev} (h:A9 n X w v ls):∀ x∈ls,x.len n:=by
 intro x f;obtain ⟨i,hi,rfl⟩:=List.getElem_of_mem f;obtain ⟨q,cap,p,e⟩:=h;obtain ⟨b,off,g,e⟩:=e (by rintro rfl;simp at hi);obtain ⟨rv,l,-,-,k⟩:=e i hi;exact k.len
theorem A9.over {n:Nat} {X:World->Nat->Prop} (hX:XOk X) {w w':World} {v:Value} {ls:List Lev} (h:A9 n X w v ls) (hb:Ov w w'):A9 n X w' v ls:=by
 obtain ⟨t,cap,l,e⟩:=h;refine ⟨t,cap,l,fun f=>?_⟩;obtain ⟨b,off,g,e⟩:=e f;refine ⟨b,off,g,fun i hi=>?_⟩;obtain ⟨rv,k,s,q,p⟩:=e i hi;exact ⟨rv,k,Ab hb _ _ s,Ab hb _ _ q,p.over hX hb⟩
theorem Df (c:WC) (h1:1<=c.n) (h6:c.n<=6) (gs Ls) (X:World->Nat->Prop) (hX:XOk X) (v:Value) (l) (K:Nat) (cs:List Value) (d) (w:World)
  (hg:AA w (O c.ga c.gn c.gc) gs) (hE:AR c.n gs=0) (hL:A9 c.n X w (O c.la c.ln c.lc) Ls) (hl:Aw c.n X w v l) (hlm:Ls.length<=16) (hlt:∀ k,X w k->k < w.heap.size)
  (hx:RX w K cs d) (hv:∀ x∈AG K d,0<=x/\x < (Ls.length:Int)) :
  Calls Tryz.prog 103 #[c.v,v,.agg cs.toArray] w fun e w'=>
   (∃ p1 q1 r1 p2 q2 r2,e=zj (zh #[O p1 q1 r1,O p2 q2 r2])/\Aw c.n X w' (zh #[O p1 q1 r1,O p2 q2 r2]) (A6 c.n Ls l (AG K d)))/\Ov w w':=by
 obtain ⟨ys,h⟩:=OJ Ls.length _ hv;obtain ⟨q,p,rfl⟩:=hx.form;obtain ⟨x,y,rfl,-⟩:=hl.at_;obtain ⟨p1,q1,r1,p2,q2,r2,rfl,rfl⟩:=AX hl.at_;refine (RJ c.n h1 h6 c.ga c.gn c.gc c.sa c.sn c.sc c.ya c.yn c.yc c.oa c.on c.oc c.va c.vn c.vc c.fa c.fn c.fc c.ba c.bn c.bc c.la c.ln c.lc c.ka c.kn c.kc gs Ls p1 q1 r1 p2 q2 r2 l K _ _ q _ p d ys w hg hE hL.levs hL.len hl.at_ hl.len (by omega) hx h).mono ?_;rintro e w' ⟨⟨v,rfl,f,hd⟩,i⟩;refine ⟨?_,i⟩;have b:=f;have s:SW (X w') v:=by
  rcases hd with rfl | hd
  ·exact (hl.over hX i).off
  ·exact B8 hX i hlt hd
 have g:=GV (L:=Ls) (AG K d) l hl.len;obtain ⟨x,y,rfl,-⟩:=f;obtain ⟨E,C,B,A,u,t,rfl,rfl⟩:=AX b;exact ⟨_,_,_,_,_,_,rfl,b,g,s⟩
end Go.Proofs.YtfffpjkcfnekaaaGreat.Ex
