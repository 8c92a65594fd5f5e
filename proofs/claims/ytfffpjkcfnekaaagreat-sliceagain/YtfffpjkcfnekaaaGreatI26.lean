/- Is a command needed? -/
import Derived.Test.YtfffpjkcfnekaaaGreatI17
set_option linter.unusedVariables false
set_option maxHeartbeats 8000000
set_option maxRecDepth 100000
namespace Go.Proofs.YtfffpjkcfnekaaaGreat.Ex
open Go.RowKit
open Go.Value renaming slice -> O, int -> zd, bool -> zg, agg -> zh, pointer -> zj, tuple -> zm
open Go.IntKind renaming i64 -> U
open Go.Obj renaming cells -> ze
open Go.Ending renaming returned -> zk
section
variable {w0:World} {pc:List Value} {ch:Int} {cv fv:Value} {bn bv bi bs:Nat} {st:NS} {W W':World}
theorem Mw (h:NI w0 pc ch cv fv bn bv bi bs st W) (hl:st.vs.length<=1000) (bx:Nat) (hx:W.cell? ⟨bx,0,none⟩=some (zj (some ⟨bn,0,none⟩))) (v:Int) (hv:0<=v/\v < (st.vs.length:Int)) :
  Calls Tryz.prog 232 #[zd U v,zj (some ⟨bx,0,none⟩)] W fun e W'=>e=zk (zg (st.vs.getD v.toNat false))/\Ov W W':=by
 obtain ⟨j,rfl⟩:∃ j:Nat,v=(j:Int):=⟨v.toNat,by omega⟩;have f:j < st.vs.length:=by omega
 have b:(j:Int) < (st.vs.length:Int):=by omega
 have c11:=h.cells.2.2.2.1;have g:=CC h.vs f;rw [show (j:Int).toNat=j from rfl];obtain ⟨r,c⟩:=nm (st.vs.getD j false);obtain ⟨n,d⟩:=nm st.vs.length;rw [<-c] at g ⊢;rw [<-d] at c11 f b hl;clear c d h hv;go_enter Tryz.func232,Tryz.ntmps232;go_wp2_with fail;go_ret;exact ⟨rfl,Below.refl _ _⟩
theorem GC {nd:List Bool} {a b:Nat} (h:b<=nd.length):((nd.take b).drop a).length=b - a:=by
 rw [List.length_drop,List.length_take,Nat.min_eq_left h]
theorem R9 {nd:List Bool} {a b:Nat} (hr:Ad (nd.map Value.bool) W bs) (h:b<=nd.length):Sg W bs a ((nd.take b).drop a).length ((nd.take b).drop a):=⟨rfl,fun i hi=>by
 rw [GC h] at hi;rw [List.getElem_drop,List.getElem_take];refine hr (a+i) _ ?_;rw [List.getElem?_map,List.getElem?_eq_getElem (by omega)];rfl⟩
theorem I9 (h:NI w0 pc ch cv fv bn bv bi bs st W) (a b:Nat) (hab:a<=b) (hb:b<=st.nd.length) (hl:st.nd.length<=1000) :
  Calls Tryz.prog 233 #[zj (some ⟨bn,0,none⟩),zd U (a:Int),zd U (b:Int)] W fun e W'=>e=zk (zg (De st.nd a b))/\Ov W W':=by
 have p:=h.cells.2.2.2.2.2.1;have i:=Aa fun (A:Option Addr) (c:Nat) (l:(st.nd.take b).drop a≠[]->A=some ⟨bs,a,none⟩)=>Nu A c ((st.nd.take b).drop a) W (by rw [GC hb];omega) (fun f=>⟨bs,a,l f,R9 h.nd hb⟩);have t:Hx (((st.nd.take b).drop a).any id=De st.nd a b):=rfl;have k:Hx (a=b->(st.nd.take b).drop a=[]):=fun e=>List.eq_nil_of_length_eq_zero (by rw [GC hb];omega);rw [GC hb] at i;obtain ⟨q,u⟩:=nm (((st.nd.take b).drop a).any id);rw [<-u] at i t;obtain ⟨L,z⟩:=nm ((st.nd.take b).drop a);rw [<-z] at i k;obtain ⟨n,y⟩:=nm st.nd.length;rw [<-y] at p hb hl;rw [<-t.o];clear u y h t z;have E:(0:Int)<=(a:Int):=by omega
 have C:(a:Int)<=(b:Int):=by omega
 have B:(b:Int)<=(n:Int):=by omega
 by_cases hna:n=a
 ·have d:a=b:=by omega
  have s:=Aa (k.o d);clear k;subst hna;obtain rfl:b=n:=by omega
  rw [Nat.sub_self] at i;clear hab hb E C B d hl;go_enter Tryz.func233,Tryz.ntmps233;go_wp2_with fail;refine (i.o _ _ (fun f=>absurd s.o f)).mono ?_;rintro e F ⟨rfl,g⟩;go_wp2_with fail;go_ret;exact ⟨rfl,g⟩
 ·clear hab hb k hl
  go_enter Tryz.func233,Tryz.ntmps233;go_wp2_with fail;refine (i.o _ _ (fun _=>rfl)).mono ?_;rintro e F ⟨rfl,g⟩;go_wp2_with fail;go_ret;exact ⟨rfl,g⟩
end
theorem Ho {k:Nat} {fs:List FnD} {j:Nat} (hj:j < fs.length):Ap k (fs.take j)<=Ap k (fs.take (j+1))/\Ap k (fs.take (j+1))<=Ap k fs:=by
 refine ⟨by rw [B4 hj];omega,?_⟩;have b:Ap k fs=Ap k (fs.take (j+1))+Ap k (fs.drop (j+1)):=by
  unfold Ap;rw [<-List.sum_append,<-List.map_append,List.take_append_drop]
 omega
theorem SM {w0:World} {pc:List Value} {ch:Int} {cv fv:Value} {bn bv bi bs:Nat} {st:NS} {W:World} (h:NI w0 pc ch cv fv bn bv bi bs st W) (hlv:st.vs.length<=1000) (hlc:st.cs.length<=1000) (hln:st.nd.length<=1000) (x e:Nat) (ek en:Int) (xa xl xc aa al ac ta tl tc ea el ec) (ot:Int) (jv:Nat) (hv:jv < st.vs.length) :
  Calls Tryz.prog 196 #[zj (some ⟨bn,0,none⟩),zd U (x:Int),zh #[zd U 1,zd U (jv:Int),zd U ot,zd U ek,zd U en,O xa xl xc,O aa al ac,O ta tl tc,O ea el ec,zd U (e:Int)]] W fun r W'=>r=zk (zg (st.vs.getD jv false))/\Ov W W':=by
 have f:Ov W ((W.alloc (ze #[zj (some ⟨bn,0,none⟩)] 157)).alloc (ze #[zd U 1,zd U (jv:Int),zd U ot,zd U ek,zd U en,O xa xl xc,O aa al ac,O ta tl tc,O ea el ec,zd U (e:Int)] 249)):=(bA W _).alloc (by simp) _;obtain ⟨V,c⟩:=nm ((W.alloc (ze #[zj (some ⟨bn,0,none⟩)] 157)).alloc (ze #[zd U 1,zd U (jv:Int),zd U ot,zd U ek,zd U en,O xa xl xc,O aa al ac,O ta tl tc,O ea el ec,zd U (e:Int)] 249));have G:V.cell? ⟨W.heap.size,0,none⟩=some (zj (some ⟨bn,0,none⟩)):=by rw [c];simp [go_sem]
 have I:V.cell? ⟨W.heap.size+1,0,none⟩=some (zd U 1):=by rw [c];simp [go_sem]
 have H:V.cell? ⟨W.heap.size+1,1,none⟩=some (zd U (jv:Int)):=by rw [c];simp [go_sem]
 have B:V.cell? ⟨W.heap.size+1,2,none⟩=some (zd U ot):=by rw [c];simp [go_sem]
 have A:V.cell? ⟨W.heap.size+1,9,none⟩=some (zd U (e:Int)):=by rw [c];simp [go_sem]
 rw [<-c] at f;have q:=h.over f;obtain ⟨z,y,p,l,k,i,g⟩:=q.cells;have E:=CC q.vs hv;obtain ⟨r,s⟩:=nm (st.vs.getD jv false);obtain ⟨u,d⟩:=nm st.vs.length;rw [<-s] at E ⊢;rw [<-d] at l hv hlv;have C:(jv:Int) < (u:Int):=by omega
 have t:=Aa f;clear s d q h f z y p k i g A B hlc hln;go_enter Tryz.func196,Tryz.ntmps196;go_wp2_with fail;rw [<-c];clear c;refine gS (fun F=>Below V.heap.size V F) (Below.refl _ _).drew fun b=>?_;generalize V.drew=W at b ⊢;refine kO 0 ?_;refine kO 1 ?_;refine kO 2 ?_;refine kO 3 ?_;refine kO 4 ?_;refine kO 5 ?_;refine kO 6 ?_;refine kO 7 ?_;refine kO 8 ?_;refine kO 9 ?_;refine gE ?_;go_wp2_with fail;go_ret;exact ⟨by rfl,t.o.trans (b.mono t.o.size)⟩
theorem SI {w0:World} {pc:List Value} {ch:Int} {cv fv:Value} {bn bv bi bs:Nat} {st:NS} {W:World} (h:NI w0 pc ch cv fv bn bv bi bs st W) (hlv:st.vs.length<=1000) (hlc:st.cs.length<=1000) (hln:st.nd.length<=1000) (x e:Nat) (ek en:Int) (xa xl xc aa al ac ta tl tc ea el ec) (ot:Int) (jv:Nat) (hv:jv < st.vs.length) :
  Calls Tryz.prog 196 #[zj (some ⟨bn,0,none⟩),zd U (x:Int),zh #[zd U 5,zd U (jv:Int),zd U ot,zd U ek,zd U en,O xa xl xc,O aa al ac,O ta tl tc,O ea el ec,zd U (e:Int)]] W fun r W'=>r=zk (zg (st.vs.getD jv false))/\Ov W W':=by
 have f:Ov W ((W.alloc (ze #[zj (some ⟨bn,0,none⟩)] 157)).alloc (ze #[zd U 5,zd U (jv:Int),zd U ot,zd U ek,zd U en,O xa xl xc,O aa al ac,O ta tl tc,O ea el ec,zd U (e:Int)] 249)):=(bA W _).alloc (by simp) _;obtain ⟨V,c⟩:=nm ((W.alloc (ze #[zj (some ⟨bn,0,none⟩)] 157)).alloc (ze #[zd U 5,zd U (jv:Int),zd U ot,zd U ek,zd U en,O xa xl xc,O aa al ac,O ta tl tc,O ea el ec,zd U (e:Int)] 249));have G:V.cell? ⟨W.heap.size,0,none⟩=some (zj (some ⟨bn,0,none⟩)):=by rw [c];simp [go_sem]
 have I:V.cell? ⟨W.heap.size+1,0,none⟩=some (zd U 5):=by rw [c];simp [go_sem]
 have H:V.cell? ⟨W.heap.size+1,1,none⟩=some (zd U (jv:Int)):=by rw [c];simp [go_sem]
 have B:V.cell? ⟨W.heap.size+1,2,none⟩=some (zd U ot):=by rw [c];simp [go_sem]
 have A:V.cell? ⟨W.heap.size+1,9,none⟩=some (zd U (e:Int)):=by rw [c];simp [go_sem]
 rw [<-c] at f;have q:=h.over f;obtain ⟨z,y,p,l,k,i,g⟩:=q.cells;have E:=CC q.vs hv;obtain ⟨r,s⟩:=nm (st.vs.getD jv false);obtain ⟨u,d⟩:=nm st.vs.length;rw [<-s] at E ⊢;rw [<-d] at l hv hlv;have C:(jv:Int) < (u:Int):=by omega
 have t:=Aa f;clear s d q h f z y p k i g A B hlc hln;go_enter Tryz.func196,Tryz.ntmps196;go_wp2_with fail;rw [<-c];clear c;refine gS (fun F=>Below V.heap.size V F) (Below.refl _ _).drew fun b=>?_;generalize V.drew=W at b ⊢;refine kO 0 ?_;refine kO 1 ?_;refine kO 2 ?_;refine kO 3 ?_;refine kO 4 ?_;refine kO 5 ?_;refine kO 6 ?_;refine kO 7 ?_;refine kO 8 ?_;refine kO 9 ?_;refine gE ?_;go_wp2_with fail;go_ret;exact ⟨by rfl,t.o.trans (b.mono t.o.size)⟩
theorem SH {w0:World} {pc:List Value} {ch:Int} {cv fv:Value} {bn bv bi bs:Nat} {st:NS} {W:World} (h:NI w0 pc ch cv fv bn bv bi bs st W) (hlv:st.vs.length<=1000) (hlc:st.cs.length<=1000) (hln:st.nd.length<=1000) (x e:Nat) (ek en:Int) (xa xl xc aa al ac ta tl tc ea el ec) (ot:Int) (jv:Nat) (hv:jv < st.vs.length) :
  Calls Tryz.prog 196 #[zj (some ⟨bn,0,none⟩),zd U (x:Int),zh #[zd U 6,zd U (jv:Int),zd U ot,zd U ek,zd U en,O xa xl xc,O aa al ac,O ta tl tc,O ea el ec,zd U (e:Int)]] W fun r W'=>r=zk (zg (st.vs.getD jv false))/\Ov W W':=by
 have f:Ov W ((W.alloc (ze #[zj (some ⟨bn,0,none⟩)] 157)).alloc (ze #[zd U 6,zd U (jv:Int),zd U ot,zd U ek,zd U en,O xa xl xc,O aa al ac,O ta tl tc,O ea el ec,zd U (e:Int)] 249)):=(bA W _).alloc (by simp) _;obtain ⟨V,c⟩:=nm ((W.alloc (ze #[zj (some ⟨bn,0,none⟩)] 157)).alloc (ze #[zd U 6,zd U (jv:Int),zd U ot,zd U ek,zd U en,O xa xl xc,O aa al ac,O ta tl tc,O ea el ec,zd U (e:Int)] 249));have G:V.cell? ⟨W.heap.size,0,none⟩=some (zj (some ⟨bn,0,none⟩)):=by rw [c];simp [go_sem]
 have I:V.cell? ⟨W.heap.size+1,0,none⟩=some (zd U 6):=by rw [c];simp [go_sem]
 have H:V.cell? ⟨W.heap.size+1,1,none⟩=some (zd U (jv:Int)):=by rw [c];simp [go_sem]
 have B:V.cell? ⟨W.heap.size+1,2,none⟩=some (zd U ot):=by rw [c];simp [go_sem]
 have A:V.cell? ⟨W.heap.size+1,9,none⟩=some (zd U (e:Int)):=by rw [c];simp [go_sem]
 rw [<-c] at f;have q:=h.over f;obtain ⟨z,y,p,l,k,i,g⟩:=q.cells;have E:=CC q.vs hv;obtain ⟨r,s⟩:=nm (st.vs.getD jv false);obtain ⟨u,d⟩:=nm st.vs.length;rw [<-s] at E ⊢;rw [<-d] at l hv hlv;have C:(jv:Int) < (u:Int):=by omega
 have t:=Aa f;clear s d q h f z y p k i g A B hlc hln;go_enter Tryz.func196,Tryz.ntmps196;go_wp2_with fail;rw [<-c];clear c;refine gS (fun F=>Below V.heap.size V F) (Below.refl _ _).drew fun b=>?_;generalize V.drew=W at b ⊢;refine kO 0 ?_;refine kO 1 ?_;refine kO 2 ?_;refine kO 3 ?_;refine kO 4 ?_;refine kO 5 ?_;refine kO 6 ?_;refine kO 7 ?_;refine kO 8 ?_;refine kO 9 ?_;refine gE ?_;go_wp2_with fail;go_ret;exact ⟨by rfl,t.o.trans (b.mono t.o.size)⟩
theorem SJ {w0:World} {pc:List Value} {ch:Int} {cv fv:Value} {bn bv bi bs:Nat} {st:NS} {W:World} (h:NI w0 pc ch cv fv bn bv bi bs st W) (hlv:st.vs.length<=1000) (hlc:st.cs.length<=1000) (hln:st.nd.length<=1000) (x e:Nat) (ek en:Int) (xa xl xc aa al ac ta tl tc ea el ec) (va ot:Int) :
  Calls Tryz.prog 196 #[zj (some ⟨bn,0,none⟩),zd U (x:Int),zh #[zd U 4,zd U va,zd U ot,zd U ek,zd U en,O xa xl xc,O aa al ac,O ta tl tc,O ea el ec,zd U (e:Int)]] W fun r W'=>r=zk (zg (decide (ot=ch)))/\Ov W W':=by
 have d:Ov W ((W.alloc (ze #[zj (some ⟨bn,0,none⟩)] 157)).alloc (ze #[zd U 4,zd U va,zd U ot,zd U ek,zd U en,O xa xl xc,O aa al ac,O ta tl tc,O ea el ec,zd U (e:Int)] 249)):=(bA W _).alloc (by simp) _;obtain ⟨V,c⟩:=nm ((W.alloc (ze #[zj (some ⟨bn,0,none⟩)] 157)).alloc (ze #[zd U 4,zd U va,zd U ot,zd U ek,zd U en,O xa xl xc,O aa al ac,O ta tl tc,O ea el ec,zd U (e:Int)] 249));have A:V.cell? ⟨W.heap.size,0,none⟩=some (zj (some ⟨bn,0,none⟩)):=by rw [c];simp [go_sem]
 have C:V.cell? ⟨W.heap.size+1,0,none⟩=some (zd U 4):=by rw [c];simp [go_sem]
 have u:V.cell? ⟨W.heap.size+1,1,none⟩=some (zd U va):=by rw [c];simp [go_sem]
 have B:V.cell? ⟨W.heap.size+1,2,none⟩=some (zd U ot):=by rw [c];simp [go_sem]
 have t:V.cell? ⟨W.heap.size+1,9,none⟩=some (zd U (e:Int)):=by rw [c];simp [go_sem]
 rw [<-c] at d;have p:=h.over d;obtain ⟨z,s,l,k,i,g,f⟩:=p.cells;have q:=Aa d;clear p h d s l k i g f t u hlv hlc hln;go_enter Tryz.func196,Tryz.ntmps196;go_wp2_with fail;rw [<-c];clear c;refine gS (fun y=>Below V.heap.size V y) (Below.refl _ _).drew fun b=>?_;generalize V.drew=W at b ⊢;refine kO 0 ?_;refine kO 1 ?_;refine kO 2 ?_;refine kO 3 ?_;refine kO 4 ?_;refine kO 5 ?_;refine kO 6 ?_;refine kO 7 ?_;refine kO 8 ?_;refine gE ?_;go_wp2_with fail;go_ret;exact ⟨by first | rfl | (simp only [];rfl) | (simp;rfl),q.o.trans (b.mono q.o.size)⟩
theorem SK {w0:World} {pc:List Value} {ch:Int} {cv fv:Value} {bn bv bi bs:Nat} {st:NS} {W:World} (h:NI w0 pc ch cv fv bn bv bi bs st W) (hlv:st.vs.length<=1000) (hlc:st.cs.length<=1000) (hln:st.nd.length<=1000) (x e:Nat) (ek en:Int) (xa xl xc aa al ac ta tl tc ea el ec) (jv jo:Nat) (hv:jv < st.vs.length) (ho:jo < st.cs.length) :
  Calls Tryz.prog 196 #[zj (some ⟨bn,0,none⟩),zd U (x:Int),zh #[zd U 3,zd U (jv:Int),zd U (jo:Int),zd U ek,zd U en,O xa xl xc,O aa al ac,O ta tl tc,O ea el ec,zd U (e:Int)]] W fun r W'=>r=zk (zg (st.vs.getD jv false || st.cs.getD jo false))/\Ov W W':=by
 have i:Ov W ((W.alloc (ze #[zj (some ⟨bn,0,none⟩)] 157)).alloc (ze #[zd U 3,zd U (jv:Int),zd U (jo:Int),zd U ek,zd U en,O xa xl xc,O aa al ac,O ta tl tc,O ea el ec,zd U (e:Int)] 249)):=(bA W _).alloc (by simp) _;obtain ⟨V,c⟩:=nm ((W.alloc (ze #[zj (some ⟨bn,0,none⟩)] 157)).alloc (ze #[zd U 3,zd U (jv:Int),zd U (jo:Int),zd U ek,zd U en,O xa xl xc,O aa al ac,O ta tl tc,O ea el ec,zd U (e:Int)] 249));have L:V.cell? ⟨W.heap.size,0,none⟩=some (zj (some ⟨bn,0,none⟩)):=by rw [c];simp [go_sem]
 have P:V.cell? ⟨W.heap.size+1,0,none⟩=some (zd U 3):=by rw [c];simp [go_sem]
 have N:V.cell? ⟨W.heap.size+1,1,none⟩=some (zd U (jv:Int)):=by rw [c];simp [go_sem]
 have M:V.cell? ⟨W.heap.size+1,2,none⟩=some (zd U (jo:Int)):=by rw [c];simp [go_sem]
 have G:V.cell? ⟨W.heap.size+1,9,none⟩=some (zd U (e:Int)):=by rw [c];simp [go_sem]
 rw [<-c] at i;have k:=h.over i;obtain ⟨F,E,u,t,s,q,p⟩:=k.cells;have J:=CC k.vs hv;have z:=CC k.cs ho;obtain ⟨r,y⟩:=nm (st.vs.getD jv false);obtain ⟨K,d⟩:=nm (st.cs.getD jo false);obtain ⟨B,f⟩:=nm st.vs.length;obtain ⟨C,g⟩:=nm st.cs.length;rw [<-y,<-d];rw [<-y] at J;rw [<-d] at z;rw [<-f] at t hv hlv;rw [<-g] at s ho hlc;have H:(jv:Int) < (B:Int):=by omega
 have I:(jo:Int) < (C:Int):=by omega
 have l:=Aa i;clear y d f g k h i F E u q p G hln
 cases r with
 | true=>
  go_enter Tryz.func196,Tryz.ntmps196;go_wp2_with fail;rw [<-c];clear c;refine gS (fun A=>Below V.heap.size V A) (Below.refl _ _).drew fun b=>?_;generalize V.drew=W at b ⊢;refine kO 0 ?_;refine kO 1 ?_;refine kO 2 ?_;refine kO 3 ?_;refine kO 4 ?_;refine kO 5 ?_;refine kO 6 ?_;refine kO 7 ?_;refine kO 8 ?_;refine kO 9 ?_;refine kU 10 ?_;refine kU 11 ?_;refine kU 12 ?_;refine kU 13 ?_;refine kU 14 ?_;refine kU 15 ?_;refine kU 16 ?_;refine kU 17 ?_;refine kU 18 ?_;refine kO 19 ?_;refine kO 20 ?_;refine gE ?_;go_wp2_with fail;go_ret;exact ⟨by rfl,l.o.trans (b.mono l.o.size)⟩
 | false=>
  go_enter Tryz.func196,Tryz.ntmps196;go_wp2_with fail;rw [<-c];clear c;refine gS (fun A=>Below V.heap.size V A) (Below.refl _ _).drew fun b=>?_;generalize V.drew=W at b ⊢;refine kO 0 ?_;refine kO 1 ?_;refine kO 2 ?_;refine kO 3 ?_;refine kO 4 ?_;refine kO 5 ?_;refine kO 6 ?_;refine kO 7 ?_;refine kO 8 ?_;refine kO 9 ?_;refine kO 10 ?_;refine kO 11 ?_;refine kO 12 ?_;refine kO 13 ?_;refine kO 14 ?_;refine kO 15 ?_;refine kO 16 ?_;refine kO 17 ?_;refine kO 18 ?_;refine kO 19 ?_;refine kO 20 ?_;refine gE ?_;go_wp2_with fail;go_ret;exact ⟨by rfl,l.o.trans (b.mono l.o.size)⟩
theorem SG {w0:World} {pc:List Value} {ch:Int} {cv fv:Value} {bn bv bi bs:Nat} {st:NS} {W:World} (h:NI w0 pc ch cv fv bn bv bi bs st W) (hlv:st.vs.length<=1000) (hlc:st.cs.length<=1000) (hln:st.nd.length<=1000) (x e:Nat) (ek en:Int) (xa xl xc aa al ac ta tl tc ea el ec) (va ot:Int) (hx:x+1<=e) (he:e<=st.nd.length) :
  Calls Tryz.prog 196 #[zj (some ⟨bn,0,none⟩),zd U (x:Int),zh #[zd U 7,zd U va,zd U ot,zd U ek,zd U en,O xa xl xc,O aa al ac,O ta tl tc,O ea el ec,zd U (e:Int)]] W fun r W'=>r=zk (zg (De st.nd (x+1) e))/\Ov W W':=by
 have c:Ov W ((W.alloc (ze #[zj (some ⟨bn,0,none⟩)] 157)).alloc (ze #[zd U 7,zd U va,zd U ot,zd U ek,zd U en,O xa xl xc,O aa al ac,O ta tl tc,O ea el ec,zd U (e:Int)] 249)):=(bA W _).alloc (by simp) _;obtain ⟨V,b⟩:=nm ((W.alloc (ze #[zj (some ⟨bn,0,none⟩)] 157)).alloc (ze #[zd U 7,zd U va,zd U ot,zd U ek,zd U en,O xa xl xc,O aa al ac,O ta tl tc,O ea el ec,zd U (e:Int)] 249));have B:V.cell? ⟨W.heap.size,0,none⟩=some (zj (some ⟨bn,0,none⟩)):=by rw [b];simp [go_sem]
 have E:V.cell? ⟨W.heap.size+1,0,none⟩=some (zd U 7):=by rw [b];simp [go_sem]
 have y:V.cell? ⟨W.heap.size+1,1,none⟩=some (zd U va):=by rw [b];simp [go_sem]
 have u:V.cell? ⟨W.heap.size+1,2,none⟩=some (zd U ot):=by rw [b];simp [go_sem]
 have C:V.cell? ⟨W.heap.size+1,9,none⟩=some (zd U (e:Int)):=by rw [b];simp [go_sem]
 rw [<-b] at c;have p:=h.over c;obtain ⟨t,s,k,i,g,f,d⟩:=p.cells;have A:=Aa (I9 p (x+1) e hx he hln);have q:=Aa c;have z:x<=1000:=by omega
 clear p h c t s k i g f d y u hlv hlc hln hx he;go_enter Tryz.func196,Tryz.ntmps196;go_wp2_with fail;rw [<-b];clear b;refine A.o.mono ?_;rintro r F ⟨rfl,l⟩;go_wp2_with fail;go_ret;exact ⟨rfl,q.o.trans (l.mono q.o.size)⟩
theorem SF {w0:World} {pc:List Value} {ch:Int} {cv fv:Value} {bn bv bi bs:Nat} {st:NS} {W:World} (h:NI w0 pc ch cv fv bn bv bi bs st W) (hlv:st.vs.length<=1000) (hlc:st.cs.length<=1000) (hln:st.nd.length<=1000) (x e:Nat) (ek en:Int) (xa xl xc aa al ac ta tl tc ea el ec) (va ot:Int) (hx:x+1<=e) (he:e<=st.nd.length) :
  Calls Tryz.prog 196 #[zj (some ⟨bn,0,none⟩),zd U (x:Int),zh #[zd U 8,zd U va,zd U ot,zd U ek,zd U en,O xa xl xc,O aa al ac,O ta tl tc,O ea el ec,zd U (e:Int)]] W fun r W'=>r=zk (zg (De st.nd (x+1) e))/\Ov W W':=by
 have c:Ov W ((W.alloc (ze #[zj (some ⟨bn,0,none⟩)] 157)).alloc (ze #[zd U 8,zd U va,zd U ot,zd U ek,zd U en,O xa xl xc,O aa al ac,O ta tl tc,O ea el ec,zd U (e:Int)] 249)):=(bA W _).alloc (by simp) _;obtain ⟨V,b⟩:=nm ((W.alloc (ze #[zj (some ⟨bn,0,none⟩)] 157)).alloc (ze #[zd U 8,zd U va,zd U ot,zd U ek,zd U en,O xa xl xc,O aa al ac,O ta tl tc,O ea el ec,zd U (e:Int)] 249));have B:V.cell? ⟨W.heap.size,0,none⟩=some (zj (some ⟨bn,0,none⟩)):=by rw [b];simp [go_sem]
 have E:V.cell? ⟨W.heap.size+1,0,none⟩=some (zd U 8):=by rw [b];simp [go_sem]
 have y:V.cell? ⟨W.heap.size+1,1,none⟩=some (zd U va):=by rw [b];simp [go_sem]
 have u:V.cell? ⟨W.heap.size+1,2,none⟩=some (zd U ot):=by rw [b];simp [go_sem]
 have C:V.cell? ⟨W.heap.size+1,9,none⟩=some (zd U (e:Int)):=by rw [b];simp [go_sem]
 rw [<-b] at c;have p:=h.over c;obtain ⟨t,s,k,i,g,f,d⟩:=p.cells;have A:=Aa (I9 p (x+1) e hx he hln);have q:=Aa c;have z:x<=1000:=by omega
 clear p h c t s k i g f d y u hlv hlc hln hx he;go_enter Tryz.func196,Tryz.ntmps196;go_wp2_with fail;rw [<-b];clear b;refine A.o.mono ?_;rintro r F ⟨rfl,l⟩;go_wp2_with fail;go_ret;exact ⟨rfl,q.o.trans (l.mono q.o.size)⟩
theorem SL {w0:World} {pc:List Value} {ch:Int} {cv fv:Value} {bn bv bi bs:Nat} {st:NS} {W:World} (h:NI w0 pc ch cv fv bn bv bi bs st W) (hlv:st.vs.length<=1000) (hlc:st.cs.length<=1000) (hln:st.nd.length<=1000) (x e:Nat) (ek en:Int) (xa xl xc aa al ac ta tl tc ea el ec) (jv jo:Nat) (hv:jv < st.vs.length) (K kf:Nat) (fs:List FnD) (fa:Option Addr) (fn fc:Nat) (hpf:pc[6]? = some (O fa fn fc)) (hF:Bi w0 K kf (O fa fn fc) fs) (ho:jo < fs.length) (hf5:fs.length<=1000) (hps:(Bv fs (jo:Int)).ps.length<=6/\∀ p∈(Bv fs (jo:Int)).ps,0<=p/\p < (st.vs.length:Int)) (bf cf:Nat) (hfv:fv=O (some ⟨bf,0,none⟩) (fs.length+1) cf) (hft:∀ i,i<=fs.length->W.cell? ⟨bf,i,none⟩=some (zd U ((Ap kf (fs.take i):Nat):Int))) (hct:Ap kf fs<=st.nd.length) :
  Calls Tryz.prog 196 #[zj (some ⟨bn,0,none⟩),zd U (x:Int),zh #[zd U 2,zd U (jv:Int),zd U (jo:Int),zd U ek,zd U en,O xa xl xc,O aa al ac,O ta tl tc,O ea el ec,zd U (e:Int)]] W fun r W'=>r=zk (zg (st.vs.getD jv false || (Bv fs (jo:Int)).ps.any (fun p=>st.vs.getD p.toNat false) || De st.nd (Ap kf (fs.take jo)) (Ap kf (fs.take (jo+1)))))/\Ov W W':=by
 have c:Ov W ((W.alloc (ze #[zj (some ⟨bn,0,none⟩)] 157)).alloc (ze #[zd U 2,zd U (jv:Int),zd U (jo:Int),zd U ek,zd U en,O xa xl xc,O aa al ac,O ta tl tc,O ea el ec,zd U (e:Int)] 249)):=(bA W _).alloc (by simp) _;obtain ⟨V,g⟩:=nm ((W.alloc (ze #[zj (some ⟨bn,0,none⟩)] 157)).alloc (ze #[zd U 2,zd U (jv:Int),zd U (jo:Int),zd U ek,zd U en,O xa xl xc,O aa al ac,O ta tl tc,O ea el ec,zd U (e:Int)] 249));have kb:V.cell? ⟨W.heap.size,0,none⟩=some (zj (some ⟨bn,0,none⟩)):=by rw [g];simp [go_sem]
 have k0:V.cell? ⟨W.heap.size+1,0,none⟩=some (zd U 2):=by rw [g];simp [go_sem]
 have k1:V.cell? ⟨W.heap.size+1,1,none⟩=some (zd U (jv:Int)):=by rw [g];simp [go_sem]
 have k2:V.cell? ⟨W.heap.size+1,2,none⟩=some (zd U (jo:Int)):=by rw [g];simp [go_sem]
 have k9:V.cell? ⟨W.heap.size+1,9,none⟩=some (zd U (e:Int)):=by rw [g];simp [go_sem]
 rw [<-g] at c;have C:=h.over c;obtain ⟨n8,n9,ah,ag,af,ae,ad⟩:=C.cells;have I:Bv fs (jo:Int)=fs[jo]:=by unfold Bv;rw [show (jo:Int).toNat=jo from rfl,List.getD_eq_getElem?_getD,List.getElem?_eq_getElem ho];rfl
 rw [I] at hps ⊢;have n6:CE V bn 6 (O fa fn fc):=C.prog 6 _ hpf;obtain ⟨H,a6,a5,ak,f⟩:=hF;injection ak with f1 f2 f3;obtain ⟨fb,fo,aj,f⟩:=f (by rintro rfl;simp at ho);obtain ⟨vP,vB,z0,z1,z2,p0,-,-,-,-,N,s,-,-⟩:=f jo ho;have t:Ov w0 V:=C.below;have ab:=Ab t _ _ p0;obtain ⟨-,pa,an,rfl,-⟩:=id s;subst f1 f2 aj;have P:=N.over t;have am:=Ab c _ _ (hft jo (by omega));have Q:=Ab c _ _ (hft (jo+1) (by omega));subst hfv;have X:=Aa fun (l:World) (q:Ov V l)=>Mw (C.over q) hlv W.heap.size (Ab q _ _ kb) (jv:Int) ⟨by omega,by omega⟩;have Z:=Aa fun (l:World) (q:Ov V l)=>Fg 232 [zj (some ⟨W.heap.size,0,none⟩)] (fun p=>st.vs.getD p.toNat false) _ _ l (P.over q) hps.1 (fun i hi w1 u=>Mw (C.over (q.trans (u.mono q.size))) hlv W.heap.size (Ab (q.trans (u.mono q.size)) _ _ kb) _ (hps.2 _ (List.getElem_mem hi))) (enters_of Tryz.func232 (by kernel_rfl) rfl);have J:=Ho (k:=kf) ho;have Y:=Aa fun (l:World) (q:Ov V l)=>I9 (C.over q) (Ap kf (fs.take jo)) (Ap kf (fs.take (jo+1))) J.1 (by omega) hln;rw [show (jv:Int).toNat=jv from rfl] at X;obtain ⟨c1,M⟩:=nm (Ap kf (fs.take jo));obtain ⟨c2,L⟩:=nm (Ap kf (fs.take (jo+1)));rw [<-M] at am Y ⊢;rw [<-L] at Q Y ⊢;obtain ⟨r1,A⟩:=nm (st.vs.getD jv false);obtain ⟨r2,z⟩:=nm (fs[jo].ps.any (fun p=>st.vs.getD p.toNat false));obtain ⟨r3,y⟩:=nm (De st.nd c1 c2);rw [<-A] at X;rw [<-z] at Z;rw [<-y] at Y;rw [<-A,<-z,<-y];obtain ⟨pl,F⟩:=nm fs[jo].ps.length;rw [<-F] at ab Z;obtain ⟨R,B⟩:=nm fs.length;have a2:(jo:Int) < (R:Int):=by omega
 have ai:(jo:Int)+1 < (R:Int)+1:=by omega
 have a1:(jo:Int) < (R:Int)+1:=by omega
 have au:R<=9223372036854775807:=by rw [B];exact H
 rw [<-B] at n6 ah;have E:=Aa c;have a3:jo<=1000:=by omega
 obtain ⟨m1,G⟩:=nm (jo+1);have u:IntKind.i64.wrap ((jo:Int)+1)=(m1:Int):=by rw [IntKind.wrap_i64];omega
 have a0:(m1:Int) < (R:Int)+1:=by omega
 rw [<-G] at Q;clear G ai A z y F B M L C h c n8 n9 ag af ae ad k9 hlv hlc hln p0 hpf f3 hps I H f N s t P hft hct J ho hv hf5
 cases r1 with
 | true=>
  go_enter Tryz.func196,Tryz.ntmps196;go_wp2_with fail;rw [<-g];clear g;refine gS (fun l=>Below V.heap.size V l) (Below.refl _ _).drew fun b=>?_;generalize V.drew=W at b ⊢;refine kO 0 ?_;refine kO 1 ?_;refine kO 2 ?_;refine kO 3 ?_;refine rdA 4 rfl fun K d=>?_;go_simp;obtain ⟨T,rfl⟩:=nm W;refine (X.o _ b).mono ?_;rintro S W ⟨rfl,c⟩;go_simp;refine xK d (Ac b c) fun b=>?_;clear d K;refine kO 5 ?_;refine kU 6 ?_;refine kU 7 ?_;refine kU 8 ?_;refine kU 9 ?_;refine kU 10 ?_;refine kU 11 ?_;refine kU 12 ?_;refine kU 13 ?_;refine kU 14 ?_;refine kU 15 ?_;refine kU 16 ?_;refine kU 17 ?_;refine kU 18 ?_;refine kO 19 ?_;refine kO 20 ?_;refine kU 21 ?_;refine kU 22 ?_;refine kU 23 ?_;refine kU 24 ?_;refine kU 25 ?_;refine kU 26 ?_;refine kU 27 ?_;refine kU 28 ?_;refine kU 29 ?_;refine kU 30 ?_;refine kU 31 ?_;refine kU 32 ?_;refine kU 33 ?_;refine kU 34 ?_;refine kU 35 ?_;refine kU 36 ?_;refine kU 37 ?_;refine kU 38 ?_;refine kU 39 ?_;refine kU 40 ?_;refine kU 41 ?_;refine kO 42 ?_;refine kO 43 ?_;refine gE ?_;go_wp2_with fail;go_ret;exact ⟨by rfl,E.o.trans (b.mono E.o.size)⟩
 | false=>
  cases r2 with
  | true=>
   go_enter Tryz.func196,Tryz.ntmps196;go_wp2_with fail;rw [<-g];clear g;refine gS (fun l=>Below V.heap.size V l) (Below.refl _ _).drew fun b=>?_;generalize V.drew=W at b ⊢;refine kO 0 ?_;refine kO 1 ?_;refine kO 2 ?_;refine kO 3 ?_;refine rdA 4 rfl fun K d=>?_;go_simp;obtain ⟨T,rfl⟩:=nm W;refine (X.o _ b).mono ?_;rintro S W ⟨rfl,c⟩;go_simp;refine xK d (Ac b c) fun b=>?_;clear d K;refine kO 5 ?_;refine kO 6 ?_;refine kO 7 ?_;refine kO 8 ?_;refine kO 9 ?_;refine kO 10 ?_;refine kO 11 ?_;refine kO 12 ?_;refine kO 13 ?_;refine kO 14 ?_;refine kO 15 ?_;refine kO 16 ?_;refine kO 17 ?_;refine rdA 18 rfl fun K d=>?_;go_simp;obtain ⟨T,rfl⟩:=nm W;refine (Z.o _ b).mono ?_;rintro S W ⟨rfl,c⟩;go_simp;refine xK d (Ac b c) fun b=>?_;clear d K;refine kO 19 ?_;refine kO 20 ?_;refine kU 21 ?_;refine kU 22 ?_;refine kU 23 ?_;refine kU 24 ?_;refine kU 25 ?_;refine kU 26 ?_;refine kU 27 ?_;refine kU 28 ?_;refine kU 29 ?_;refine kU 30 ?_;refine kU 31 ?_;refine kU 32 ?_;refine kU 33 ?_;refine kU 34 ?_;refine kU 35 ?_;refine kU 36 ?_;refine kU 37 ?_;refine kU 38 ?_;refine kU 39 ?_;refine kU 40 ?_;refine kU 41 ?_;refine kO 42 ?_;refine kO 43 ?_;refine gE ?_;go_wp2_with fail;go_ret;exact ⟨by rfl,E.o.trans (b.mono E.o.size)⟩
  | false=>
   go_enter Tryz.func196,Tryz.ntmps196;go_wp2_with fail;rw [<-g];clear g;refine gS (fun l=>Below V.heap.size V l) (Below.refl _ _).drew fun b=>?_;generalize V.drew=W at b ⊢;refine kO 0 ?_;refine kO 1 ?_;refine kO 2 ?_;refine kO 3 ?_;refine rdA 4 rfl fun K d=>?_;go_simp;obtain ⟨T,rfl⟩:=nm W;refine (X.o _ b).mono ?_;rintro S W ⟨rfl,c⟩;go_simp;refine xK d (Ac b c) fun b=>?_;clear d K;refine kO 5 ?_;refine kO 6 ?_;refine kO 7 ?_;refine kO 8 ?_;refine kO 9 ?_;refine kO 10 ?_;refine kO 11 ?_;refine kO 12 ?_;refine kO 13 ?_;refine kO 14 ?_;refine kO 15 ?_;refine kO 16 ?_;refine kO 17 ?_;refine rdA 18 rfl fun K d=>?_;go_simp;obtain ⟨T,rfl⟩:=nm W;refine (Z.o _ b).mono ?_;rintro S W ⟨rfl,c⟩;go_simp;refine xK d (Ac b c) fun b=>?_;clear d K;refine kO 19 ?_;refine kO 20 ?_;refine kO 21 ?_;refine kO 22 ?_;refine kO 23 ?_;refine kO 24 ?_;refine kO 25 ?_;refine kO 26 ?_;refine kO 27 ?_;refine kO 28 ?_;refine kO 29 ?_;refine kO 30 ?_;refine kO 31 ?_;refine kO 32 ?_;refine kO 33 ?_;refine kO 34 ?_;refine kO 35 ?_;refine kO 36 ?_;refine kO 37 ?_;refine kO 38 ?_;refine kO 39 ?_;refine kO 40 ?_;refine rdA 41 rfl fun K d=>?_;go_simp;obtain ⟨T,rfl⟩:=nm W;refine (Y.o _ b).mono ?_;rintro S W ⟨rfl,c⟩;go_simp;refine xK d (Ac b c) fun b=>?_;clear d K;refine kO 42 ?_;refine kO 43 ?_;refine gE ?_;go_wp2_with fail;go_ret;exact ⟨by rfl,E.o.trans (b.mono E.o.size)⟩
end Go.Proofs.YtfffpjkcfnekaaaGreat.Ex
