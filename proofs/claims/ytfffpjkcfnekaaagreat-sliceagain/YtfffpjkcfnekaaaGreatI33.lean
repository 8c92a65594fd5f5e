/- Labels one behind the other, as the document's answer lists them. -/
import Derived.Test.YtfffpjkcfnekaaaGreatI18
set_option linter.unusedVariables false
set_option maxHeartbeats 8000000
set_option maxRecDepth 100000
namespace Go.Proofs.YtfffpjkcfnekaaaGreat.Ex
open Go.RowKit
open Go.Value renaming slice -> O, int -> zd, bool -> zg, agg -> zh, pointer -> zj, tuple -> zm
open Go.IntKind renaming i64 -> U
open Go.Obj renaming cells -> ze
open Go.Ending renaming returned -> zk
structure Ev (w:World) (L:List Lab) (xs:List Value):Prop where
 len:xs.length=L.length*2
 at_:∀ i (h:i < L.length),∃ (a:Option Addr) (c:Nat) (a2:Option Addr) (c2:Nat),xs[i*2]? = some (O a L[i].r.length c)/\xs[i*2+1]? = some (O a2 L[i].w.length c2)/\Au w (O a L[i].r.length c) L[i].r/\Au w (O a2 L[i].w.length c2) L[i].w
 one:∀ u∈xs,u.oneCell'=true
theorem Ev.nil {w:World}:Ev w [] []:=⟨rfl,fun i h=>absurd h (by simp),fun u h=>by cases h⟩
theorem Ev.app {w:World} {L M:List Lab} {xs ys:List Value} (h:Ev w L xs) (k:Ev w M ys):Ev w (L++M) (xs++ys):=by
 refine ⟨by rw [List.length_append,List.length_append,h.len,k.len];omega,fun i s=>?_,fun u hu=>?_⟩
 ·by_cases hl:i < L.length
  ·obtain ⟨a,c,q,p,l,g,f,d⟩:=h.at_ i hl
   have e:(L++M)[i]=L[i]:=List.getElem_append_left hl;rw [e];exact ⟨a,c,q,p,by rw [List.getElem?_append_left (by rw [h.len];omega)];exact l,by rw [List.getElem?_append_left (by rw [h.len];omega)];exact g,f,d⟩
  ·have b:i - L.length < M.length:=by rw [List.length_append] at s;omega
   obtain ⟨a,c,q,p,l,g,f,d⟩:=k.at_ (i - L.length) b;have e:(L++M)[i]=M[i - L.length]:=List.getElem_append_right (by omega);rw [e];refine ⟨a,c,q,p,?_,?_,f,d⟩
   ·rw [List.getElem?_append_right (by rw [h.len];omega),h.len,show i*2 - L.length*2=(i - L.length)*2 by omega];exact l
   ·rw [List.getElem?_append_right (by rw [h.len];omega),h.len,show i*2+1 - L.length*2=(i - L.length)*2+1 by omega];exact g
 ·rcases List.mem_append.1 hu with hu | hu
  ·exact h.one u hu
  ·exact k.one u hu
theorem Ev.single {w:World} {b:Lab} {a:Option Addr} {c:Nat} {a2:Option Addr} {c2:Nat} (h1:Au w (O a b.r.length c) b.r) (h2:Au w (O a2 b.w.length c2) b.w):Ev w [b] [O a b.r.length c,O a2 b.w.length c2]:=
 ⟨rfl,fun i hi=>by
  have:i=0:=by simp at hi;omega
  subst this;exact ⟨a,c,a2,c2,rfl,rfl,h1,h2⟩,fun u d=>by simp at d;rcases d with rfl | rfl <;> rfl⟩
theorem J4 {w:World} {b off:Nat} {ls:List Lab} (h:∀ i (h:i < ls.length),∃ (pr pw:Value),w.cell? ⟨b,off+i*2,none⟩=some pr/\w.cell? ⟨b,off+i*2+1,none⟩=some pw/\Au w pr ls[i].r/\Au w pw ls[i].w) :
  ∀ n,n<=ls.length->∃ xs,Ev w (ls.take n) xs/\∀ jj u,xs[jj]? = some u->w.cell? ⟨b,off+jj,none⟩=some u
 | 0,_=>⟨[],by rw [List.take_zero];exact Ev.nil,fun jj u hu=>by simp at hu⟩
 | n+1,hn=>by
  obtain ⟨xs,h1,h2⟩:=J4 h n (by omega);obtain ⟨pr,pw,c1,c2,p1,p2⟩:=h n (by omega);obtain ⟨a,c,e1,-⟩:=id p1;obtain ⟨a2,c2',e2,-⟩:=id p2;subst e1 e2;refine ⟨xs++[O a ls[n].r.length c,O a2 ls[n].w.length c2'],?_,fun jj u hu=>?_⟩
  ·rw [List.take_succ_eq_append_getElem (by omega)]
   exact h1.app (Ev.single p1 p2)
  ·have hl:xs.length=n*2:=by rw [h1.len,List.length_take];omega
   by_cases hj:jj < xs.length
   ·rw [List.getElem?_append_left hj] at hu
    exact h2 jj u hu
   ·rw [List.getElem?_append_right (by omega)] at hu
    have d:=(List.getElem?_eq_some_iff.1 hu).1;simp only [List.length_cons,List.length_nil] at d;rcases (by omega:jj=n*2\/jj=n*2+1) with rfl | rfl
    ·rw [hl,Nat.sub_self] at hu
     injection hu with hu;subst hu;exact c1
    ·rw [hl,show n*2+1 - n*2=1 by omega] at hu
     injection hu with hu;subst hu;exact c2
theorem ML {w0 W:World} {B:Nat} {sa:Option Addr} {m c:Nat} {ls:List Lab} {v:Value} {n:Nat} {xs:List Value} (hs:AX w0 (O sa m c) ls) (hw:Ov w0 W) (ho:W.ownsRow B 39 2 v n xs) (hl:n+ls.length<=1000) (hB:B<=W.heap.size) :
  ∃ ys v' W',(Builtin.append_ #[26,26] 26 #[v,O sa m c]).run Tryz.prog W=.ok v' W'/\Ev w0 ls ys/\W'.ownsRow B 39 2 v' (n+ls.length) (xs++ys)/\W.grownBy W' v.ownBlock:=by
 obtain ⟨y,z,q,p,k⟩:=info_parts Tryz.infoLaN;obtain ⟨-,L,K,G,t⟩:=hs;injection G with E C A;subst E C A
 cases ls with
 | nil=>
  refine ⟨[],v,W,Gn B 26 26 39 y 2 Tryz.underlying26 z v n xs ho sa c,Ev.nil,?_,⟨rfl,rfl,rfl,Nat.le_refl _,fun _ _ _=>rfl⟩⟩;rw [List.append_nil];exact ho
 | cons x l=>
  obtain ⟨b,off,rfl,g⟩:=t (by simp);obtain ⟨ys,i,J⟩:=J4 g (x::l).length (Nat.le_refl _);rw [List.take_length] at i;obtain ⟨v',W',d,f,s,-,I⟩:=run_append_own_at (P:=Tryz.prog) (w:=W) B 26 26 39 y (zh #[O none 0 0,O none 0 0]) 2 48 Tryz.underlying26 z q p k rfl (by decide) v n xs ho ⟨b,off,none⟩ (x::l).length c ys i.len (fun F u H=>by rw [Addr.add_lit];exact Ab hw _ _ (J F u H)) i.one (by unfold maxLen;omega) (by omega) hB;exact ⟨ys,v',W',d,i,f,s⟩
theorem OG {w0 W:World} {B n:Nat} {v:Value} {L:List Lab} {xs:List Value} (ho:W.ownsRow B 39 2 v n xs) (hn:n=L.length) (h:Ev w0 L xs):∃ (la:Option Addr) (lc:Nat),v=O la n lc/\∀ i (hi:i < L.length),∃ g,la=some ⟨g,0,none⟩/\∃ (a:Option Addr) (c:Nat) (a2:Option Addr) (c2:Nat),W.cell? ⟨g,i*2,none⟩=some (O a L[i].r.length c)/\W.cell? ⟨g,i*2+1,none⟩=some (O a2 L[i].w.length c2)/\Au w0 (O a L[i].r.length c) L[i].r/\Au w0 (O a2 L[i].w.length c2) L[i].w:=by
 rcases ho.2 with ⟨f,d⟩ | ⟨g,k,t,b,y,u,-⟩
 ·exact ⟨none,0,by rw [f,d],fun i hi=>by omega⟩
 ·refine ⟨some ⟨g,0,none⟩,k,b,fun i hi=>⟨g,rfl,?_⟩⟩
  obtain ⟨a,c,a2,c2,f,d,s,q⟩:=h.at_ i hi;have p:=ho.cells (g:=g) (by rw [b];rfl) _ _ f;have l:=ho.cells (g:=g) (by rw [b];rfl) _ _ d;rw [Addr.add_lit,Nat.zero_add] at p l;exact ⟨a,c,a2,c2,p,l,s,q⟩
end Go.Proofs.YtfffpjkcfnekaaaGreat.Ex
