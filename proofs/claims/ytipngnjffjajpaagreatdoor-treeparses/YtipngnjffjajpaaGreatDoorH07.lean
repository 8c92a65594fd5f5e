/- The reader of package tree reads whatever expression. -/
import Derived.Test.YtipngnjffjajpaaGreatDoorH06
import Derived.Maps.AppendAt
set_option linter.unusedVariables false
set_option maxHeartbeats 8000000
set_option maxRecDepth 100000
namespace Go.Proofs.YtipngnjffjajpaaGreatDoor
open Go.RowKit
open Go.Value renaming int -> M, slice -> U, bool -> zc, pointer -> zd, agg -> zf, tuple -> zh
open Go.IntKind renaming i64 -> O
open Go.Obj renaming cells -> ze
open Go.Ending renaming returned -> zg
theorem LI (rb:Nat) (tv:Value) (ts:List Tok) (hall:ts.all An=true) (en:Nat):∀ (f deep n:Nat) (w:World),61<=f+deep->deep<=60->St rb tv ts en n w ->
  Calls Tryz.prog 133 #[zd (some ⟨rb,0,none⟩),M O (deep:Int)] w (Cq rb tv ts en f w (pE ts en f deep n)):=by
 intro f
 induction f with
 | zero=>intro deep n w b c;omega
 | succ f ih=>
  intro deep n w l k h;by_cases hk:(Ah ts n).kind=2
  ·exact Ih rb tv ts hall en n f deep w h hk
  unfold pE;rw [if_neg hk]
  cases hm:isT ts n [45] with
  | true=>
   rw [if_pos rfl]
   cases hz:isT ts (n+1) [48] with
   | true=>exact Fp rb tv ts hall en n f deep w h hk hm hz
   | false=>
    rw [if_neg (by simp)];by_cases hq:(Ah ts (n+1)).kind=2
    ·rw [if_pos hq]
     exact IX rb tv ts hall en n f deep w h hk hm hz hq
    ·rw [if_neg hq]
     exact Gc rb tv ts hall en n f deep w h hk hm hz hq
  | false=>
   rw [if_neg (by simp)]
   cases hN:AU (Ah ts n) with
   | true=>
    rw [if_pos rfl];exact Kl rb tv ts hall en n f deep w h hk hm hN
   | false=>
    rw [if_neg (by simp)];by_cases hd6:deep < 60
    ·cases ho:isT ts n [40] with
     | false=>
      rw [if_neg (by simp)];exact Kk rb tv ts hall en n f deep w h hk hm hN hd6 ho
     | true=>
      rw [if_pos ⟨hd6,rfl⟩];have a:Hid (∀ n w,St rb tv ts en n w->Calls Tryz.prog 133 #[zd (some ⟨rb,0,none⟩),M O ((deep:Int)+1)] w (Cq rb tv ts en f w (pE ts en f (deep+1) n))):=
       Aa fun n w j=>by
        have:=ih (deep+1) n w (by omega) (by omega) j;rw [Int.natCast_add] at this;exact this
      cases b:pE ts en f (deep+1) (n+1) with
      | inr m=>exact IQ rb tv ts hall en n f deep w h hk hm hN hd6 ho a m b
      | inl p1=>
       obtain ⟨g,n1⟩:=p1;by_cases hop:A1 (Ah ts n1).text.data.toList=0
       ·simp only [if_pos hop]
        exact JV rb tv ts hall en n f deep w h hk hm hN hd6 ho a g n1 b hop
       ·simp only [if_neg hop]
        cases c:pE ts en f (deep+1) (n1+1) with
        | inr m=>exact IP rb tv ts hall en n f deep w h hk hm hN hd6 ho a g n1 m b hop c
        | inl p2=>
         obtain ⟨i,n2⟩:=p2
         cases hc:isT ts n2 [41] with
         | false=>
          simp only [hc,Bool.false_eq_true,if_false];exact GG rb tv ts hall en n f deep w h hk hm hN hd6 ho a g i n1 n2 b hop c hc
         | true=>
          simp only [hc,if_true];exact L6 rb tv ts hall en n f deep w h hk hm hN hd6 ho a g i n1 n2 b hop c hc
    ·rw [if_neg (by simp [hd6])]
     exact Km rb tv ts hall en n f deep w h hk hm hN hd6 k
end Go.Proofs.YtipngnjffjajpaaGreatDoor
namespace Go.Proofs.YtipngnjffjajpaaGreatDoor.Tx
open Go.RowKit
open Go.Value renaming int -> M, slice -> U, bool -> zc, pointer -> zd, agg -> zf, tuple -> zh
open Go.IntKind renaming i64 -> O
open Go.Obj renaming cells -> ze
open Go.Ending renaming returned -> zg
theorem Aa {p:Prop} (h:p):Hx p:=h
abbrev Ae (cs:List Value) (w:World) (b:Nat):Prop:=∀ (j:Nat) (u:Value),cs[j]? = some u->w.cell? ⟨b,j,none⟩=some u
theorem Ae.over {cs:List Value} {w w':World} {b:Nat} (h:Ae cs w b) (hb:Ov w w'):Ae cs w' b:=fun j u hu=>ce1 hb (h j u hu)
theorem Ab {w0 w1 w2:World} (h:Ov w0 w1) (h2:Ov w1 w2):Ov w0 w2:=h.trans (h2.mono h.size)
theorem Lv {W W':World} {B e s:Nat} {v:Value} {k:Nat} {xs:List Value} (h:W.ownsRow B e s v k xs) (hb:Ov W W'):W'.ownsRow B e s v k xs:=by
 obtain ⟨l,a⟩:=h;refine ⟨l,?_⟩;rcases a with a | ⟨g,c,b,i,j,f,r⟩
 ·exact Or.inl a
 ·refine Or.inr ⟨g,c,b,i,j,?_,r⟩
  rw [hb.block g (Array.getElem?_eq_some_iff.1 f).1];exact f
theorem AF {W:World} {B e s:Nat} {v:Value} {k:Nat} {xs:List Value} (h:W.ownsRow B e s v k xs) {g:Nat} (hg:v.ownBlock=some g):B<=g/\g < W.heap.size:=by
 rcases h.2 with ⟨rfl,_⟩ | ⟨i,f,c,rfl,a,b,_⟩
 ·cases hg
 ·simp [Value.ownBlock] at hg
  subst hg;exact ⟨a,(Array.getElem?_eq_some_iff.1 b).1⟩
theorem LF {w:World} {r n j:Nat} {u:Value}:w.grownBy ((w.drewN n).setCell ⟨r,j,none⟩ u) (some r):=by
 have h:=Below.heap_setCell (w.drewN n) ⟨r,j,none⟩ u;refine ⟨rfl,rfl,rfl,by simp [World.setCell],fun k b a=>?_⟩;rw [h k (fun e=>a (by rw [e]))];rfl
theorem CM {w:World} {r j:Nat} {u:Value}:w.grownBy (w.setCell ⟨r,j,none⟩ u) (some r):=LF (n:=0)
theorem AK {w:World} {B e s:Nat} {v:Value} {n:Nat} {xs:List Value} (h:w.ownsRow B e s v n xs):∃ a n c,v=U a n c:=by
 obtain ⟨l,⟨h,_⟩ | ⟨g,i,f,b,k,j⟩⟩:=h
 ·exact ⟨_,_,_,h⟩
 ·exact ⟨_,_,_,b⟩
theorem BM {W:World} {B e s n:Nat} {a:Option Addr} {k c:Nat} {xs:List Value} (h:W.ownsRow B e s (U a k c) n xs):k=n:=by
 rcases h.2 with ⟨h,i⟩ | ⟨g,m,l,h,u,r,-⟩
 ·injection h with j f b
  omega
 ·injection h with j i b
theorem AP {ops:Array Oper} {o:Oper} {a:Act} {W:World} {K:Act->World->Prop} {Q:Exit->Act->World->Prop} {E:Prop} (hg:o.guard=none) (s x:Operand) (t:TypeId) (hop:o.op=Op.call { callee:=Callee.builtin Builtin.append,args:=#[s,x],argTypes:=#[t,t] }) (v u v':Value) (W':World) (hs:a.eval s=v) (hx:a.eval x=u)
  (hr:(Builtin.append_ #[t,t] o.type #[v,u]).run Tryz.prog W=.ok v' W') (h:K (a.put o.dst v') W'):if Region.wanted o (yielded ops a.tmps)=true then Oper.wp Tryz.prog o a W K Q else E:=by
 have hw:Region.wanted o (yielded ops a.tmps)=true:=by simp [Region.wanted,hg]
 rw [if_pos hw];unfold Oper.wp execOp;simp only [hop,resolve,invoke,builtin,Sem.run_bind,Sem.run_pure,Result.andThen_ok,List.map_toArray,List.map_cons,List.map_nil,hs,hx,hr];exact h
def Off (B:Nat) (g:Option Nat) (w:World) (P:World->Prop):Prop:=∀ W:World,(∀ k,B<=k->k < w.heap.size->some k≠g->W.heap[k]? = w.heap[k]?)->P W
section
variable {B B':Nat} {g:Option Nat} {w w':World} {P P':World->Prop} {v v':Value}
theorem Off.imp (h:Off B g w P) (f:∀ W,P W->P' W):Off B g w P':=fun W hW=>f W (h W hW)
theorem Off.over (h:Off B g w P) (hb:Ov w w'):Off B g w' P:=fun W hW=>h W fun k h1 h2 h3=>(hW k h1 (Nat.lt_of_lt_of_le h2 hb.size) h3).trans (hb.block k h2)
theorem Off.base (h:Off B g w P) (hb:B'<=B):Off B' g w P:=fun W hW=>h W fun k h1 h2 h3=>hW k (Nat.le_trans hb h1) h2 h3
theorem Off.row (h:Off B v.ownBlock w P) (hg:w.grownBy w' v.ownBlock) (hv:v'.ownBlock=v.ownBlock\/v'.ownBlock=some w.heap.size):Off B v'.ownBlock w' P:=fun W hW=>h W fun k h1 h2 h3=>
 (hW k h1 (Nat.lt_of_lt_of_le h2 hg.size) (by
  rcases hv with e | e
  ·rw [e];exact h3
  ·rw [e];intro q;injection q with q;omega)).trans (hg.block k h2 h3)
theorem Off.weak (h:Off B none w P) (hb:B'<=B) (hg:∀ k,g=some k->k < B):Off B' g w P:=fun W hW=>h W fun k h1 h2 _=>hW k (Nat.le_trans hb h1) h2 (fun e=>by have:=hg k e.symm;omega)
theorem Off.set {b j:Nat} {u:Value} (h:Off B g w P) (hb:b < B):Off B g (w.setCell ⟨b,j,none⟩ u) P:=fun W hW=>h W fun k h1 h2 h3=>
 (hW k h1 (by simpa [World.setCell] using h2) h3).trans ((CM (w:=w) (r:=b) (j:=j) (u:=u)).block k h2 (fun e=>by injection e with e;omega))
end
def Cop (B T s:Nat) (P:Nat->List Value->World->Prop) (n:Nat) (v:Value) (w:World):Prop:=
 ∃ xs,w.ownsRow B T s v n xs/\∀ i,i < n->∃ cs:List Value,cs.length=s/\(∀ j u,cs[j]? = some u->xs[i*s+j]? = some u)/\Off B v.ownBlock w (P i cs)
section
variable {B T s n:Nat} {P:Nat->List Value->World->Prop} {v v':Value} {w w' w2:World}
theorem Cop.nil:Cop B T s P 0 (U none 0 0) w:=⟨[],World.ownsRow_nil w B T s,fun i hi=>absurd hi (Nat.not_lt_zero _)⟩
theorem Cop.over (h:Cop B T s P n v w) (hb:Ov w w'):Cop B T s P n v w':=by
 obtain ⟨a,b,f⟩:=h;refine ⟨a,Lv b hb,fun i c=>?_⟩;obtain ⟨l,k,j,g⟩:=f i c;exact ⟨l,k,j,g.over hb⟩
theorem Cop.set {b j:Nat} {u:Value} (h:Cop B T s P n v w) (hb:b < B):Cop B T s P n v (w.setCell ⟨b,j,none⟩ u):=by
 obtain ⟨c,a,g⟩:=h;refine ⟨c,a.kept CM (Or.inr (fun e=>by have:=(AF a e).1;omega)),fun i f=>?_⟩;obtain ⟨r,m,l,k⟩:=g i f;exact ⟨r,m,l,k.set hb⟩
theorem Cop.add {xs cs:List Value} {B1:Nat} (ho:w.ownsRow B T s v n xs) (he:∀ i,i < n->∃ cs:List Value,cs.length=s/\(∀ j u,cs[j]? = some u->xs[i*s+j]? = some u)/\Off B v.ownBlock w (P i cs))
  (hl:cs.length=s) (hn:Off B1 none w (P n cs)) (hB:B<=B1) (hrow:∀ k,v.ownBlock=some k->k < B1) (ho':w2.ownsRow B T s v' (n+1) (xs++cs)) (hg:w.grownBy w2 v.ownBlock) (hat:v'.ownBlock=v.ownBlock\/v'.ownBlock=some w.heap.size):Cop B T s P (n+1) v' w2:=by
 refine ⟨xs++cs,ho',fun i l=>?_⟩;by_cases h:i < n
 ·obtain ⟨g,f,c,b⟩:=he i h
  refine ⟨g,f,fun j u a=>?_,b.row hg hat⟩;have:=c j u a;rw [List.getElem?_append_left (List.getElem?_eq_some_iff.1 this).1];exact this
 ·obtain rfl:i=n:=by omega
  refine ⟨cs,hl,fun j u a=>?_,(hn.weak hB hrow).row hg hat⟩;rw [List.getElem?_append_right (by rw [ho.1];omega),ho.1,Nat.add_sub_cancel_left];exact a
theorem Cop.cells (h:Cop B T s P n v w) (hs:0 < s):∃ (a:Option Addr) (c:Nat),v=U a n c/\Off B none w (fun W=>(n≠0->∃ b,a=some ⟨b,0,none⟩/\∀ i,i < n->∃ cs:List Value,cs.length=s/\(∀ j u,cs[j]? = some u->W.cell? ⟨b,i*s+j,none⟩=some u)/\P i cs W)):=by
 obtain ⟨O,C,K⟩:=h;rcases C.2 with ⟨r,F⟩ | ⟨g,A,N,r,L,E,S,R,Q,M⟩
 ·exact ⟨none,0,by rw [r,F],fun W _ f=>absurd F f⟩
 ·refine ⟨some ⟨g,0,none⟩,A,r,fun W hW f=>⟨g,rfl,fun i J=>?_⟩⟩
  obtain ⟨cs,q1,H,G⟩:=K i J;refine ⟨cs,q1,fun j u I=>?_,G W fun k k1 k2 _=>hW k k1 k2 (by simp)⟩;have y:g < w.heap.size:=(Array.getElem?_eq_some_iff.1 E).1;have m:=H j u I;have l:W.heap[g]? = w.heap[g]?:=hW g L y (by simp);rw [World.cell?_of_block (a:=⟨g,i*s+j,none⟩) l,Lib.cell_of_heap E];have x:i*s+j < n*s:=by rw [<-C.1];exact (List.getElem?_eq_some_iff.1 m).1
  rw [<-M,List.getElem?_take,if_pos x] at m;simpa using m
end
section
variable {B rb:Nat} {g:Option Nat} {w w':World} {P:World->Prop}
theorem Off.keep (h:Off B g w P) (hg:w.grownBy w' (some rb)) (hb:rb < B):Off B g w' P:=fun W hW=>h W fun k h1 h2 h3=>(hW k h1 (Nat.lt_of_lt_of_le h2 hg.size) h3).trans (hg.block k h2 (fun e=>by injection e with e;omega))
theorem Cop.keep {T s n:Nat} {P:Nat->List Value->World->Prop} {v:Value} (h:Cop B T s P n v w) (hg:w.grownBy w' (some rb)) (hb:rb < B):Cop B T s P n v w':=by
 obtain ⟨b,a,f⟩:=h;refine ⟨b,a.kept hg (Or.inr (fun e=>by have:=(AF a e).1;omega)),fun i c=>?_⟩;obtain ⟨l,k,j,g⟩:=f i c;exact ⟨l,k,j,g.keep hg hb⟩
end
abbrev Res (α:Type):=Sum (α × Nat) Nat
def Aw {α β:Type} (r:Res α) (f:α->Nat->Res β):Res β:=
 match r with
 | .inl (a,n)=>f a n
 | .inr m=>.inr m
theorem Am {α β:Type} {a:α} {n:Nat} {f:α->Nat->Res β}:Aw (.inl (a,n)) f=f a n:=rfl
def Dp (at_:Int) (o:ByteArray) (wr:Bool) (ns:List ByteArray):D:=.agg [dI at_,dS o,dB wr,dL (ns.map dS)]
def stD (kd at_:Int) (a b:ByteArray) (e:D) (args th el:List D):D:=.agg [dI kd,dI at_,dS a,dS b,e,dL args,dL th,dL el]
def deD (kd at_:Int) (a b:ByteArray) (gv:Bool) (lb:List D) (ps:List ByteArray) (body:List D) (r:D):D:=.agg [dI kd,dI at_,dS a,dS b,dB gv,dL lb,dL (ps.map dS),dL body,r]
def noE:D:=eD 0 0 0 ⟨#[]⟩ []
def noS:ByteArray:=⟨#[]⟩
def Ij:D->Int
 | .agg (.lit (.int _ k)::_)=>k
 | _=>0
def FX:D->List UInt8
 | .agg (_::_::_::.lit (.string x)::_)=>x
 | _=>[]
section
variable (ts:List Tok) (en:Nat)
def Av (x:List UInt8) (n:Nat):Res Unit:=if isT ts n x=true then .inl ((),n+1) else .inr n
def AD (n:Nat):Res ByteArray:=if AU (Ah ts n)=true then .inl ((Ah ts n).text,n+1) else .inr n
def Bn {α:Type} (sep:List UInt8) (one:Nat->Res α):Nat->Bool->List α->Nat->Res (List α)
 | 0,_,acc,n=>.inl (acc,n)
 | f+1,sm,acc,n=>if sm=true then Aw (one n) fun a n1=>if isT ts n1 sep=true then Bn sep one f true (acc++[a]) (n1+1) else .inl (acc++[a],n1) else .inl (acc,n)
def Bi (sm:Bool) (n:Nat):Res (List ByteArray):=Bn ts [44] (AD ts) (ts.length+1) sm [] n
def Bm (n:Nat):Res D:=
 Aw (AD ts n) fun o n1=>
  if isT ts n1 [33]=true then Aw (Bi ts (AU (Ah ts (n1+1))) (n1+1)) fun ns n2=>.inl (Dp (Ar ts en n) o true ns,n2)
  else Aw (Av ts [58] n1) fun _ n2=>Aw (Bi ts (AU (Ah ts n2)) n2) fun ns n3=>.inl (Dp (Ar ts en n) o false ns,n3)
def BO (n:Nat):Res (List D):=
 Aw (Av ts [123] n) fun _ n1=>Aw (Bn ts [59] (Bm ts en) (ts.length+1) (!isT ts n1 [125]) [] n1) fun l n2=>Aw (Av ts [125] n2) fun _ n3=>.inl (l,n3)
def pX (n:Nat):Res D:=pE ts en 61 0 n
def Hs (s:D) (n:Nat):Res D:=Aw (Av ts [59] n) fun _ n1=>.inl (s,n1)
def CO (at_:Int) (n:Nat):Res D:=
 Aw (AD ts n) fun x n1=>Aw (Av ts [61] n1) fun _ n2=>Aw (pX ts en n2) fun e n3=>
  if Ij e=2/\isT ts n3 [40]=true then
   Aw (Bn ts [44] (pX ts en) (ts.length+1) (!isT ts (n3+1) [41]) [] (n3+1)) fun l n4=>Aw (Av ts [41] n4) fun _ n5=>.inl (stD 2 at_ x ⟨(FX e).toArray⟩ noE l [] [],n5)
  else .inl (stD 1 at_ x noS e [] [] [],n3)
def AZ (ss:Nat->Res (List D)) (n:Nat):Res (List D):=Aw (Av ts [123] n) fun _ n1=>Aw (ss n1) fun l n2=>Aw (Av ts [125] n2) fun _ n3=>.inl (l,n3)
def BA (blk:Nat->Res (List D)) (n:Nat):Res D:=
 if isT ts n [105,102]=true then Aw (pX ts en (n+1)) fun e n1=>Aw (blk n1) fun th n2=>
  if isT ts n2 [101,108,115,101]=true then Aw (blk (n2+1)) fun el n3=>.inl (stD 7 (Ar ts en n) noS noS e [] th el,n3) else .inl (stD 7 (Ar ts en n) noS noS e [] th [],n2)
 else if isT ts n [119,104,105,108,101]=true then Aw (pX ts en (n+1)) fun e n1=>Aw (blk n1) fun th n2=>.inl (stD 8 (Ar ts en n) noS noS e [] th [],n2)
 else if isT ts n [103,101,116]=true then Aw (AD ts (n+1)) fun a n1=>Aw (AD ts n1) fun b n2=>Hs ts (stD 3 (Ar ts en n) a b noE [] [] []) n2
 else if isT ts n [112,117,116]=true then Aw (AD ts (n+1)) fun b n1=>Aw (pX ts en n1) fun e n2=>Hs ts (stD 4 (Ar ts en n) noS b e [] [] []) n2
 else if isT ts n [114,101,118,101,97,108]=true then Aw (AD ts (n+1)) fun a n1=>Aw (pX ts en n1) fun e n2=>Hs ts (stD 5 (Ar ts en n) a noS e [] [] []) n2
 else if isT ts n [116,114,117,115,116]=true then Aw (AD ts (n+1)) fun a n1=>Aw (pX ts en n1) fun e n2=>Hs ts (stD 6 (Ar ts en n) a noS e [] [] []) n2
 else Aw (CO ts en (Ar ts en n) n) fun s n1=>Hs ts s n1
def AL:Nat->List D->Nat->Res (List D)
 | 0,acc,n=>.inr n
 | 1,acc,n=>if isT ts n [125]=true\/isT ts n [114,101,116,117,114,110]=true then .inl (acc,n) else .inr n
 | f+2,acc,n=>if isT ts n [125]=true\/isT ts n [114,101,116,117,114,110]=true then .inl (acc,n) else Aw (BA ts en (AZ ts (fun n=>AL f [] n)) n) fun s n1=>AL (f+1) (acc++[s]) n1
def BQ:Nat->Nat->Res D
 | 0,n=>.inr n
 | f+1,n=>BA ts en (AZ ts (fun n=>AL ts en f [] n)) n
theorem Hr (f:Nat) (acc:List D) (n:Nat):AL ts en (f+1) acc n=if isT ts n [125]=true\/isT ts n [114,101,116,117,114,110]=true then .inl (acc,n) else Aw (BQ ts en f n) fun s n1=>AL ts en f (acc++[s]) n1:=by
 cases f <;> rfl
def Ef (at_:Int) (name:ByteArray) (n:Nat):Res D:=
 Aw (Av ts [40] n) fun _ n1=>Aw (Bi ts (!isT ts n1 [41]) n1) fun ps n2=>Aw (Av ts [41] n2) fun _ n3=>Aw (Av ts [123] n3) fun _ n4=>
  Aw (AL ts en (2*ts.length+3) [] n4) fun body n5=>Aw (Av ts [114,101,116,117,114,110] n5) fun _ n6=>Aw (pX ts en n6) fun r n7=>Aw (Av ts [59] n7) fun _ n8=>Aw (Av ts [125] n8) fun _ n9=>
   .inl (deD 7 at_ name noS false [] ps body r,n9)
def Cj (kd at_:Int) (name oth:ByteArray) (gv:Bool) (n:Nat):Res D:=
 if gv=true then Aw (BO ts en n) fun lb n1=>Aw (Av ts [59] n1) fun _ n2=>.inl (deD kd at_ name oth true lb [] [] noE,n2)
 else Aw (Av ts [59] n) fun _ n1=>.inl (deD kd at_ name oth false [] [] [] noE,n1)
def Bj (n:Nat):Res D:=
 if AX (Ah ts n).text.data.toList=0 then .inr n
 else Aw (AD ts (n+1)) fun a n1=>
  if AX (Ah ts n).text.data.toList=2 then Aw (AD ts n1) fun b n2=>Cj ts en 2 (Ar ts en n) a b false n2
  else if AX (Ah ts n).text.data.toList=4\/AX (Ah ts n).text.data.toList=5 then Cj ts en (AX (Ah ts n).text.data.toList) (Ar ts en n) a noS true n1
  else if AX (Ah ts n).text.data.toList=6 then Cj ts en 6 (Ar ts en n) a noS (isT ts n1 [123]) n1
  else if AX (Ah ts n).text.data.toList=7 then Ef ts en (Ar ts en n) a n1
  else Cj ts en (AX (Ah ts n).text.data.toList) (Ar ts en n) a noS false n1
def Dh:Nat->List D->Nat->Res (List D)
 | 0,acc,n=>.inr n
 | f+1,acc,n=>if isT ts n [109,97,105,110]=true then .inl (acc,n) else Aw (Bj ts en n) fun d n1=>Dh f (acc++[d]) n1
def CG:Res (List D × List D):=
 Aw (Dh ts en (ts.length+1) [] 0) fun ds n=>Aw (Av ts [109,97,105,110] n) fun _ n1=>Aw (AZ ts (AL ts en (2*ts.length+3) []) n1) fun l n2=>if n2 < ts.length then .inr n2 else .inl ((ds,l),n2)
end
def Ao (ts:List Tok) (en:Nat) {β:Type} (res:Res β) (K:β->Nat->Ending->World->Prop) (G:World->Prop) (e:Ending) (w':World):Prop:=
 match res with
 | .inl (b,n)=>K b n e w'
 | .inr m=>e=Ai (Ar ts en m)/\G w'
def nOf (rb:Nat) (w:World):Nat:=match w.cell? ⟨rb,1,none⟩ with | some (M _ n)=>n.toNat | _=>0
def bOf:Value->Nat | zc true=>1 | _=>0
theorem EZ {rb:Nat} {tv:Value} {ts:List Tok} {en n:Nat} {w:World} (h:St rb tv ts en n w):nOf rb w=n:=by
 unfold nOf;rw [h.cells.2.1];simp
section
variable {rb:Nat} {tv:Value} {ts:List Tok} {en:Nat}
theorem Fs (x:ByteArray) (hx:x.data.toList≠[]) (n:Nat) (w:World) (h:St rb tv ts en n w) :
  Calls Tryz.prog 98 #[zd (some ⟨rb,0,none⟩),.string x] w fun e w'=>e=zg (zc (isT ts n x.data.toList))/\w.grownBy w' (some rb)/\St rb tv ts en (if isT ts n x.data.toList=true then n+1 else n) w':=by
 cases hq:isT ts n x.data.toList with
 | true=>exact (BN rb tv ts en n x w h hq (B9 hq hx)).mono fun e w' ⟨b,a,c⟩=>⟨b,a,by simpa using c⟩
 | false=>exact (BX rb tv ts en n x w h hq).mono fun e w' ⟨b,a⟩=>⟨b,Ad a,by simpa using h.below a⟩
theorem Bp (x:ByteArray) (hx:x.data.toList≠[]) (n:Nat) (w:World) (h:St rb tv ts en n w) :
  Calls Tryz.prog 53 #[zd (some ⟨rb,0,none⟩),.string x] w (Ao ts en (Av ts x.data.toList n) (fun _ n1 e w'=>e=zg (zh #[])/\w.grownBy w' (some rb)/\St rb tv ts en n1 w') (fun w'=>w.grownBy w' (some rb))):=by
 unfold Av
 cases hq:isT ts n x.data.toList with
 | true=>exact (G6 rb tv ts en n x w h hq (B9 hq hx)).mono fun e w' a=>a
 | false=>exact (Jf rb tv ts en n x w h hq).mono fun e w' ⟨a,b⟩=>⟨a,Ad b⟩
theorem Ck (n:Nat) (w:World) (h:St rb tv ts en n w) :
  Calls Tryz.prog 95 #[zd (some ⟨rb,0,none⟩)] w (Ao ts en (AD ts n) (fun x n1 e w'=>e=zg (.string x)/\w.grownBy w' (some rb)/\St rb tv ts en n1 w') (fun w'=>w.grownBy w' (some rb))):=by
 unfold AD
 cases hq:AU (Ah ts n) with
 | true=>exact (Hz rb tv ts en n w h hq).mono fun e w' a=>a
 | false=>exact (L9 rb tv ts en n w h hq).mono fun e w' ⟨a,b⟩=>⟨a,Ad b⟩
theorem IZ {α:Type} (F:FuncId) (cap:List Value) (hC:∀ (args:Array Value) (w:World),(callFunc F args).run Tryz.prog w=.ok (.enter F args) w) (sep:ByteArray) (hsep:sep.data.toList≠[]) (one:Nat->Res α) (J:List α->Nat->World->Prop) (G:World->Prop)
  (hJ:∀ acc n w,J acc n w->St rb tv ts en n w) (hm:∀ n a n1,one n=.inl (a,n1)->n<=n1) (hJt:∀ acc n n' w w',J acc n w->n<=n'->w.grownBy w' (some rb)->St rb tv ts en n' w'->J acc n' w')
  (h1:∀ acc n w,J acc n w->Calls Tryz.prog F cap.toArray w (Ao ts en (one n) (fun a n1 e w'=>e=zg (zh #[])/\J (acc++[a]) n1 w') G)) (sm:Bool) (n:Nat) (w:World) (hw:J [] n w) :
  Calls Tryz.prog 134 #[zd (some ⟨rb,0,none⟩),zc sm,.string sep,.func (.func F) #[] cap.toArray] w (Ao ts en (Bn ts sep.data.toList one (ts.length+1) sm [] n) (fun l n1 e w'=>e=zg (zh #[])/\J l n1 w') G):=by
 obtain ⟨g,j⟩:=nm (Bn ts sep.data.toList one (ts.length+1) sm [] n);rw [<-j];have HR:=Aa j;have HJ:=Aa hJ;have HM:=Aa hm;have Y:=Aa hJt;have H1:=Aa h1;have HW:=Aa hw;have Z:=Aa hsep;clear j hJ hm hJt h1 hw hsep;go_enter Tryz.func134,Tryz.ntmps134;go_wp2_with fail;go_loopw [1] (fun b wr=>∃ (bb:Bool) (acc:List α) (n f:Nat),b=zc bb/\J acc n wr/\Bn ts sep.data.toList one f bb acc n=g/\ts.length - n < f) (fun b wr=>2*(ts.length - nOf rb wr)+bOf b)
 case atStart=>exact ⟨sm,[],n,ts.length+1,rfl,HW.o,HR.o.symm,by omega⟩
 case round=>
  obtain ⟨bb,acc,n,f,rfl,H,Q,x⟩:=hrel;obtain ⟨f,rfl⟩:∃ f',f=f' + 1:=⟨f - 1,by omega⟩;have k:=HJ.o _ _ _ H
  cases bb with
  | false=>
   have hr:g=.inl (acc,n):=by rw [<-Q];rfl
   have HE:=Aa H;have A:=Aa hr;clear Q x k H hr;go_wp2_with fail;go_end0;rw [A.o];exact ⟨rfl,HE.o⟩
  | true=>
   have K:Aw (one n) (fun a n1=>if isT ts n1 sep.data.toList=true then Bn ts sep.data.toList one f true (acc++[a]) (n1+1) else .inl (acc++[a],n1))=g:=Q;have HN:=Aa (EZ k);have B:=k.2.1;have KO:=Aa (H1.o acc n wr H);have O:=Aa K;have U:=Aa (And.intro x B);clear Q K k H x B;go_wp2_with fail;refine KO.o.mono ?_;rintro e w1 P
   cases ho:one n with
   | inr m=>
    rw [ho] at P;obtain ⟨rfl,X⟩:=P;have hr:g=.inr m:=by rw [<-O.o,ho];rfl
    have A:=Aa hr;have HG:=Aa X;clear hr X ho;unfold Ai;go_wp2_with fail;refine ⟨rfl,?_⟩;rw [A.o];exact ⟨rfl,HG.o⟩
   | inl p=>
    obtain ⟨a,n1⟩:=p;rw [ho] at P;obtain ⟨rfl,y⟩:=P;have E:=HM.o _ _ _ ho;have i:=HJ.o _ _ _ y;have r:=i.2.1;have KT:=Aa (Fs sep Z.o n1 w1 i);have v:=O.o;rw [ho,Am] at v;have L:=Aa v;have M:=Aa y;have V:=Aa (And.intro E r);clear v y E r ho i;go_wp2_with fail;refine KT.o.mono ?_;rintro e w2 ⟨rfl,I,c⟩;obtain ⟨q,R⟩:=nm (isT ts n1 sep.data.toList);rw [<-R] at c ⊢;have S:=Aa R;have u:=Aa c;have N:=Aa I;have T:=Aa (EZ c);clear R c I;go_wp2_with fail;have hl:=V.o;have ad:=U.o;have ac:=HN.o;have C:=T.o
    cases q with
    | true=>
     have W:n1 < ts.length:=B9 S.o.symm Z.o;refine ⟨⟨true,acc++[a],n1+1,f,rfl,Y.o _ _ _ _ _ M.o (by omega) N.o (by simpa using u.o),?_,by omega⟩,?_⟩
     ·have:=L.o
      rw [<-S.o] at this;simpa using this
     ·simp at C
      simp [bOf];omega
    | false=>
     refine ⟨⟨false,acc++[a],n1,f+1,rfl,Y.o _ _ _ _ _ M.o (Nat.le_refl _) N.o (by simpa using u.o),?_,by omega⟩,?_⟩
     ·have:=L.o
      rw [<-S.o] at this;rw [<-show (Sum.inl (acc++[a],n1):Res (List α))=g by simpa using this];rfl
     ·simp at C
      simp [bOf];omega
end
theorem Tryz.infoStr:(Tryz.prog.info? 9).map (fun i=>(i.zero,i.size,i.bytes))=some (some (.string ⟨#[]⟩),1,16):=by kernel_rfl
theorem Ak {α:Type}:∀ r:Res α,(∃ m,r=.inr m)\/∃ a n,r=.inl (a,n)
 | .inr m=>Or.inl ⟨m,rfl⟩
 | .inl (a,n)=>Or.inr ⟨a,n,rfl⟩
structure Gro {α:Type} (w0:World) (rb:Nat) (tv:Value) (ts:List Tok) (en n0 lb xb T s:Nat) (R:World->List Value->α->Prop) (acc:List α) (n:Nat) (w:World):Prop where
 st0:St rb tv ts en n0 w0
 st:St rb tv ts en n w
 gr:w0.grownBy w (some rb)
 l0:w0.heap.size<=lb
 l1:lb < w0.heap.size+2
 x0:w0.heap.size<=xb
 x1:xb < w0.heap.size+2
 ne:lb≠xb
 sz:w0.heap.size+2<=w.heap.size
 xc:w.cell? ⟨xb,0,none⟩=some (zd (some ⟨rb,0,none⟩))
 fz:∀ j,w.frozen? ⟨lb,j,none⟩=false
 few:acc.length<=n
 row:∃ v,w.cell? ⟨lb,0,none⟩=some v/\Cop (w0.heap.size+2) T s (fun i cs W=>∀ x,acc[i]? = some x->R W cs x) acc.length v w
section
variable {α:Type} {w0:World} {rb:Nat} {tv:Value} {ts:List Tok} {en n0 lb xb T s:Nat} {R:World->List Value->α->Prop} {acc:List α} {n n1:Nat} {w w1 W2 W3:World} {v v2:Value} {xs cs:List Value} {a:α}
theorem Gro.rlt (h:Gro w0 rb tv ts en n0 lb xb T s R acc n w):rb < w0.heap.size:=h.st0.lt
theorem Gro.move (h:Gro w0 rb tv ts en n0 lb xb T s R acc n w) (hn:n<=n1) (hg:w.grownBy w1 (some rb)) (hs:St rb tv ts en n1 w1):Gro w0 rb tv ts en n0 lb xb T s R acc n1 w1:=by
 obtain ⟨v,f,g⟩:=h.row;have hr:=h.rlt;have k:=h.l0;have i:=h.x0;have b:some lb≠some rb:=fun e=>by injection e with e;omega
 have c:some xb≠some rb:=fun e=>by injection e with e;omega
 refine ⟨h.st0,hs,Ac h.gr hg,h.l0,h.l1,h.x0,h.x1,h.ne,Nat.le_trans h.sz hg.size,hg.cell h.xc c,fun j=>?_,Nat.le_trans h.few hn,v,hg.cell f b,g.keep hg (by omega)⟩;rw [World.frozen?_of_block (a:=⟨lb,j,none⟩) (hg.block lb (bL f) b)];exact h.fz j
theorem Gro.app (h:Gro w0 rb tv ts en n0 lb xb T s R acc n w) (hv:w.cell? ⟨lb,0,none⟩=some v) (hg:w.grownBy w1 (some rb)) (hb:Ov w1 W2):∃ xs,W2.ownsRow (w0.heap.size+2) T s v acc.length xs/\(∀ i,i < acc.length->∃ cs:List Value,cs.length=s/\(∀ j u,cs[j]? = some u->xs[i*s+j]? = some u)/\Off (w0.heap.size+2) v.ownBlock W2 (fun W=>∀ x,acc[i]? = some x->R W cs x))/\∀ k,v.ownBlock=some k->k < w.heap.size:=by
 obtain ⟨r,a,b⟩:=h.row;rw [hv] at a;injection a with a;subst a;have hr:=h.rlt;obtain ⟨xs,l,g⟩:=(b.keep hg (by omega)).over hb;obtain ⟨m,f,-⟩:=b;exact ⟨xs,l,g,fun k c=>(AF f c).2⟩
theorem Gro.add (h:Gro w0 rb tv ts en n0 lb xb T s R acc n w) (hv:w.cell? ⟨lb,0,none⟩=some v) (hg:w.grownBy w1 (some rb)) (hs:St rb tv ts en n1 w1) (hn:n+1<=n1) (hb:Ov w1 W2)
  (hown:W2.ownsRow (w0.heap.size+2) T s v acc.length xs) (hel:∀ i,i < acc.length->∃ cs:List Value,cs.length=s/\(∀ j u,cs[j]? = some u->xs[i*s+j]? = some u)/\Off (w0.heap.size+2) v.ownBlock W2 (fun W=>∀ x,acc[i]? = some x->R W cs x)) (hrow:∀ k,v.ownBlock=some k->k < w.heap.size)
  (hl:cs.length=s) (hoff:Off w.heap.size none w1 (fun W=>R W cs a)) (hown3:W3.ownsRow (w0.heap.size+2) T s v2 (acc.length+1) (xs++cs)) (hgr:W2.grownBy W3 v.ownBlock) (hat:v2.ownBlock=v.ownBlock\/v2.ownBlock=some W2.heap.size) :
  Gro w0 rb tv ts en n0 lb xb T s R (acc++[a]) n1 (W3.setCell ⟨lb,0,none⟩ v2)/\W3.cell? ⟨lb,0,none⟩=some v/\W3.cell? ⟨xb,0,none⟩=some (zd (some ⟨rb,0,none⟩))/\W3.frozen? ⟨lb,0,none⟩=false:=by
 have hr:=h.rlt;have N:=h.l0;have I:=h.l1;have S:=h.x0;have M:=h.x1;have g:=h.sz;have m:some lb≠some rb:=fun e=>by injection e with e;omega
 have B:some xb≠some rb:=fun e=>by injection e with e;omega
 have c:∀ k,k < w0.heap.size+2->some k≠v.ownBlock:=fun k G e=>by have:=(AF hown e.symm).1;omega
 have l1:=ce1 hb (hg.cell hv m);have x1:=ce1 hb (hg.cell h.xc B);have U:∀ j,W2.frozen? ⟨lb,j,none⟩=false:=fun j=>by
  rw [World.frozen?_of_block (a:=⟨lb,j,none⟩) (hb.block lb (Nat.lt_of_lt_of_le (bL hv) hg.size)),World.frozen?_of_block (a:=⟨lb,j,none⟩) (hg.block lb (bL hv) m)];exact h.fz j
 have K:W3.cell? ⟨lb,0,none⟩=some v:=(World.cell?_of_block (a:=⟨lb,0,none⟩) (hgr.block lb (bL l1) (c lb I))).trans l1;have J:W3.cell? ⟨xb,0,none⟩=some (zd (some ⟨rb,0,none⟩)):=(World.cell?_of_block (a:=⟨xb,0,none⟩) (hgr.block xb (bL x1) (c xb M))).trans x1;have O:∀ j,W3.frozen? ⟨lb,j,none⟩=false:=fun j=>(World.frozen?_of_block (a:=⟨lb,j,none⟩) (hgr.block lb (bL l1) (c lb I))).trans (U j);have b:w0.grownBy W2 (some rb):=Ac (Ac h.gr hg) (Ad hb);have H:w0.grownBy W3 (some rb):=⟨hgr.os.trans b.os,hgr.tape.trans b.tape,hgr.output.trans b.output,Nat.le_trans b.size hgr.size,fun k G F=>(hgr.block k (Nat.lt_of_lt_of_le G b.size) (c k (by omega))).trans (b.block k G F)⟩;have C:(W3.setCell ⟨lb,0,none⟩ v2).heap.size=W3.heap.size:=by simp [World.setCell]
 have y:w0.grownBy (W3.setCell ⟨lb,0,none⟩ v2) (some rb):=Aj H N v2;have E:(W3.setCell ⟨lb,0,none⟩ v2).heap[rb]? = w1.heap[rb]?:=by
  rw [Below.heap_setCell _ _ _ _ (by show rb≠lb;omega),hgr.block rb (Nat.lt_of_lt_of_le hr b.size) (c rb (by omega)),hb.block rb hs.lt]
 have l:St rb tv ts en n1 (W3.setCell ⟨lb,0,none⟩ v2):=h.st0.keep y (by rw [E];exact hs.1) hs.2.1;have A:Cop (w0.heap.size+2) T s (fun i cs W=>∀ x,(acc++[a])[i]? = some x->R W cs x) (acc.length+1) v2 W3:=Cop.add (B1:=w.heap.size) hown (fun i L=>by
   obtain ⟨V,q1,Q,P⟩:=hel i L;exact ⟨V,q1,Q,P.imp fun W hW x f=>hW x (by rw [List.getElem?_append_left L] at f;exact f)⟩) hl ((hoff.over hb).imp fun W hW x f=>by
    rw [List.getElem?_append_right (Nat.le_refl _),Nat.sub_self] at f;injection f with f;rw [<-f];exact hW) g hrow hown3 hgr hat
 refine ⟨⟨h.st0,l,y,N,I,S,M,h.ne,by rw [C];exact Nat.le_trans g (Nat.le_trans hg.size (Nat.le_trans hb.size hgr.size)),?_,fun j=>?_,?_,v2,?_,?_⟩,K,J,O 0⟩
 ·have:=(CM (w:=W3) (r:=lb) (j:=0) (u:=v2)).cell J (fun e=>by injection e with e;exact h.ne e.symm)
  exact this
 ·have:(W3.setCell ⟨lb,0,none⟩ v2).frozen? ⟨lb,j,none⟩=W3.frozen? ⟨lb,j,none⟩:=by simp [go_sem]
  rw [this];exact O j
 ·have:=h.few
  simp;omega
 ·exact World.cell?_setCell_same' _ _ _ (by rw [K];rfl)
 ·rw [List.length_append]
  exact A.set (by omega)
end
theorem LA {w0:World} {rb:Nat} {tv:Value} {ts:List Tok} {en n0 lb xb:Nat} (acc:List ByteArray) (n:Nat) (w:World) (h:Gro w0 rb tv ts en n0 lb xb 9 1 (fun _ cs x=>cs=[Value.string x]) acc n w) :
  Calls Tryz.prog 154 #[zd (some ⟨lb,0,none⟩),zd (some ⟨xb,0,none⟩)] w (Ao ts en (AD ts n) (fun a n1 e w'=>e=zg (zh #[])/\Gro w0 rb tv ts en n0 lb xb 9 1 (fun _ cs x=>cs=[Value.string x]) (acc++[a]) n1 w') (fun w'=>w0.grownBy w' (some rb))):=by
 obtain ⟨i0,hi,af,ae,ad⟩:=info_parts Tryz.infoStr;obtain ⟨v,l0,-⟩:=h.row;have x0:=h.xc;have b:=Aa h;have HL:=Aa l0;have KN:Hx (∀ X,St rb tv ts en n X->_):=fun X hX=>Ck n X hX;have HM:Hx (∀ n a n1,AD ts n=.inl (a,n1)->n+1<=n1):=fun n a n1 h=>by
  unfold AD at h;split at h
  ·injection h with h;injection h with _ h;omega
  ·cases h
 clear h;go_enter Tryz.func154,Tryz.ntmps154;go_wp2_with fail;refine gS (fun Wz=>Wz.cell? ⟨xb,0,none⟩=some (zd (some ⟨rb,0,none⟩))) (ce1 (bD w) x0) fun c=>?_;have ag:Hx (Ov w w.drew):=bD w;have ap:=ce1 (bD w) l0;generalize w.drew=W at c ap ag ⊢;refine kT 1 ?_;refine rdB 0 2 rfl (fun K g=>?_) rfl fun K g=>?_
 ·go_simp
  refine xK g (c) fun c=>?_;clear g K;refine rdA 2 rfl fun K g=>?_;have N:Hx (Ov w W):=ag.o;go_simp;refine (KN.o _ (b.o.st.below N.o)).mono ?_;rintro e C hp;obtain ⟨m,M⟩ | ⟨a,n1,M⟩:=Ak (AD ts n)
  ·rw [M] at hp
   obtain ⟨rfl,hg⟩:=hp;have HG:=Aa (Ac (Ac b.o.gr (Ad N.o)) hg);have Z:=Aa M;clear hg M g c;unfold Ai;go_simp;refine ⟨rfl,?_⟩;rw [Z.o];exact ⟨rfl,HG.o⟩
  rw [M] at hp;obtain ⟨rfl,V,H⟩:=hp;have R:Hx (Off w.heap.size none C (fun W=>[Value.string a]=[Value.string a])):=fun W _=>rfl;have Z:=Aa M;have G:w.grownBy C (some rb):=Ac (Ad N.o) V;have F:=Aa G;have Q:=Aa H;have U:some lb≠some rb:=fun e=>by injection e with e;have:=b.o.rlt;have:=b.o.l0;omega
  have S:some xb≠some rb:=fun e=>by injection e with e;have:=b.o.rlt;have:=b.o.x0;omega
  have l1:C.cell? ⟨lb,0,none⟩=some v:=G.cell HL.o U;have x1:C.cell? ⟨xb,0,none⟩=some (zd (some ⟨rb,0,none⟩)):=G.cell b.o.xc S;clear M V H G U S c;go_simp;refine xK g (x1) fun c=>?_;clear g K;refine rdA 3 rfl fun K g=>?_;obtain ⟨O,k⟩:=nm (C.alloc (ze #[.string a] 9));have j:Ov C O:=by rw [k];exact bA _ _
  have aa:Hx (Ae [.string a] O C.heap.size):=by show Ae _ _ _;rw [k];exact AW C [.string a] 9
  have l2:=ce1 j l1;have x2:=ce1 j x1;have E:=Aa j;go_simp;rw [<-k];clear k j;refine xK g (x2) fun c=>?_;clear g K;refine rdA 4 rfl fun K g=>?_;obtain ⟨xs,i,J,r⟩:=b.o.app HL.o F.o E.o;have I:w0.heap.size+2<=O.heap.size:=Nat.le_trans b.o.sz (Nat.le_trans F.o.size E.o.size);have Y:acc.length<=6000:=Nat.le_trans b.o.few (Nat.le_trans b.o.st.2.1 b.o.st.2.2.1);obtain ⟨v2,W3,l,f,A,-,L⟩:=run_append_own_at (P:=Tryz.prog) (w:=O) (w0.heap.size+2) 46 46 9 i0 (.string ⟨#[]⟩) 1 16 Tryz.underlying46 hi af ae ad rfl (by decide) _ _ _ i ⟨C.heap.size,0,none⟩ 1 1 [.string a] rfl (fun jj u hu=>by rw [Addr.add_lit,Nat.zero_add];exact aa.o jj u hu) (by simp [Value.oneCell']) (by unfold maxLen;omega) (by omega) I;obtain ⟨y,l3,x3,f3⟩:=b.o.add (a:=a) HL.o F.o Q.o (HM.o _ _ _ Z.o) E.o i J r rfl R.o f A L;have B:=Aa y;obtain ⟨al,aj,ak,T⟩:=AK f;subst T;refine AP rfl _ _ _ rfl _ _ _ _ rfl rfl l ?_;clear l i J f A L y r Y I;refine xK g (x3) fun c=>?_;clear g K;refine rdA 5 rfl fun K g=>?_;go_simp;refine xK g (B.o.xc) fun c=>?_;clear g K;refine gE ?_;go_wp2_with fail;go_end0;rw [Z.o];exact ⟨rfl,B.o⟩
 ·have N:Hx (Ov w W):=ag.o
  go_simp;refine (KN.o _ (b.o.st.below N.o)).mono ?_;rintro e C hp;obtain ⟨m,M⟩ | ⟨a,n1,M⟩:=Ak (AD ts n)
  ·rw [M] at hp
   obtain ⟨rfl,hg⟩:=hp;have HG:=Aa (Ac (Ac b.o.gr (Ad N.o)) hg);have Z:=Aa M;clear hg M g c;unfold Ai;go_simp;refine ⟨rfl,?_⟩;rw [Z.o];exact ⟨rfl,HG.o⟩
  rw [M] at hp;obtain ⟨rfl,V,H⟩:=hp;have R:Hx (Off w.heap.size none C (fun W=>[Value.string a]=[Value.string a])):=fun W _=>rfl;have Z:=Aa M;have G:w.grownBy C (some rb):=Ac (Ad N.o) V;have F:=Aa G;have Q:=Aa H;have U:some lb≠some rb:=fun e=>by injection e with e;have:=b.o.rlt;have:=b.o.l0;omega
  have S:some xb≠some rb:=fun e=>by injection e with e;have:=b.o.rlt;have:=b.o.x0;omega
  have l1:C.cell? ⟨lb,0,none⟩=some v:=G.cell HL.o U;have x1:C.cell? ⟨xb,0,none⟩=some (zd (some ⟨rb,0,none⟩)):=G.cell b.o.xc S;clear M V H G U S c;go_simp;refine xK g (x1) fun c=>?_;clear g K;refine rdB 0 3 rfl (fun K g=>?_) rfl fun K g=>?_
  ·go_simp
   refine xK g (c) fun c=>?_;clear g K;refine rdA 3 rfl fun K g=>?_;obtain ⟨O,k⟩:=nm (C.alloc (ze #[.string a] 9));have j:Ov C O:=by rw [k];exact bA _ _
   have aa:Hx (Ae [.string a] O C.heap.size):=by show Ae _ _ _;rw [k];exact AW C [.string a] 9
   have l2:=ce1 j l1;have x2:=ce1 j x1;have E:=Aa j;go_simp;rw [<-k];clear k j;refine xK g (x2) fun c=>?_;clear g K;refine rdA 4 rfl fun K g=>?_;obtain ⟨xs,i,J,r⟩:=b.o.app HL.o F.o E.o;have I:w0.heap.size+2<=O.heap.size:=Nat.le_trans b.o.sz (Nat.le_trans F.o.size E.o.size);have Y:acc.length<=6000:=Nat.le_trans b.o.few (Nat.le_trans b.o.st.2.1 b.o.st.2.2.1);obtain ⟨v2,W3,l,f,A,-,L⟩:=run_append_own_at (P:=Tryz.prog) (w:=O) (w0.heap.size+2) 46 46 9 i0 (.string ⟨#[]⟩) 1 16 Tryz.underlying46 hi af ae ad rfl (by decide) _ _ _ i ⟨C.heap.size,0,none⟩ 1 1 [.string a] rfl (fun jj u hu=>by rw [Addr.add_lit,Nat.zero_add];exact aa.o jj u hu) (by simp [Value.oneCell']) (by unfold maxLen;omega) (by omega) I;obtain ⟨y,l3,x3,f3⟩:=b.o.add (a:=a) HL.o F.o Q.o (HM.o _ _ _ Z.o) E.o i J r rfl R.o f A L;have B:=Aa y;obtain ⟨al,aj,ak,T⟩:=AK f;subst T;refine AP rfl _ _ _ rfl _ _ _ _ rfl rfl l ?_;clear l i J f A L y r Y I;refine xK g (x3) fun c=>?_;clear g K;refine rdA 5 rfl fun K g=>?_;go_simp;refine xK g (B.o.xc) fun c=>?_;clear g K;refine gE ?_;go_wp2_with fail;go_end0;rw [Z.o];exact ⟨rfl,B.o⟩
  ·obtain ⟨O,k⟩:=nm (C.alloc (ze #[.string a] 9))
   have j:Ov C O:=by rw [k];exact bA _ _
   have aa:Hx (Ae [.string a] O C.heap.size):=by show Ae _ _ _;rw [k];exact AW C [.string a] 9
   have l2:=ce1 j l1;have x2:=ce1 j x1;have E:=Aa j;go_simp;rw [<-k];clear k j;refine xK g (x2) fun c=>?_;clear g K;refine rdA 0 rfl fun K g=>?_;go_simp;refine xK g (c) fun c=>?_;clear g K;refine rdA 4 rfl fun K g=>?_;obtain ⟨xs,i,J,r⟩:=b.o.app HL.o F.o E.o;have I:w0.heap.size+2<=O.heap.size:=Nat.le_trans b.o.sz (Nat.le_trans F.o.size E.o.size);have Y:acc.length<=6000:=Nat.le_trans b.o.few (Nat.le_trans b.o.st.2.1 b.o.st.2.2.1);obtain ⟨v2,W3,l,f,A,-,L⟩:=run_append_own_at (P:=Tryz.prog) (w:=O) (w0.heap.size+2) 46 46 9 i0 (.string ⟨#[]⟩) 1 16 Tryz.underlying46 hi af ae ad rfl (by decide) _ _ _ i ⟨C.heap.size,0,none⟩ 1 1 [.string a] rfl (fun jj u hu=>by rw [Addr.add_lit,Nat.zero_add];exact aa.o jj u hu) (by simp [Value.oneCell']) (by unfold maxLen;omega) (by omega) I;obtain ⟨y,l3,x3,f3⟩:=b.o.add (a:=a) HL.o F.o Q.o (HM.o _ _ _ Z.o) E.o i J r rfl R.o f A L;have B:=Aa y;obtain ⟨al,aj,ak,T⟩:=AK f;subst T;refine AP rfl _ _ _ rfl _ _ _ _ rfl rfl l ?_;clear l i J f A L y r Y I;refine xK g (x3) fun c=>?_;clear g K;refine rdA 5 rfl fun K g=>?_;go_simp;refine xK g (B.o.xc) fun c=>?_;clear g K;refine gE ?_;go_wp2_with fail;go_end0;rw [Z.o];exact ⟨rfl,B.o⟩
def LS {α:Type} (size:Nat) (R:List Value->α->Prop) (w:World) (v:Value) (l:List α):Prop:=
 l.length<=maxLen/\∃ ao cap,v=U ao l.length cap/\(l≠[]->∃ b off,ao=some ⟨b,off,none⟩/\∀ (i:Nat) (a:α),l[i]? = some a->∃ cs:List Value,cs.length=size/\(∀ (j:Nat) (u:Value),cs[j]? = some u->w.cell? ⟨b,off+i*size+j,none⟩=some u)/\R cs a)
abbrev RN (cs:List Value) (a:ByteArray):Prop:=cs=[Value.string a]
abbrev BF (w:World) (v:Value) (l:List ByteArray):Prop:=LS 1 RN w v l
theorem LS.nil {α:Type} {size:Nat} {R:List Value->α->Prop} {w:World} {ao:Option Addr} {cap:Nat}:LS size R w (U ao 0 cap) []:=⟨Nat.zero_le _,ao,cap,rfl,fun h=>absurd rfl h⟩
theorem Cop.ls {α:Type} {B T s:Nat} {R:World->List Value->α->Prop} {l:List α} {v:Value} {w:World} (h:Cop B T s (fun i cs W=>∀ x,l[i]? = some x->R W cs x) l.length v w) (hs:0 < s) (hl:l.length<=1000000):∃ a c,v=U a l.length c/\Off B none w (fun W=>LS s (R W) W (U a l.length c) l):=by
 obtain ⟨a,c,k,n⟩:=h.cells hs;refine ⟨a,c,k,fun W hW=>⟨by unfold maxLen;omega,a,c,rfl,fun f=>?_⟩⟩;obtain ⟨b,y,r⟩:=n W hW (fun e=>f (List.eq_nil_of_length_eq_zero e));refine ⟨b,0,y,fun i x g=>?_⟩;obtain ⟨cs,E,C,A⟩:=r i (List.getElem?_eq_some_iff.1 g).1;exact ⟨cs,E,fun j u m=>by rw [Nat.zero_add];exact C j u m,A x g⟩
theorem Fu (w:World) (o:Obj):(w.alloc o).heap[w.heap.size]? = some o:=by
 show (w.heap.push o)[w.heap.size]? = some o;simp
theorem Gro.start {α:Type} {rb:Nat} {tv:Value} {ts:List Tok} {en n T s:Nat} {R:World->List Value->α->Prop} {w:World} (h:St rb tv ts en n w) (S:Nat) :
  Gro w rb tv ts en n (w.heap.size+1) w.heap.size T s R [] n ((w.alloc (ze #[zd (some ⟨rb,0,none⟩)] 91)).alloc (ze #[U none 0 0] S)):=by
 have b:Ov w ((w.alloc (ze #[zd (some ⟨rb,0,none⟩)] 91)).alloc (ze #[U none 0 0] S)):=(bA w _).alloc (by simp) _;refine ⟨h,h.below b,Ad b,by omega,by omega,by omega,by omega,by omega,by simp,?_,fun j=>?_,Nat.zero_le _,U none 0 0,?_,Cop.nil⟩
 ·exact ce1 (bA _ _) (AW w [zd (some ⟨rb,0,none⟩)] 91 0 _ rfl)
 ·have a:=Fu (w.alloc (ze #[zd (some ⟨rb,0,none⟩)] 91)) (ze #[U none 0 0] S)
  rw [alS] at a;exact Lib.frozen_of_heap a j
 ·have:=AW (w.alloc (ze #[zd (some ⟨rb,0,none⟩)] 91)) [U none 0 0] S 0 _ rfl
  rw [alS] at this;exact this
theorem Mp (args:Array Value) (w:World):(callFunc 154 args).run Tryz.prog w=.ok (.enter 154 args) w:=by simp [go_sem]
theorem Bf {ts:List Tok} {n:Nat} {a:ByteArray} {n1:Nat} (h:AD ts n=.inl (a,n1)):n+1<=n1:=by
 unfold AD at h;split at h
 ·injection h with h;injection h with _ h;omega
 ·cases h
theorem GJ {rb:Nat} {tv:Value} {ts:List Tok} {en:Nat} (sm:Bool) (n:Nat) (w:World) (h:St rb tv ts en n w) :
  Calls Tryz.prog 132 #[zd (some ⟨rb,0,none⟩),zc sm] w (Ao ts en (Bi ts sm n) (fun l n1 e w'=>∃ a c,e=zg (U a l.length c)/\Off w.heap.size none w' (fun W=>BF W (U a l.length c) l)/\l.length<=6000/\w.grownBy w' (some rb)/\St rb tv ts en n1 w') (fun w'=>w.grownBy w' (some rb))):=by
 obtain ⟨V,E⟩:=nm ((w.alloc (ze #[zd (some ⟨rb,0,none⟩)] 91)).alloc (ze #[U none 0 0] 46));have K:Gro w rb tv ts en n (w.heap.size+1) w.heap.size 9 1 (fun _ F x=>F=[Value.string x]) [] n V:=by rw [E];exact Gro.start h 46
 have P:=Aa (IZ (rb:=rb) (tv:=tv) (ts:=ts) (en:=en) 154 [zd (some ⟨w.heap.size+1,0,none⟩),zd (some ⟨w.heap.size,0,none⟩)] Mp ⟨#[44]⟩ (by decide) (AD ts) (fun r n2 w'=>Gro w rb tv ts en n (w.heap.size+1) w.heap.size 9 1 (fun _ F x=>F=[Value.string x]) r n2 w') (fun w'=>w.grownBy w' (some rb)) (fun _ _ _ h=>h.st) (fun _ _ _ h=>Nat.le_of_lt (Bf h)) (fun _ _ _ _ _ h O g N=>h.move O g N) (fun r n w' h=>LA r n w' h) sm n V K);obtain ⟨L,b⟩:=nm (Bi ts sm n);rw [<-b];have Q:=Aa b;clear K h b;go_enter Tryz.func132,Tryz.ntmps132;go_wp2_with fail;rw [<-E];clear E;refine P.o.mono ?_;rintro e I A;have b:=Q.o;obtain ⟨m,j⟩ | ⟨l,n1,j⟩:=Ak (Bi ts sm n)
 ·have f:Ao ts en (Bi ts sm n) _ _ e I:=A
  rw [j] at f;obtain ⟨rfl,g⟩:=f;have B:=Aa g;have G:=Aa (b.trans j);clear g j b A;unfold Ai;go_wp2_with fail;refine ⟨rfl,?_⟩;rw [G.o];exact ⟨rfl,B.o⟩
 ·have f:Ao ts en (Bi ts sm n) _ _ e I:=A
  rw [j] at f;obtain ⟨rfl,g⟩:=f;obtain ⟨v,M,J⟩:=g.row;have u:l.length<=6000:=Nat.le_trans g.few (Nat.le_trans g.st.2.1 g.st.2.2.1);obtain ⟨a,c,rfl,i⟩:=Cop.ls J (by decide) (by omega);have G:=Aa (b.trans j);have B:=Aa g;have y:=Aa (i.base (B':=w.heap.size) (by omega));have H:=Aa u;obtain ⟨k,C⟩:=nm l.length;rw [<-C] at M;have R:=Aa C;clear j g J i b A u C;go_wp2_with fail;go_ret;rw [G.o];exact ⟨a,c,by rw [R.o];rfl,y.o,H.o,B.o.gr,B.o.st⟩
structure Rd (rb:Nat) (tv:Value) (ts:List Tok) (en:Nat) (w:World) (n:Nat) (V:World):Prop where
 st0:∃ n0,St rb tv ts en n0 w
 st:St rb tv ts en n V
 gr:w.grownBy V (some rb)
structure Bx (b:Nat) (cs:List Value) (V:World):Prop where
 row:Ae cs V b
 fz:∀ j,V.frozen? ⟨b,j,none⟩=false
 lt:b < V.heap.size
section
variable {rb:Nat} {tv:Value} {ts:List Tok} {en n n1 b c j T:Nat} {w V V':World} {cs ds:List Value} {u:Value}
theorem Af (w:World) (r:Option Nat):w.grownBy w r:=Ad (Below.refl _ _)
theorem Rd.start (h:St rb tv ts en n w):Rd rb tv ts en w n w:=⟨⟨n,h⟩,h,Af w _⟩
theorem Rd.rlt (h:Rd rb tv ts en w n V):rb < w.heap.size:=by obtain ⟨b,a⟩:=h.st0;exact a.lt
theorem Rd.size (h:Rd rb tv ts en w n V):w.heap.size<=V.heap.size:=h.gr.size
theorem Rd.call (h:Rd rb tv ts en w n V) (hg:V.grownBy V' (some rb)) (hs:St rb tv ts en n1 V'):Rd rb tv ts en w n1 V':=⟨h.st0,hs,Ac h.gr hg⟩
theorem Rd.over (h:Rd rb tv ts en w n V) (hb:Ov V V'):Rd rb tv ts en w n V':=⟨h.st0,h.st.below hb,Ac h.gr (Ad hb)⟩
theorem Rd.set (h:Rd rb tv ts en w n V) (hb:w.heap.size<=b):Rd rb tv ts en w n (V.setCell ⟨b,j,none⟩ u):=by
 obtain ⟨f,a⟩:=h.st0;have hr:=a.lt;have c:=Aj h.gr (p:=⟨b,j,none⟩) hb u;exact ⟨⟨f,a⟩,a.keep c (by rw [Below.heap_setCell _ _ _ _ (by show rb≠b;omega)];exact h.st.1) h.st.2.1,c⟩
theorem Bx.new (V:World) (cs:List Value) (T:Nat):Bx V.heap.size cs (V.alloc (.cells cs.toArray T)):=⟨AW V cs T,fun j=>Lib.frozen_of_heap (Fu V _) j,by rw [alS];omega⟩
theorem Bx.over (h:Bx b cs V) (hb:Ov V V'):Bx b cs V':=⟨fun j u hu=>ce1 hb (h.row j u hu),fun j=>by rw [World.frozen?_of_block (a:=⟨b,j,none⟩) (hb.block b h.lt)];exact h.fz j,Nat.lt_of_lt_of_le h.lt hb.size⟩
theorem Bx.keep (h:Bx b cs V) (hg:V.grownBy V' (some rb)) (hb:b≠rb):Bx b cs V':=
 have hbr:some b≠some rb:=fun e=>hb (by injection e)
 ⟨fun j u hu=>hg.cell (h.row j u hu) hbr,fun j=>by rw [World.frozen?_of_block (a:=⟨b,j,none⟩) (hg.block b h.lt hbr)];exact h.fz j,Nat.lt_of_lt_of_le h.lt hg.size⟩
theorem Bx.far (h:Bx b cs V) (hb:b≠c):Bx b cs (V.setCell ⟨c,j,none⟩ u):=by
 have a:=CM (w:=V) (r:=c) (j:=j) (u:=u);exact h.keep a hb
theorem Bx.set (h:Bx b cs V) (hj:j < cs.length):Bx b (cs.set j u) (V.setCell ⟨b,j,none⟩ u):=by
 refine ⟨fun i x a=>?_,fun i=>?_,?_⟩
 ·rw [List.getElem?_set] at a
  by_cases hij:j=i
  ·subst hij
   rw [if_pos rfl,if_pos hj] at a;injection a with a;rw [<-a];exact World.cell?_setCell_same' _ _ _ (by rw [h.row j _ (List.getElem?_eq_getElem hj)];rfl)
  ·rw [if_neg hij] at a
   rw [World.cell?_setCell_other _ _ _ _ (by intro e;injection e with f c;exact hij c)];exact h.row i x a
 ·have:(V.setCell ⟨b,j,none⟩ u).frozen? ⟨b,i,none⟩=V.frozen? ⟨b,i,none⟩:=by simp [go_sem]
  rw [this];exact h.fz i
 ·have:(V.setCell ⟨b,j,none⟩ u).heap.size=V.heap.size:=by simp [World.setCell]
  rw [this];exact h.lt
end
theorem bkp {b rb n:Nat} {cs:List Value} {V V':World} (h:Hx (Bx b cs V)) (hr:rb < n) (hl:Hx (n<=b)) (hg:V.grownBy V' (some rb)):Hx (Bx b cs V'):=h.o.keep hg (by have:=hl.o;omega)
theorem fz4 {P:Nat->Prop} (h:∀ j,P j):P 0/\P 1/\P 2/\P 3:=⟨h 0,h 1,h 2,h 3⟩
theorem fz5 {P:Nat->Prop} (h:∀ j,P j):P 0/\P 1/\P 2/\P 3/\P 4:=⟨h 0,h 1,h 2,h 3,h 4⟩
theorem fz6 {P:Nat->Prop} (h:∀ j,P j):P 0/\P 1/\P 2/\P 3/\P 4/\P 5:=⟨h 0,h 1,h 2,h 3,h 4,h 5⟩
theorem fz7 {P:Nat->Prop} (h:∀ j,P j):P 0/\P 1/\P 2/\P 3/\P 4/\P 5/\P 6:=⟨h 0,h 1,h 2,h 3,h 4,h 5,h 6⟩
theorem fz8 {P:Nat->Prop} (h:∀ j,P j):P 0/\P 1/\P 2/\P 3/\P 4/\P 5/\P 6/\P 7:=⟨h 0,h 1,h 2,h 3,h 4,h 5,h 6,h 7⟩
theorem fz9 {P:Nat->Prop} (h:∀ j,P j):P 0/\P 1/\P 2/\P 3/\P 4/\P 5/\P 6/\P 7/\P 8:=⟨h 0,h 1,h 2,h 3,h 4,h 5,h 6,h 7,h 8⟩
theorem Nm {P:Nat->Prop} (h:∀ j,P j):P 0/\P 1/\P 2/\P 3/\P 4/\P 5/\P 6/\P 7/\P 8/\P 9:=⟨h 0,h 1,h 2,h 3,h 4,h 5,h 6,h 7,h 8,h 9⟩
theorem Nl {P:Nat->Prop} (h:∀ j,P j):P 0/\P 1/\P 2/\P 3/\P 4/\P 5/\P 6/\P 7/\P 8/\P 9/\P 10:=⟨h 0,h 1,h 2,h 3,h 4,h 5,h 6,h 7,h 8,h 9,h 10⟩
theorem A0 {P:Nat->Prop} (h:∀ j,P j):P 0/\P 1/\P 2/\P 3/\P 4/\P 5/\P 6/\P 7/\P 8/\P 9/\P 10/\P 11:=⟨h 0,h 1,h 2,h 3,h 4,h 5,h 6,h 7,h 8,h 9,h 10,h 11⟩
theorem A7 {P:Nat->Prop} (h:∀ j,P j):P 0/\P 1/\P 2/\P 3/\P 4/\P 5/\P 6/\P 7/\P 8/\P 9/\P 10/\P 11/\P 12:=⟨h 0,h 1,h 2,h 3,h 4,h 5,h 6,h 7,h 8,h 9,h 10,h 11,h 12⟩
theorem gst {x y:World} {r j:Nat} {u:Value} (h:x.grownBy y (some r)):x.grownBy (y.setCell ⟨r,j,none⟩ u) (some r):=Ac h CM
theorem Bx.se {b:Nat} {cs:List Value} {V:World} {u:Value} (h:Bx b cs V) (j:Nat) (hj:j < cs.length:=by simp):Bx b (cs.set j u) (V.setCell ⟨b,j,none⟩ u):=h.set hj
theorem Rd.box {rb:Nat} {tv:Value} {ts:List Tok} {en n b:Nat} {w V V':World} (h:Rd rb tv ts en w n V) (hg:V.grownBy V' (some b)) (hb:w.heap.size<=b):Rd rb tv ts en w n V':=by
 obtain ⟨j,f⟩:=h.st0;have hr:=f.lt;have a:=h.gr;have c:w.grownBy V' (some rb):=⟨hg.os.trans a.os,hg.tape.trans a.tape,hg.output.trans a.output,Nat.le_trans a.size hg.size,fun i g k=>(hg.block i (Nat.lt_of_lt_of_le g a.size) (fun e=>by injection e with e;omega)).trans (a.block i g k)⟩;exact ⟨⟨j,f⟩,f.keep c (by rw [hg.block rb (Nat.lt_of_lt_of_le hr a.size) (fun e=>by injection e with e;omega)];exact h.st.1) h.st.2.1,c⟩
theorem Ib {rb:Nat} {tv:Value} {ts:List Tok} {en:Nat} (n:Nat) (w:World) (h:St rb tv ts en n w):Calls Tryz.prog 131 #[zd (some ⟨rb,0,none⟩)] w fun e w'=>e=zg (zc (AU (Ah ts n)))/\w.grownBy w' (some rb)/\St rb tv ts en n w':=
 (BE rb tv ts en n w h).mono fun e w' ⟨h1,h2⟩=>⟨h1,Ad h2,h.below h2⟩
theorem Cl {rb:Nat} {tv:Value} {ts:List Tok} {en:Nat} (n:Nat) (w:World) (h:St rb tv ts en n w):Calls Tryz.prog 93 #[zd (some ⟨rb,0,none⟩)] w fun e w'=>e=zg (M O (Ar ts en n))/\w.grownBy w' (some rb)/\St rb tv ts en n w':=
 (BI rb tv ts en n w h).mono fun e w' ⟨h1,h2⟩=>⟨h1,Ad h2,h.below h2⟩
theorem M8 {rb:Nat} {tv:Value} {ts:List Tok} {en:Nat} (x:ByteArray) (n:Nat) (w:World) (h:St rb tv ts en n w):Calls Tryz.prog 51 #[zd (some ⟨rb,0,none⟩),.string x] w fun e w'=>e=zg (zc (isT ts n x.data.toList))/\w.grownBy w' (some rb)/\St rb tv ts en n w':=
 (Gr rb tv ts en n x w h).mono fun e w' ⟨h1,h2⟩=>⟨h1,Ad h2,h.below h2⟩
def F2 (W:World) (cs:List Value) (d:D):Prop:=∃ (at_:Int) (o:ByteArray) (wr:Bool) (ns:List ByteArray) (v:Value),cs=[M O at_,.string o,zc wr,v]/\d=Dp at_ o wr ns/\BF W v ns
end Go.Proofs.YtipngnjffjajpaaGreatDoor.Tx
