/- Trees: what is asked of them, in plain words; two ways of counting are one. -/
import Derived.Test.YtipngnjffjajpaaGreatDoorH18
set_option linter.unusedVariables false
set_option maxHeartbeats 8000000
set_option maxRecDepth 100000
namespace Go.Proofs.YtipngnjffjajpaaGreatDoor.Tx
open Go.RowKit
open Go.Value renaming int -> M, slice -> U, bool -> zc, pointer -> zd, agg -> zf, tuple -> zh
open Go.IntKind renaming i64 -> O
open Go.Obj renaming cells -> ze
open Go.Ending renaming returned -> zg
def gD (i:Nat):D->D
 | .agg l=>l.getD i (.agg [])
 | _=>.agg []
def asI:D->Int
 | .lit (.int _ n)=>n
 | _=>0
def asS:D->List UInt8
 | .lit (.string x)=>x
 | _=>[]
def asB:D->Bool
 | .lit (.bool b)=>b
 | _=>false
def asL:D->List D
 | .slice l _=>l
 | _=>[]
abbrev gI (i:Nat) (d:D):Int:=asI (gD i d)
abbrev gZ (i:Nat) (d:D):List UInt8:=asS (gD i d)
abbrev gB (i:Nat) (d:D):Bool:=asB (gD i d)
abbrev gL (i:Nat) (d:D):List D:=asL (gD i d)
def plK:Nat->D->Int->Int
 | 0,_,left=>left
 | k+1,d,left=>(gL 4 d).foldl (fun l a=>if l < 0 then l else plK k a l) (left - 1)
def poK:Nat->D->Int->Int
 | 0,_,_=>0
 | k+1,d,en=>(gL 4 d).foldl (fun n a=>if n<=en then n+poK k a (en - n) else n) 1
theorem DA {α β:Type} (f:β->α->β) (P:β->Prop) (h:∀ b a,P b->P (f b a)):∀ (l:List α) (b:β),P b->P (l.foldl f b)
 | [],b,hb=>hb
 | a::l,b,hb=>DA f P h l _ (h b a hb)
theorem Gt {α β γ:Type} (f:β->α->β) (g:γ->α->γ) (P:β->γ->Prop) (h:∀ b c a,P b c->P (f b a) (g c a)):∀ (l:List α) (b:β) (c:γ),P b c->P (l.foldl f b) (l.foldl g c)
 | [],b,c,hb=>hb
 | a::l,b,c,hb=>Gt f g P h l _ _ (h b c a hb)
theorem GD:∀ (k:Nat) (d:D) (en:Int),0<=en->0<=poK k d en/\poK k d en<=en+1
 | 0,d,en,h=>by simp only [poK];omega
 | k+1,d,en,h=>by
  simp only [poK];refine DA _ (fun n=>0<=n/\n<=en+1) (fun n a hn=>?_) _ _ (by omega);split
  ·have:=GD k a (en - n) (by omega)
   omega
  ·exact hn
theorem IJ:∀ (k:Nat) (d:D) (L:Int),0<=L->plK k d L=L - poK k d L
 | 0,d,L,h=>by simp [plK,poK]
 | k+1,d,L,h=>by
  simp only [plK,poK];refine Gt _ _ (fun l n=>l=L - n) (fun l n a hl=>?_) _ _ _ (by omega);subst hl;by_cases hn:n<=L
  ·rw [if_neg (by omega),if_pos hn,IJ k a (L - n) (by omega)]
   omega
  ·rw [if_pos (by omega),if_neg hn]
theorem MA (k:Nat) (d:D) (L:Int) (h:0<=L):-1<=plK k d L/\plK k d L<=L:=by
 have b:=IJ k d L h;have a:=GD k d L h;omega
def CU (ke:Nat) (d:D):Bool:=decide (plK ke d 15 < 0)
def DF (ke:Nat) (s:D):Bool:=decide (4 < (gL 5 s).length) || CU ke (gD 4 s) || (gL 5 s).any (CU ke)
def slF (ke:Nat) (rec:List D->Int->Int) (deep:Int) (st:Int × Bool) (s:D):Int × Bool:=
 if st.2=true then st else if st.1 - 1 < 0\/6 < deep\/DF ke s=true then (-1,true) else (rec (gL 7 s) (rec (gL 6 s) (st.1 - 1)),false)
def slK (ke:Nat):Nat->List D->Int->Int->Int
 | 0,_,_,left=>left
 | k+1,l,deep,left=>(l.foldl (slF ke (fun l left=>slK ke k l (deep+1) left) deep) (left,false)).1
def csF (ke:Nat) (rec:List D->Int) (st:Int × Bool) (s:D):Int × Bool:=
 if st.2=true\/50 < st.1 then st else if DF ke s=true then (51,true) else (st.1+1+rec (gL 6 s)+rec (gL 7 s),false)
def csK (ke:Nat):Nat->List D->Int->Int
 | 0,_,_=>0
 | k+1,l,deep=>if l≠[]/\6 < deep then 51 else min 51 (l.foldl (csF ke (fun l=>csK ke k l (deep+1))) (0,false)).1
theorem Dl (ke:Nat):∀ (k:Nat) (l:List D) (deep:Int),0<=csK ke k l deep/\csK ke k l deep<=51
 | 0,l,deep=>by simp only [csK];omega
 | k+1,l,deep=>by
  simp only [csK];split
  ·omega
  ·have:0<=(l.foldl (csF ke (fun l=>csK ke k l (deep+1))) (0,false)).1:=by
    refine DA _ (fun (st:Int × Bool)=>0<=st.1) (fun st s a=>?_) _ _ (by simp);unfold csF;have c:=Dl ke k (gL 6 s) (deep+1);have b:=Dl ke k (gL 7 s) (deep+1);split
    ·exact a
    split
    ·simp
    ·dsimp only;omega
   omega
theorem ER (ke:Nat):∀ (k:Nat) (l:List D) (deep left:Int),-1<=left->left<=50->slK ke k l deep left=if csK ke k l deep<=left then left - csK ke k l deep else -1
 | 0,l,deep,left,h1,h2=>by
  have e1:slK ke 0 l deep left=left:=rfl;have e2:csK ke 0 l deep=0:=rfl;rw [e1,e2];by_cases h:0<=left
  ·rw [if_pos h];omega
  ·rw [if_neg h];omega
 | k+1,l,deep,left,h1,h2=>by
  have IH:=ER ke k;have BD:=Dl ke k;generalize hC:csK ke (k+1) l deep=C;have hS:slK ke (k+1) l deep left=(l.foldl (slF ke (fun l left=>slK ke k l (deep+1) left) deep) (left,false)).1:=rfl;rw [hS];clear hS;replace hC:(if l≠[]/\6 < deep then 51 else min 51 (l.foldl (csF ke (fun l=>csK ke k l (deep+1))) (0,false)).1)=C:=hC;by_cases hd:l≠[]/\6 < deep
  ·rw [if_pos hd] at hC
   rw [if_neg (by omega)];clear hC;obtain ⟨s,r,rfl⟩:=List.exists_cons_of_ne_nil hd.1;rw [List.foldl_cons];have hs:slF ke (fun l left=>slK ke k l (deep+1) left) deep (left,false) s=(-1,true):=by
    unfold slF;rw [if_neg (by simp),if_pos (Or.inr (Or.inl hd.2))]
   rw [hs];have hr:=DA (slF ke (fun l left=>slK ke k l (deep+1) left) deep) (fun st=>st=((-1,true):Int × Bool)) (fun st a b=>by unfold slF;rw [b];simp) r (-1,true) rfl;rw [hr]
  ·rw [if_neg hd] at hC
   have c:∀ (m:List D) (st:Int × Bool) (q:Int × Bool),(m=[]\/deep<=6)->((st=(left - q.1,false)/\0<=q.1/\q.1<=left/\q.2=false)\/(st.1=-1/\left < q.1)) ->
     ((m.foldl (slF ke (fun l left=>slK ke k l (deep+1) left) deep) st).1=left - (m.foldl (csF ke (fun l=>csK ke k l (deep+1))) q).1/\(m.foldl (csF ke (fun l=>csK ke k l (deep+1))) q).1<=left)\/((m.foldl (slF ke (fun l left=>slK ke k l (deep+1) left) deep) st).1=-1/\left < (m.foldl (csF ke (fun l=>csK ke k l (deep+1))) q).1):=by
    intro m
    induction m with
    | nil=>
     intro st q _ h;rcases h with ⟨rfl,_,h,_⟩ | h
     ·exact Or.inl ⟨rfl,h⟩
     ·exact Or.inr h
    | cons s r ih=>
     intro st q n h;have g:deep<=6:=n.elim (fun h=>by cases h) id;rw [List.foldl_cons,List.foldl_cons];refine ih _ _ (Or.inr g) ?_;have B:=BD (gL 6 s) (deep+1);have A:=BD (gL 7 s) (deep+1);rcases h with ⟨rfl,j,i,f⟩ | ⟨b,i⟩
     ·unfold slF csF
      rw [if_neg (by simp),if_neg (show ¬ (q.2=true\/50 < q.1) by simp [f];omega)];by_cases hmu:DF ke s=true
      ·rw [if_pos (Or.inr (Or.inr hmu)),if_pos hmu]
       exact Or.inr ⟨rfl,by show left < 51;omega⟩
      ·rw [if_neg hmu]
       by_cases hz:left - q.1 - 1 < 0
       ·rw [if_pos (Or.inl hz)]
        exact Or.inr ⟨rfl,by dsimp only;omega⟩
       ·rw [if_neg (fun h=>h.elim hz (fun h=>h.elim (fun h=>by omega) hmu))]
        dsimp only;rw [IH (gL 6 s) (deep+1) (left - q.1 - 1) (by omega) (by omega)];by_cases ht:csK ke k (gL 6 s) (deep+1)<=left - q.1 - 1
        ·rw [if_pos ht,IH (gL 7 s) (deep+1) _ (by omega) (by omega)]
         by_cases he:csK ke k (gL 7 s) (deep+1)<=left - q.1 - 1 - csK ke k (gL 6 s) (deep+1)
         ·rw [if_pos he]
          exact Or.inl ⟨by congr 1;omega,by omega,by omega,rfl⟩
         ·rw [if_neg he]
          exact Or.inr ⟨rfl,by omega⟩
        ·rw [if_neg ht,IH (gL 7 s) (deep+1) _ (by omega) (by omega),if_neg (by omega)]
         exact Or.inr ⟨rfl,by omega⟩
     ·refine Or.inr ⟨?_,?_⟩
      ·unfold slF
       split
       ·exact b
       ·rw [if_pos (Or.inl (by omega))]
      ·unfold csF
       split
       ·exact i
       split
       ·show left < 51;omega
       ·dsimp only;omega
   have x:l=[]\/deep<=6:=by
    by_cases h:l=[]
    ·exact Or.inl h
    ·exact Or.inr (by
      by_cases h6:deep<=6
      ·exact h6
      ·exact absurd ⟨h,by omega⟩ hd)
   have y:((((left,false):Int × Bool)=(left - ((0,false):Int × Bool).1,false)/\(0:Int)<=((0,false):Int × Bool).1/\((0,false):Int × Bool).1<=left/\((0,false):Int × Bool).2=false)\/(((left,false):Int × Bool).1=-1/\left < ((0,false):Int × Bool).1)):=by
    by_cases hz:0<=left
    ·exact Or.inl ⟨by simp,by simp,hz,rfl⟩
    ·exact Or.inr ⟨by dsimp only;omega,by dsimp only;omega⟩
   rcases c l (left,false) (0,false) x y with ⟨e,v⟩ | ⟨e,u⟩
   ·rw [e,if_pos (by omega)];omega
   ·rw [e,if_neg (by omega)]
def DV (ke:Nat) (d:D):Bool:=decide (4 < (gL 5 d).length) || decide (4 < (gL 6 d).length) || CU ke (gD 8 d) || (gL 5 d).any (fun p=>decide (6 < (gL 3 p).length))
def Eg (ke kc:Nat) (ds l:List D):Bool:=
 decide (30 < ds.length) || ds.any (DV ke) || decide (slK ke kc l 1 (ds.foldl (fun left d=>slK ke kc (gL 7 d) 1 left) 50) < 0)
def HU (ke kc:Nat) (ds l:List D):Bool:=
 decide (30 < ds.length) || ds.any (DV ke) || decide (50 < ds.foldl (fun n d=>n+csK ke kc (gL 7 d) 1) (csK ke kc l 1))
theorem Mc (ke kc:Nat) (ds l:List D):Eg ke kc ds l=HU ke kc ds l:=by
 unfold Eg HU;congr 1;rw [decide_eq_decide];have v:=Dl ke kc l 1;have f:∀ (m:List D) (left n:Int),((0<=n/\n<=50/\left=50 - n)\/(50 < n/\left=-1))->((0<=m.foldl (fun n d=>n+csK ke kc (gL 7 d) 1) n/\m.foldl (fun n d=>n+csK ke kc (gL 7 d) 1) n<=50/\m.foldl (fun left d=>slK ke kc (gL 7 d) 1 left) left=50 - m.foldl (fun n d=>n+csK ke kc (gL 7 d) 1) n)\/(50 < m.foldl (fun n d=>n+csK ke kc (gL 7 d) 1) n/\m.foldl (fun left d=>slK ke kc (gL 7 d) 1 left) left=-1)):=by
  intro m
  induction m with
  | nil=>intro left n h;exact h
  | cons d r ih=>
   intro left n h;rw [List.foldl_cons,List.foldl_cons];refine ih _ _ ?_;have b:=Dl ke kc (gL 7 d) 1;rcases h with ⟨u,i,rfl⟩ | ⟨i,rfl⟩
   ·rw [ER ke kc _ _ _ (by omega) (by omega)]
    by_cases hc:csK ke kc (gL 7 d) 1<=50 - n
    ·rw [if_pos hc];exact Or.inl ⟨by omega,by omega,by omega⟩
    ·rw [if_neg hc];exact Or.inr ⟨by omega,rfl⟩
   ·rw [ER ke kc _ _ _ (by omega) (by omega),if_neg (by omega)]
    exact Or.inr ⟨by omega,rfl⟩
 have c:∀ (m:List D) (a b:Int),m.foldl (fun n d=>n+csK ke kc (gL 7 d) 1) (a+b)=a+m.foldl (fun n d=>n+csK ke kc (gL 7 d) 1) b:=by
  intro m
  induction m with
  | nil=>intro a b;rfl
  | cons d r ih=>intro a b;rw [List.foldl_cons,List.foldl_cons,<-ih];congr 1;omega
 have k:=f ds 50 0 (Or.inl ⟨by omega,by omega,by omega⟩);have j:=c ds (csK ke kc l 1) 0;rw [Int.add_zero] at j;rw [j];generalize ds.foldl (fun n d=>n+csK ke kc (gL 7 d) 1) 0=S at k ⊢;rcases k with ⟨u,i,g⟩ | ⟨i,g⟩
 ·rw [g,ER ke kc _ _ _ (by omega) (by omega)]
  split <;> omega
 ·rw [g,ER ke kc _ _ _ (by omega) (by omega)]
  split <;> omega
def nmS (x:List UInt8):Bool:=An ⟨1,0,⟨x.toArray⟩⟩ && !Gw.contains x
def nfS (x:List UInt8) (must:Bool):Bool:=if must=true then nmS x else x.isEmpty
def CT (d:D):Bool:=decide (gI 0 d=0) && decide (gI 2 d=0) && (gZ 3 d).isEmpty && (gL 4 d).isEmpty
def efK:Nat->D->Bool
 | 0,_=>false
 | k+1,d=>decide (1<=gI 0 d) && decide (gI 0 d<=7) && decide ((if gI 0 d=1 then -9999999 else 0)<=gI 2 d) && decide (gI 2 d<=(if gI 0 d=1 then 9999999 else 0)) && nfS (gZ 3 d) (decide (gI 0 d=2)) && decide ((gL 4 d).length=if gI 0 d<=2 then 0 else 2) && (gL 4 d).all (efK k)
def E6 (k:Int):Bool:=decide (k=1) || decide (k=2) || decide (k=3) || decide (k=5) || decide (k=6)
def E8 (k:Int):Bool:=decide (k=2) || decide (k=3) || decide (k=4)
def E9 (k:Int):Bool:=decide (k=1) || decide (k=4) || decide (k=5) || decide (k=6) || decide (k=7) || decide (k=8)
def Fb (k:Int):Bool:=decide (k=2)
def E7 (k:Int):Bool:=decide (k=7) || decide (k=8)
def Fa (k:Int):Bool:=decide (k=7)
def hOk (k:Int):Bool:=decide (1<=k) && decide (k<=8)
def lfS (l:List D) (may:Bool) (fine:D->Bool):Bool:=(may || l.isEmpty) && l.all fine
def sfK (ke:Nat):Nat->D->Bool
 | 0,_=>false
 | k+1,s=>hOk (gI 0 s) && nfS (gZ 2 s) (E6 (gI 0 s)) && nfS (gZ 3 s) (E8 (gI 0 s)) && (if E9 (gI 0 s)=true then efK ke (gD 4 s) else CT (gD 4 s)) && lfS (gL 5 s) (Fb (gI 0 s)) (efK ke) && lfS (gL 6 s) (E7 (gI 0 s)) (sfK ke k) && lfS (gL 7 s) (Fa (gI 0 s)) (sfK ke k)
def Cv (p:D):Bool:=nmS (gZ 1 p) && (gL 3 p).all (fun x=>nmS (asS x))
def Ds (d:D):Bool:=
 if gB 4 d=false/\(gL 5 d)≠[] then false
 else if gI 0 d=4\/gI 0 d=5 then gB 4 d && (gL 5 d).all Cv
 else if gI 0 d=6 then (gL 5 d).all Cv
 else !gB 4 d
def Du (ke kc:Nat) (d:D):Bool:=
 if gI 0 d=7 then (gL 6 d).all (fun x=>nmS (asS x)) && (gL 7 d).all (sfK ke kc) && efK ke (gD 8 d)
 else (gL 6 d).isEmpty && (gL 7 d).isEmpty && CT (gD 8 d)
def dfK (ke kc:Nat) (d:D):Bool:=decide (1<=gI 0 d) && decide (gI 0 d<=7) && nmS (gZ 2 d) && nfS (gZ 3 d) (decide (gI 0 d=2)) && Ds d && Du ke kc d
def ckT (ke kc:Nat) (ds l:List D):Int:=if Eg ke kc ds l=true then 2 else if (ds.all (dfK ke kc) && l.all (sfK ke kc))=true then 0 else 1
theorem gEe (kd a n:Int) (x:ByteArray) (ds:List D):gI 0 (eD kd a n x ds)=kd/\gI 1 (eD kd a n x ds)=a/\gI 2 (eD kd a n x ds)=n/\gZ 3 (eD kd a n x ds)=x.data.toList/\gL 4 (eD kd a n x ds)=ds:=⟨rfl,rfl,rfl,rfl,rfl⟩
theorem gSs (kd a:Int) (x y:ByteArray) (e:D) (l th el:List D):gI 0 (stD kd a x y e l th el)=kd/\gI 1 (stD kd a x y e l th el)=a/\gZ 2 (stD kd a x y e l th el)=x.data.toList/\gZ 3 (stD kd a x y e l th el)=y.data.toList/\gD 4 (stD kd a x y e l th el)=e/\gL 5 (stD kd a x y e l th el)=l/\gL 6 (stD kd a x y e l th el)=th/\gL 7 (stD kd a x y e l th el)=el:=⟨rfl,rfl,rfl,rfl,rfl,rfl,rfl,rfl⟩
theorem gPp (a:Int) (o:ByteArray) (wr:Bool) (ns:List ByteArray):gI 0 (Dp a o wr ns)=a/\gZ 1 (Dp a o wr ns)=o.data.toList/\gB 2 (Dp a o wr ns)=wr/\gL 3 (Dp a o wr ns)=ns.map dS:=⟨rfl,rfl,rfl,rfl⟩
theorem gDd (kd a:Int) (x y:ByteArray) (gv:Bool) (lb:List D) (ps:List ByteArray) (body:List D) (r:D):gI 0 (deD kd a x y gv lb ps body r)=kd/\gI 1 (deD kd a x y gv lb ps body r)=a/\gZ 2 (deD kd a x y gv lb ps body r)=x.data.toList/\gZ 3 (deD kd a x y gv lb ps body r)=y.data.toList/\gB 4 (deD kd a x y gv lb ps body r)=gv/\gL 5 (deD kd a x y gv lb ps body r)=lb/\gL 6 (deD kd a x y gv lb ps body r)=ps.map dS/\gL 7 (deD kd a x y gv lb ps body r)=body/\gD 8 (deD kd a x y gv lb ps body r)=r:=⟨rfl,rfl,rfl,rfl,rfl,rfl,rfl,rfl,rfl⟩
theorem MZ (x:ByteArray):asS (dS x)=x.data.toList:=rfl
def ZE (W:World):Nat->List Value->D->Prop
 | 0,_,_=>False
 | k+1,cs,d=>∃ (kd a n:Int) (x:ByteArray) (ao:Option Addr) (c:Nat) (ds:List D),cs=[M O kd,M O a,M O n,.string x,U ao ds.length c]/\d=eD kd a n x ds/\x.size<=maxLen/\LS 5 (ZE W k) W (U ao ds.length c) ds
def ZC (W:World) (ke:Nat):Nat->List Value->D->Prop
 | 0,_,_=>False
 | k+1,cs,d=>∃ (kd a:Int) (x y:ByteArray) (e0 e1 e2:Int) (e3:ByteArray) (q:Option Addr) (q1 q2:Nat) (e:D) (aA:Option Addr) (cA:Nat) (args:List D) (aT:Option Addr) (cT:Nat) (th:List D) (aE:Option Addr) (cE:Nat) (el:List D),
   cs=[M O kd,M O a,.string x,.string y,M O e0,M O e1,M O e2,.string e3,U q q1 q2,U aA args.length cA,U aT th.length cT,U aE el.length cE]/\d=stD kd a x y e args th el/\x.size<=maxLen/\y.size<=maxLen/\ZE W ke [M O e0,M O e1,M O e2,.string e3,U q q1 q2] e/\LS 5 (ZE W ke) W (U aA args.length cA) args/\LS 12 (ZC W ke k) W (U aT th.length cT) th/\LS 12 (ZC W ke k) W (U aE el.length cE) el
def ZN (cs:List Value) (x:ByteArray):Prop:=cs=[.string x]/\x.size<=maxLen
def ZP (W:World) (cs:List Value) (d:D):Prop:=∃ (a:Int) (o:ByteArray) (wr:Bool) (an:Option Addr) (cn:Nat) (ns:List ByteArray),cs=[M O a,.string o,zc wr,U an ns.length cn]/\d=Dp a o wr ns/\o.size<=maxLen/\LS 1 ZN W (U an ns.length cn) ns
def ZD (W:World) (ke kc:Nat) (cs:List Value) (d:D):Prop:=∃ (kd a:Int) (x y:ByteArray) (gv:Bool) (aL:Option Addr) (cL:Nat) (lb:List D) (aP:Option Addr) (cP:Nat) (ps:List ByteArray) (aB:Option Addr) (cB:Nat) (body:List D) (e0 e1 e2:Int) (e3:ByteArray) (q:Option Addr) (q1 q2:Nat) (r:D),
  cs=[M O kd,M O a,.string x,.string y,zc gv,U aL lb.length cL,U aP ps.length cP,U aB body.length cB,M O e0,M O e1,M O e2,.string e3,U q q1 q2]/\d=deD kd a x y gv lb ps body r/\x.size<=maxLen/\y.size<=maxLen/\LS 4 (ZP W) W (U aL lb.length cL) lb/\LS 1 ZN W (U aP ps.length cP) ps/\LS 12 (ZC W ke kc) W (U aB body.length cB) body/\ZE W ke [M O e0,M O e1,M O e2,.string e3,U q q1 q2] r
def ZT (W:World) (ke kc:Nat) (v:Value) (ds l:List D):Prop:=∃ (a:Option Addr) (c:Nat) (a2:Option Addr) (c2:Nat),v=zf #[U a ds.length c,U a2 l.length c2]/\LS 13 (ZD W ke kc) W (U a ds.length c) ds/\LS 12 (ZC W ke kc) W (U a2 l.length c2) l
theorem LS.up {α:Type} {size:Nat} {R R':List Value->α->Prop} {w w':World} {v:Value} {l:List α} (h:LS size R w v l) (hw:∀ a u,w.cell? a=some u->w'.cell? a=some u) (hR:∀ cs a,a∈l->R cs a->R' cs a):LS size R' w' v l:=by
 obtain ⟨C,E,g,B,A⟩:=h;refine ⟨C,E,g,B,fun f=>?_⟩;obtain ⟨b,c,y,x⟩:=A f;refine ⟨b,c,y,fun i a k=>?_⟩;obtain ⟨cs,q1,n,m⟩:=x i a k;exact ⟨cs,q1,fun j u r=>hw _ _ (n j u r),hR cs a (List.mem_of_getElem? k) m⟩
section
variable {W W':World}
theorem ZE.up (hw:∀ a u,W.cell? a=some u->W'.cell? a=some u):∀ {k m:Nat} {cs:List Value} {d:D},k<=m->ZE W k cs d->ZE W' m cs d
 | 0,m,cs,d,_,h=>h.elim
 | k+1,0,cs,d,hk,h=>absurd hk (by omega)
 | k+1,m+1,cs,d,hk,h=>by
  obtain ⟨kd,a,n,x,ao,c,ds,h1,h2,h3,h4⟩:=h;exact ⟨kd,a,n,x,ao,c,ds,h1,h2,h3,h4.up hw fun cs d _ hh=>ZE.up hw (by omega) hh⟩
theorem ZC.up (hw:∀ a u,W.cell? a=some u->W'.cell? a=some u) {ke ke':Nat} (hke:ke<=ke'):∀ {k m:Nat} {cs:List Value} {d:D},k<=m->ZC W ke k cs d->ZC W' ke' m cs d
 | 0,m,cs,d,_,h=>h.elim
 | k+1,0,cs,d,hk,h=>absurd hk (by omega)
 | k+1,m+1,cs,d,hk,h=>by
  obtain ⟨kd,a,x,y,e0,e1,e2,e3,q,q1,q2,e,aA,cA,args,aT,cT,th,aE,cE,el,h1,h2,h3,h4,h5,h6,h7,h8⟩:=h;exact ⟨kd,a,x,y,e0,e1,e2,e3,q,q1,q2,e,aA,cA,args,aT,cT,th,aE,cE,el,h1,h2,h3,h4,h5.up hw hke,h6.up hw fun cs d _ hh=>hh.up hw hke,h7.up hw fun cs d _ hh=>ZC.up hw hke (by omega) hh,h8.up hw fun cs d _ hh=>ZC.up hw hke (by omega) hh⟩
theorem ZP.up (hw:∀ a u,W.cell? a=some u->W'.cell? a=some u) {cs:List Value} {d:D} (h:ZP W cs d):ZP W' cs d:=by
 obtain ⟨a,o,wr,k,j,b,i,g,f,c⟩:=h;exact ⟨a,o,wr,k,j,b,i,g,f,c.up hw fun _ _ _ h=>h⟩
theorem ZD.up (hw:∀ a u,W.cell? a=some u->W'.cell? a=some u) {ke ke' kc kc':Nat} (hke:ke<=ke') (hkc:kc<=kc') {cs:List Value} {d:D} (h:ZD W ke kc cs d):ZD W' ke' kc' cs d:=by
 obtain ⟨i,a,x,y,B,L,I,g,K,H,f,M,J,b,G,F,E,C,q,q1,c,r,A,v,u,n,m,l,k,j⟩:=h;exact ⟨i,a,x,y,B,L,I,g,K,H,f,M,J,b,G,F,E,C,q,q1,c,r,A,v,u,n,m.up hw fun _ _ _ h=>h.up hw,l.up hw fun _ _ _ h=>h,k.up hw fun _ _ _ h=>h.up hw hke hkc,j.up hw hke⟩
theorem ZT.up (hw:∀ a u,W.cell? a=some u->W'.cell? a=some u) {ke ke' kc kc':Nat} (hke:ke<=ke') (hkc:kc<=kc') {v:Value} {ds l:List D} (h:ZT W ke kc v ds l):ZT W' ke' kc' v ds l:=by
 obtain ⟨a,c,j,i,g,f,b⟩:=h;exact ⟨a,c,j,i,g,f.up hw fun _ _ _ h=>h.up hw hke hkc,b.up hw fun _ _ _ h=>h.up hw hke hkc⟩
end
section
variable {W W':World}
theorem ZE.over (hb:Ov W W') {k:Nat} {cs:List Value} {d:D} (h:ZE W k cs d):ZE W' k cs d:=h.up (fun _ _ h=>ce1 hb h) (Nat.le_refl _)
theorem ZC.over (hb:Ov W W') {ke k:Nat} {cs:List Value} {d:D} (h:ZC W ke k cs d):ZC W' ke k cs d:=h.up (fun _ _ h=>ce1 hb h) (Nat.le_refl _) (Nat.le_refl _)
theorem ZP.over (hb:Ov W W') {cs:List Value} {d:D} (h:ZP W cs d):ZP W' cs d:=h.up (fun _ _ h=>ce1 hb h)
theorem ZD.over (hb:Ov W W') {ke kc:Nat} {cs:List Value} {d:D} (h:ZD W ke kc cs d):ZD W' ke kc cs d:=h.up (fun _ _ h=>ce1 hb h) (Nat.le_refl _) (Nat.le_refl _)
theorem ZT.over (hb:Ov W W') {ke kc:Nat} {v:Value} {ds l:List D} (h:ZT W ke kc v ds l):ZT W' ke kc v ds l:=h.up (fun _ _ h=>ce1 hb h) (Nat.le_refl _) (Nat.le_refl _)
theorem B2 (hb:Ov W W') {k:Nat} {v:Value} {ds:List D} (h:LS 5 (ZE W k) W v ds):LS 5 (ZE W' k) W' v ds:=h.up (fun _ _ h=>ce1 hb h) fun _ _ _ h=>h.over hb
theorem Ay (hb:Ov W W') {ke k:Nat} {v:Value} {ds:List D} (h:LS 12 (ZC W ke k) W v ds):LS 12 (ZC W' ke k) W' v ds:=h.up (fun _ _ h=>ce1 hb h) fun _ _ _ h=>h.over hb
theorem FQ (hb:Ov W W') {v:Value} {ds:List D} (h:LS 4 (ZP W) W v ds):LS 4 (ZP W') W' v ds:=h.up (fun _ _ h=>ce1 hb h) fun _ _ _ h=>h.over hb
theorem LC (hb:Ov W W') {ke k:Nat} {v:Value} {ds:List D} (h:LS 13 (ZD W ke k) W v ds):LS 13 (ZD W' ke k) W' v ds:=h.up (fun _ _ h=>ce1 hb h) fun _ _ _ h=>h.over hb
theorem Br (hb:Ov W W') {v:Value} {ns:List ByteArray} (h:LS 1 ZN W v ns):LS 1 ZN W' v ns:=h.up (fun _ _ h=>ce1 hb h) fun _ _ _ h=>h
end
def Mx:Nat->D->Prop
 | 0,_=>True
 | k+1,d=>match d with
  | .lit (.string x)=>x.length<=6000
  | .agg l=>∀ a∈l,Mx k a
  | .slice l _=>∀ a∈l,Mx k a
  | _=>True
def SD (d:D):Prop:=∀ k,Mx k d
theorem SD.agg {l:List D} (h:∀ a∈l,SD a):SD (.agg l):=fun k=>by
 cases k with
 | zero=>trivial
 | succ k=>exact fun a ha=>h a ha k
theorem SD.list {l:List D} (h:∀ a∈l,SD a):SD (dL l):=fun k=>by
 cases k with
 | zero=>trivial
 | succ k=>exact fun a ha=>h a ha k
theorem SD.int (n:Int):SD (dI n):=fun k=>by cases k <;> trivial
theorem SD.bool (n:Bool):SD (dB n):=fun k=>by cases k <;> trivial
theorem SD.str {x:ByteArray} (h:x.size<=6000):SD (dS x):=fun k=>by
 cases k with
 | zero=>trivial
 | succ k=>show x.data.toList.length<=6000;simpa using h
theorem SD.of_agg {l:List D} (h:SD (.agg l)):∀ a∈l,SD a:=fun a ha k=>h (k+1) a ha
theorem SD.of_list {l:List D} (h:SD (dL l)):∀ a∈l,SD a:=fun a ha k=>h (k+1) a ha
theorem SD.of_str {x:ByteArray} (h:SD (dS x)):x.size<=6000:=by
 have:x.data.toList.length<=6000:=h 1;simpa using this
theorem SD.e {kd a n:Int} {x:ByteArray} {ds:List D} (hx:x.size<=6000) (h:∀ a∈ds,SD a):SD (eD kd a n x ds):=SD.agg fun y hy=>by
 simp at hy;rcases hy with rfl | rfl | rfl | rfl | rfl
 ·exact SD.int _
 ·exact SD.int _
 ·exact SD.int _
 ·exact SD.str hx
 ·exact SD.list h
theorem SD.s {kd a:Int} {x y:ByteArray} {e:D} {args th el:List D} (hx:x.size<=6000) (hy:y.size<=6000) (he:SD e) (h1:∀ a∈args,SD a) (h2:∀ a∈th,SD a) (h3:∀ a∈el,SD a):SD (stD kd a x y e args th el):=SD.agg fun y hy=>by
 simp at hy;rcases hy with rfl | rfl | rfl | rfl | rfl | rfl | rfl | rfl
 ·exact SD.int _
 ·exact SD.int _
 ·exact SD.str hx
 ·exact SD.str (by assumption)
 ·exact he
 ·exact SD.list h1
 ·exact SD.list h2
 ·exact SD.list h3
theorem SD.strs {ns:List ByteArray} (h:∀ x∈ns,x.size<=6000):∀ a∈ns.map dS,SD a:=fun a ha=>by
 obtain ⟨x,hx,rfl⟩:=List.mem_map.1 ha;exact SD.str (h x hx)
theorem SD.of_strs {ns:List ByteArray} (h:∀ a∈ns.map dS,SD a):∀ x∈ns,x.size<=6000:=fun x hx=>SD.of_str (h _ (List.mem_map_of_mem hx))
theorem SD.p {a:Int} {o:ByteArray} {wr:Bool} {ns:List ByteArray} (ho:o.size<=6000) (h:∀ x∈ns,x.size<=6000):SD (Dp a o wr ns):=SD.agg fun y hy=>by
 simp at hy;rcases hy with rfl | rfl | rfl | rfl
 ·exact SD.int _
 ·exact SD.str ho
 ·exact SD.bool _
 ·exact SD.list (SD.strs h)
theorem SD.d {kd a:Int} {x y:ByteArray} {gv:Bool} {lb:List D} {ps:List ByteArray} {body:List D} {r:D} (hx:x.size<=6000) (hy:y.size<=6000) (h1:∀ a∈lb,SD a) (h2:∀ x∈ps,x.size<=6000) (h3:∀ a∈body,SD a) (hr:SD r):SD (deD kd a x y gv lb ps body r):=SD.agg fun y hy=>by
 simp at hy;rcases hy with rfl | rfl | rfl | rfl | rfl | rfl | rfl | rfl | rfl
 ·exact SD.int _
 ·exact SD.int _
 ·exact SD.str hx
 ·exact SD.str (by assumption)
 ·exact SD.bool _
 ·exact SD.list h1
 ·exact SD.list (SD.strs h2)
 ·exact SD.list h3
 ·exact hr
theorem Ng {α:Type} {P:α->Prop} {a b c d:α} (h:∀ y∈[a,b,c,d],P y):P a/\P b/\P c/\P d:=⟨h a (by simp),h b (by simp),h c (by simp),h d (by simp)⟩
theorem Nf {α:Type} {P:α->Prop} {a b c d e:α} (h:∀ y∈[a,b,c,d,e],P y):P a/\P b/\P c/\P d/\P e:=⟨h a (by simp),h b (by simp),h c (by simp),h d (by simp),h e (by simp)⟩
theorem Ne {α:Type} {P:α->Prop} {a b c d e f g i:α} (h:∀ y∈[a,b,c,d,e,f,g,i],P y):P a/\P b/\P c/\P d/\P e/\P f/\P g/\P i:=⟨h a (by simp),h b (by simp),h c (by simp),h d (by simp),h e (by simp),h f (by simp),h g (by simp),h i (by simp)⟩
theorem Nd {α:Type} {P:α->Prop} {a b c d e f g i j:α} (h:∀ y∈[a,b,c,d,e,f,g,i,j],P y):P a/\P b/\P c/\P d/\P e/\P f/\P g/\P i/\P j:=⟨h a (by simp),h b (by simp),h c (by simp),h d (by simp),h e (by simp),h f (by simp),h g (by simp),h i (by simp),h j (by simp)⟩
theorem CJ {n:Nat} (h:n<=6000):n<=maxLen:=by unfold maxLen;omega
theorem ZE.cells {W:World} {k:Nat} {cs:List Value} {d:D} (h:ZE W k cs d):∃ (kd a n:Int) (x:ByteArray) (q:Option Addr) (q1 q2:Nat),cs=[M O kd,M O a,M O n,.string x,U q q1 q2]:=by
 cases k with
 | zero=>exact h.elim
 | succ k=>
  obtain ⟨kd,a,n,x,f,c,g,b,-⟩:=h;exact ⟨kd,a,n,x,f,_,c,b⟩
theorem ZC.cells {W:World} {ke k:Nat} {cs:List Value} {d:D} (h:ZC W ke k cs d):∃ (kd a:Int) (x y:ByteArray) (e0 e1 e2:Int) (e3:ByteArray) (q:Option Addr) (q1 q2:Nat) (aA:Option Addr) (nA cA:Nat) (aT:Option Addr) (nT cT:Nat) (aE:Option Addr) (nE cE:Nat),cs=[M O kd,M O a,.string x,.string y,M O e0,M O e1,M O e2,.string e3,U q q1 q2,U aA nA cA,U aT nT cT,U aE nE cE]:=by
 cases k with
 | zero=>exact h.elim
 | succ k=>
  obtain ⟨kd,a,x,y,e0,e1,e2,e3,q,q1,q2,e,aA,cA,b,aT,cT,f,aE,cE,g,c,-⟩:=h;exact ⟨kd,a,x,y,e0,e1,e2,e3,q,q1,q2,aA,_,cA,aT,_,cT,aE,_,cE,c⟩
theorem ZP.cells {W:World} {cs:List Value} {d:D} (h:ZP W cs d):∃ (a:Int) (o:ByteArray) (wr:Bool) (an:Option Addr) (nn cn:Nat),cs=[M O a,.string o,zc wr,U an nn cn]:=by
 obtain ⟨a,o,wr,an,cn,c,b,-⟩:=h;exact ⟨a,o,wr,an,_,cn,b⟩
theorem ZD.cells {W:World} {ke kc:Nat} {cs:List Value} {d:D} (h:ZD W ke kc cs d):∃ (kd a:Int) (x y:ByteArray) (gv:Bool) (aL:Option Addr) (nL cL:Nat) (aP:Option Addr) (nP cP:Nat) (aB:Option Addr) (nB cB:Nat) (e0 e1 e2:Int) (e3:ByteArray) (q:Option Addr) (q1 q2:Nat),cs=[M O kd,M O a,.string x,.string y,zc gv,U aL nL cL,U aP nP cP,U aB nB cB,M O e0,M O e1,M O e2,.string e3,U q q1 q2]:=by
 obtain ⟨kd,a,x,y,gv,aL,cL,g,aP,cP,f,aB,cB,b,e0,e1,e2,e3,q,q1,q2,r,c,-⟩:=h;exact ⟨kd,a,x,y,gv,aL,_,cL,aP,_,cP,aB,_,cB,e0,e1,e2,e3,q,q1,q2,c⟩
theorem XE.z {W:World}:∀ {k:Nat} {cs:List Value} {d:D},XE W k cs d->SD d->ZE W k cs d
 | 0,cs,d,h,_=>h.elim
 | k+1,cs,d,h,hs=>by
  obtain ⟨kd,a,n,x,v,ds,h1,rfl,h3⟩:=h;obtain ⟨-,ao,c,rfl,-⟩:=id h3;obtain ⟨-,-,-,hx,hd⟩:=Nf hs.of_agg;exact ⟨kd,a,n,x,ao,c,ds,h1,rfl,CJ hx.of_str,h3.imp fun cs d hm hh=>XE.z hh (hd.of_list d hm)⟩
theorem XC.z {W:World}:∀ {k:Nat} {cs:List Value} {d:D},XC W k cs d->SD d->ZC W 61 k cs d
 | 0,cs,d,h,_=>h.elim
 | k+1,cs,d,h,hs=>by
  obtain ⟨kd,a,x,y,e0,e1,e2,e3,e4,e,vA,args,vT,th,vE,el,h1,rfl,h3,h4,h5,h6⟩:=h;obtain ⟨-,aA,cA,rfl,-⟩:=id h4;obtain ⟨-,aT,cT,rfl,-⟩:=id h5;obtain ⟨-,aE,cE,rfl,-⟩:=id h6;obtain ⟨-,-,hx,hy,he,hA,hT,hE⟩:=Ne hs.of_agg;have hz:=XE.z h3 he;obtain ⟨k0,k1,k2,k3,q,q1,q2,hk⟩:=hz.cells;simp only [List.cons.injEq,and_true] at hk;obtain ⟨rfl,rfl,rfl,rfl,rfl⟩:=hk;exact ⟨kd,a,x,y,k0,k1,k2,k3,q,q1,q2,e,aA,cA,args,aT,cT,th,aE,cE,el,h1,rfl,CJ hx.of_str,CJ hy.of_str,hz,h4.imp fun cs d hm hh=>XE.z hh (hA.of_list d hm),h5.imp fun cs d hm hh=>XC.z hh (hT.of_list d hm),h6.imp fun cs d hm hh=>XC.z hh (hE.of_list d hm)⟩
theorem Ky {W:World} {v:Value} {ns:List ByteArray} (h:BF W v ns) (hs:∀ x∈ns,x.size<=6000):LS 1 ZN W v ns:=h.imp fun cs x hm hh=>⟨hh,CJ (hs x hm)⟩
theorem XD.z {W:World} {f:Nat} {cs:List Value} {d:D} (h:XD W f cs d) (hs:SD d):ZD W 61 f cs d:=by
 obtain ⟨C,a,x,y,O,vL,B,vP,v,vB,b,r0,r1,r2,r3,r4,r,N,rfl,m,l,k,M⟩:=h;obtain ⟨-,X,S,rfl,-⟩:=id m;obtain ⟨-,V,R,rfl,-⟩:=id l;obtain ⟨-,Y,T,rfl,-⟩:=id k;obtain ⟨-,-,G,F,-,K,J,L,hr⟩:=Nd hs.of_agg;have i:=XE.z M hr;obtain ⟨E,k1,k2,k3,q,q1,u,j⟩:=i.cells;simp only [List.cons.injEq,and_true] at j;obtain ⟨rfl,rfl,rfl,rfl,rfl⟩:=j;refine ⟨C,a,x,y,O,X,S,B,V,R,v,Y,T,b,E,k1,k2,k3,q,q1,u,r,N,rfl,CJ G.of_str,CJ F.of_str,m.imp fun cs d c g=>?_,Ky l (SD.of_strs J.of_list),k.imp fun cs d c g=>XC.z g (L.of_list d c),i⟩;obtain ⟨a,o,wr,A,Z,P,rfl,n⟩:=g;obtain ⟨-,U,Q,rfl,-⟩:=id n;obtain ⟨-,H,-,I⟩:=Ng (K.of_list _ c).of_agg;exact ⟨a,o,wr,U,Q,A,P,rfl,CJ H.of_str,Ky n (SD.of_strs I.of_list)⟩
def OkR {α:Type} (P:α->Prop) (r:Res α):Prop:=∀ a n,r=.inl (a,n)->P a
theorem OkR.inl {α:Type} {P:α->Prop} {a:α} {n:Nat} (h:P a):OkR P (.inl (a,n)):=fun b m e=>by
 injection e with e;injection e with e1 e2;exact e1 ▸ h
theorem OkR.inr {α:Type} {P:α->Prop} {m:Nat}:OkR P (.inr m:Res α):=fun b m e=>by cases e
theorem OkR.bind {α β:Type} {P:α->Prop} {Q:β->Prop} {r:Res α} {f:α->Nat->Res β} (h:OkR P r) (hf:∀ a n,P a->OkR Q (f a n)):OkR Q (Aw r f):=by
 cases r with
 | inr m=>exact OkR.inr
 | inl p=>obtain ⟨a,n⟩:=p;exact hf a n (h a n rfl)
theorem OkR.ite {α:Type} {P:α->Prop} {c:Prop} [Decidable c] {r s:Res α} (h1:OkR P r) (h2:OkR P s):OkR P (if c then r else s):=by
 split
 ·exact h1
 ·exact h2
theorem OkR.any {α:Type} (r:Res α):OkR (fun _=>True) r:=fun _ _ _=>trivial
section
variable (ts:List Tok) (en:Nat)
theorem FK (hall:ts.all An=true) (n:Nat):(Ah ts n).text.size<=6000:=by
 by_cases h:n < ts.length
 ·have a:=CK (ts:=ts) h
  exact CA (List.all_eq_true.1 hall _ a)
 ·have:Ah ts n=⟨0,0,⟨#[]⟩⟩:=by unfold Ah;rw [List.getElem?_eq_none (by omega)]
  rw [this];exact Nat.zero_le _
theorem Cp (hall:ts.all An=true) (n:Nat):OkR (fun x=>x.size<=6000) (AD ts n):=OkR.ite (OkR.inl (FK ts hall n)) OkR.inr
theorem EC {α:Type} {P:α->Prop} {sep:List UInt8} {one:Nat->Res α} (h:∀ n,OkR P (one n)):∀ (f:Nat) (sm:Bool) (acc:List α) (n:Nat),(∀ a∈acc,P a)->OkR (fun l=>∀ a∈l,P a) (Bn ts sep one f sm acc n)
 | 0,sm,acc,n,ha=>OkR.inl ha
 | f+1,sm,acc,n,ha=>by
  unfold Bn;have hs:∀ a,P a->∀ b∈acc++[a],P b:=fun a hp b hb=>by
   rcases List.mem_append.1 hb with h | h
   ·exact ha b h
   ·rw [List.mem_singleton.1 h];exact hp
  refine OkR.ite (OkR.bind (h n) fun a n1 hp=>OkR.ite (EC h f _ _ _ (hs a hp)) (OkR.inl (hs a hp))) (OkR.inl ha)
theorem EW (hall:ts.all An=true) (sm:Bool) (n:Nat):OkR (fun l=>∀ x∈l,x.size<=6000) (Bi ts sm n):=EC ts (Cp ts hall) _ _ _ _ (by simp)
theorem IK (hall:ts.all An=true) (n:Nat):OkR SD (Bm ts en n):=
 (Cp ts hall n).bind fun o n1 ho=>OkR.ite ((EW ts hall _ _).bind fun ns n2 hn=>OkR.inl (SD.p ho hn)) ((OkR.any _).bind fun _ n2 _=>(EW ts hall _ _).bind fun ns n3 hn=>OkR.inl (SD.p ho hn))
theorem JR (hall:ts.all An=true) (n:Nat):OkR (fun l=>∀ a∈l,SD a) (BO ts en n):=
 (OkR.any _).bind fun _ n1 _=>(EC ts (IK ts en hall) _ _ _ _ (by simp)).bind fun l n2 hl=>(OkR.any _).bind fun _ n3 _=>OkR.inl hl
theorem Lt (hall:ts.all An=true):∀ (f deep n:Nat),OkR SD (pE ts en f deep n)
 | 0,deep,n=>OkR.inr
 | f+1,deep,n=>by
  have nil:∀ (k a m:Int),SD (eD k a m ⟨#[]⟩ []):=fun k a m=>SD.e (Nat.zero_le _) (by simp);unfold pE;refine OkR.ite (OkR.inl (nil _ _ _)) (OkR.ite (OkR.ite OkR.inr (OkR.ite (OkR.inl (nil _ _ _)) OkR.inr)) (OkR.ite (OkR.inl (SD.e (FK ts hall n) (by simp))) (OkR.ite ?_ OkR.inr)));have ha:=Lt hall f (deep+1) (n+1)
  cases h:pE ts en f (deep+1) (n+1) with
  | inr m=>exact OkR.inr
  | inl p=>
   obtain ⟨a,n1⟩:=p;have hsa:=ha a n1 h;refine OkR.ite OkR.inr ?_;have hb:=Lt hall f (deep+1) (n1+1)
   cases h2:pE ts en f (deep+1) (n1+1) with
   | inr m=>exact OkR.inr
   | inl p=>
    obtain ⟨b,n2⟩:=p;have hsb:=hb b n2 h2;refine OkR.ite (OkR.inl (SD.e (Nat.zero_le _) fun y hy=>?_)) OkR.inr;simp at hy;rcases hy with rfl | rfl
    ·exact hsa
    ·exact hsb
theorem Fj (hall:ts.all An=true) (n:Nat):OkR SD (pX ts en n):=Lt ts en hall 61 0 n
theorem Bs:noS.size<=6000:=Nat.zero_le _
theorem GH:SD noE:=SD.e (Nat.zero_le _) (by simp)
theorem Ii:∀ (d:D),SD d->(⟨(FX d).toArray⟩:ByteArray).size<=6000:=fun d h=>by
 show (FX d).toArray.size<=6000;rw [List.size_toArray];unfold FX;split
 ·rename_i a b c x r
  have:=h.of_agg (.lit (.string x)) (by simp) 1;exact this
 ·simp
theorem IM (hall:ts.all An=true) (at_:Int) (n:Nat):OkR SD (CO ts en at_ n):=
 (Cp ts hall n).bind fun x n1 hx=>(OkR.any _).bind fun _ n2 _=>(Fj ts en hall n2).bind fun e n3 he=>
  OkR.ite ((EC ts (Fj ts en hall) _ _ _ _ (by simp)).bind fun l n4 hl=>(OkR.any _).bind fun _ n5 _=>OkR.inl (SD.s hx (Ii e he) GH hl (by simp) (by simp))) (OkR.inl (SD.s hx Bs he (by simp) (by simp) (by simp)))
theorem Gn {ss:Nat->Res (List D)} (h:∀ n,OkR (fun l=>∀ a∈l,SD a) (ss n)) (n:Nat):OkR (fun l=>∀ a∈l,SD a) (AZ ts ss n):=
 (OkR.any _).bind fun _ n1 _=>(h n1).bind fun l n2 hl=>(OkR.any _).bind fun _ n3 _=>OkR.inl hl
theorem EA {s:D} (h:SD s) (n:Nat):OkR SD (Hs ts s n):=(OkR.any _).bind fun _ n1 _=>OkR.inl h
theorem JQ (hall:ts.all An=true) {blk:Nat->Res (List D)} (h:∀ n,OkR (fun l=>∀ a∈l,SD a) (blk n)) (n:Nat):OkR SD (BA ts en blk n):=by
 unfold BA;have z:∀ a∈([]:List D),SD a:=by simp
 refine OkR.ite ((Fj ts en hall _).bind fun e n1 c=>(h n1).bind fun i n2 g=>OkR.ite ((h _).bind fun u r k=>OkR.inl (SD.s Bs Bs c z g k)) (OkR.inl (SD.s Bs Bs c z g z))) (OkR.ite ((Fj ts en hall _).bind fun e n1 c=>(h n1).bind fun i n2 g=>OkR.inl (SD.s Bs Bs c z g z)) (OkR.ite ?_ (OkR.ite ?_ (OkR.ite ?_ (OkR.ite ?_ ?_)))))
 ·exact (Cp ts hall _).bind fun a n1 f=>(Cp ts hall _).bind fun b n2 m=>EA ts (SD.s f m GH z z z) _
 ·exact (Cp ts hall _).bind fun a n1 f=>(Fj ts en hall _).bind fun e n2 c=>EA ts (SD.s Bs f c z z z) _
 ·exact (Cp ts hall _).bind fun a n1 f=>(Fj ts en hall _).bind fun e n2 c=>EA ts (SD.s f Bs c z z z) _
 ·exact (Cp ts hall _).bind fun a n1 f=>(Fj ts en hall _).bind fun e n2 c=>EA ts (SD.s f Bs c z z z) _
 ·exact (IM ts en hall _ _).bind fun s n1 j=>EA ts j _
theorem Jh {acc:List D} {s:D} (h:∀ a∈acc,SD a) (hs:SD s):∀ a∈acc++[s],SD a:=fun b hb=>by
 rcases List.mem_append.1 hb with h1 | h1
 ·exact h b h1
 ·rw [List.mem_singleton.1 h1];exact hs
theorem D4 (hall:ts.all An=true):∀ (f:Nat) (acc:List D) (n:Nat),(∀ a∈acc,SD a)->OkR (fun l=>∀ a∈l,SD a) (AL ts en f acc n)
 | 0,acc,n,h=>OkR.inr
 | 1,acc,n,h=>OkR.ite (OkR.inl h) OkR.inr
 | f+2,acc,n,h=>OkR.ite (OkR.inl h) ((JQ ts en hall (Gn ts fun n=>D4 hall f [] n (by simp)) n).bind fun s n1 hs=>D4 hall (f+1) (acc++[s]) n1 (Jh h hs))
theorem Lr (hall:ts.all An=true) (at_:Int) (name:ByteArray) (hn:name.size<=6000) (n:Nat):OkR SD (Ef ts en at_ name n):=
 (OkR.any _).bind fun _ n1 _=>(EW ts hall _ _).bind fun ps n2 hp=>(OkR.any _).bind fun _ n3 _=>(OkR.any _).bind fun _ n4 _=>(D4 ts en hall _ _ _ (by simp)).bind fun body n5 hb=>(OkR.any _).bind fun _ n6 _=>(Fj ts en hall _).bind fun r n7 hr=>(OkR.any _).bind fun _ n8 _=>(OkR.any _).bind fun _ n9 _=>OkR.inl (SD.d hn Bs (by simp) hp hb hr)
theorem D5 (hall:ts.all An=true) (kd at_:Int) (name oth:ByteArray) (hn:name.size<=6000) (ho:oth.size<=6000) (gv:Bool) (n:Nat):OkR SD (Cj ts en kd at_ name oth gv n):=
 OkR.ite ((JR ts en hall _).bind fun lb n1 hl=>(OkR.any _).bind fun _ n2 _=>OkR.inl (SD.d hn ho hl (by simp) (by simp) GH)) ((OkR.any _).bind fun _ n1 _=>OkR.inl (SD.d hn ho (by simp) (by simp) (by simp) GH))
theorem Lu (hall:ts.all An=true) (n:Nat):OkR SD (Bj ts en n):=by
 unfold Bj;refine OkR.ite OkR.inr ((Cp ts hall _).bind fun a n1 c=>OkR.ite ((Cp ts hall _).bind fun b n2 f=>D5 ts en hall _ _ _ _ c f _ _) (OkR.ite (D5 ts en hall _ _ _ _ c Bs _ _) (OkR.ite (D5 ts en hall _ _ _ _ c Bs _ _) (OkR.ite (Lr ts en hall _ _ c _) (D5 ts en hall _ _ _ _ c Bs _ _)))))
theorem Gm (hall:ts.all An=true):∀ (f:Nat) (acc:List D) (n:Nat),(∀ a∈acc,SD a)->OkR (fun l=>∀ a∈l,SD a) (Dh ts en f acc n)
 | 0,acc,n,h=>OkR.inr
 | f+1,acc,n,h=>OkR.ite (OkR.inl h) ((Lu ts en hall n).bind fun s n1 hs=>Gm hall f (acc++[s]) n1 (Jh h hs))
theorem Hq (hall:ts.all An=true):OkR (fun t=>(∀ a∈t.1,SD a)/\∀ a∈t.2,SD a) (CG ts en):=
 (Gm ts en hall _ _ _ (by simp)).bind fun ds n hd=>(OkR.any _).bind fun _ n1 _=>(Gn ts (fun n=>D4 ts en hall _ _ _ (by simp)) n1).bind fun l n2 hl=>OkR.ite OkR.inr (OkR.inl ⟨hd,hl⟩)
end
def Dd {α:Type} (f:α->α->Bool):List α->List α->Bool
 | [],[]=>true
 | a::l,b::m=>f a b && Dd f l m
 | _,_=>false
def seK (at_:Bool):Nat->D->D->Bool
 | 0,_,_=>true
 | k+1,a,b=>decide (gI 0 a=gI 0 b) && decide (gI 2 a=gI 2 b) && decide (gZ 3 a=gZ 3 b) && (!at_ || decide (gI 1 a=gI 1 b)) && Dd (seK at_ k) (gL 4 a) (gL 4 b)
def ssK (at_:Bool) (ke:Nat):Nat->D->D->Bool
 | 0,_,_=>true
 | k+1,a,b=>decide (gI 0 a=gI 0 b) && (!at_ || decide (gI 1 a=gI 1 b)) && decide (gZ 2 a=gZ 2 b) && decide (gZ 3 a=gZ 3 b) && seK at_ ke (gD 4 a) (gD 4 b) && Dd (seK at_ ke) (gL 5 a) (gL 5 b) && Dd (ssK at_ ke k) (gL 6 a) (gL 6 b) && Dd (ssK at_ ke k) (gL 7 a) (gL 7 b)
def sxS (a b:D):Bool:=decide (asS a=asS b)
def spD (at_:Bool) (a b:D):Bool:=(!at_ || decide (gI 0 a=gI 0 b)) && decide (gZ 1 a=gZ 1 b) && decide (gB 2 a=gB 2 b) && Dd sxS (gL 3 a) (gL 3 b)
def sdK (at_:Bool) (ke kc:Nat) (a b:D):Bool:=decide (gI 0 a=gI 0 b) && (!at_ || decide (gI 1 a=gI 1 b)) && decide (gZ 2 a=gZ 2 b) && decide (gZ 3 a=gZ 3 b) && decide (gB 4 a=gB 4 b) && Dd (spD at_) (gL 5 a) (gL 5 b) && Dd sxS (gL 6 a) (gL 6 b) && Dd (ssK at_ ke kc) (gL 7 a) (gL 7 b) && seK at_ ke (gD 8 a) (gD 8 b)
def stK (at_:Bool) (ke kc:Nat) (ds l ds' l':List D):Bool:=Dd (sdK at_ ke kc) ds ds' && Dd (ssK at_ ke kc) l l'
theorem B8 {α:Type} {f:α->α->Bool} (h:∀ a,f a a=true):∀ l,Dd f l l=true
 | []=>rfl
 | a::l=>by simp [Dd,h a,B8 h l]
theorem Ev (at_:Bool):∀ (k:Nat) (a:D),seK at_ k a a=true
 | 0,a=>rfl
 | k+1,a=>by simp [seK,B8 (Ev at_ k)]
theorem FD (at_:Bool) (ke:Nat):∀ (k:Nat) (a:D),ssK at_ ke k a a=true
 | 0,a=>rfl
 | k+1,a=>by simp [ssK,Ev,B8 (Ev at_ ke),B8 (FD at_ ke k)]
theorem Ll (at_:Bool) (ke kc:Nat) (a:D):sdK at_ ke kc a a=true:=by
 have b:∀ a,sxS a a=true:=fun a=>by simp [sxS]
 have c:∀ a,spD at_ a a=true:=fun a=>by simp [spD,B8 b]
 simp [sdK,Ev,B8 b,B8 c,B8 (FD at_ ke kc)]
theorem La (at_:Bool) (ke kc:Nat) (ds l:List D):stK at_ ke kc ds l ds l=true:=by
 simp [stK,B8 (Ll at_ ke kc),B8 (FD at_ ke kc)]
section
variable {α:Type} {f:α->α->Bool}
theorem B3:∀ {l m:List α},Dd f l m=true->l.length=m.length
 | [],[],_=>rfl
 | a::l,b::m,h=>by simp [Dd] at h;simp [B3 h.2]
 | [],_::_,h=>by cases h
 | _::_,[],h=>by cases h
end
abbrev Sg:=Nat × Bool
def CH:List UInt8->Bool
 | []=>false
 | c::_=>isD c
section
variable (ts:List Tok) (en:Nat)
def tx (s:Sg) (k:Nat):ByteArray:=if s.2=true then noS else (Ah ts (s.1+k)).text
def tl (s:Sg) (k:Nat):List UInt8:=(tx ts s k).data.toList
def Al (x:List UInt8) (s:Sg):Sg:=if s.2=true then s else if tl ts s 0=x then (s.1+1,false) else (s.1,true)
def Ci (s:Sg):Sg:=(s.1,true)
def AJ (s:Sg):ByteArray × Sg:=if nmS (tl ts s 0)=true then (tx ts s 0,(s.1+1,s.2)) else (noS,Ci s)
def DQ (s:Sg):Int × Sg:=if CH (tl ts s 0)=true then ((CX (tl ts s 0):Int),(s.1+1,s.2)) else (0,Ci s)
def A4:Nat->Nat->Sg->D × Sg
 | 0,_,s=>(noE,Ci s)
 | f+1,deep,s=>
  if tl ts s 0=[40]/\deep < 60 then
   (fun p1:D × Sg=>(fun p2:D × Sg=>(eD (A1 (tl ts p1.2 0)) (Ar ts en s.1) 0 noS [p1.1,p2.1],Al ts [41] p2.2)) (A4 f (deep+1) (if A1 (tl ts p1.2 0)=0 then Ci p1.2 else Al ts (tl ts p1.2 0) p1.2))) (A4 f (deep+1) (Al ts [40] s))
  else if tl ts s 0=[45] then
   (fun s1:Sg=>(fun p:Int × Sg=>(eD 1 (Ar ts en s.1) (-p.1) noS [],p.2)) (DQ ts (if tl ts s1 0=[48] then Ci s1 else s1))) (Al ts [45] s)
  else if CH (tl ts s 0)=true then (fun p:Int × Sg=>(eD 1 (Ar ts en s.1) p.1 noS [],p.2)) (DQ ts s)
  else (fun p:ByteArray × Sg=>(eD 2 (Ar ts en s.1) 0 p.1 [],p.2)) (AJ ts s)
def rX (s:Sg):D × Sg:=A4 ts en 61 0 s
def Bz:Nat->List D->Sg->List D × Sg
 | 0,acc,s=>(acc,s)
 | g+1,acc,s=>if s.2=false/\tl ts s 0≠[41] then
   (fun p:D × Sg=>Bz g (acc++[p.1]) (if tl ts p.2 0≠[44]/\tl ts p.2 0≠[41] then Ci p.2 else p.2)) (rX ts en (if 0 < acc.length then Al ts [44] s else s))
  else (acc,s)
def Dg (s:Sg):List D × Sg:=(fun p:List D × Sg=>(p.1,Al ts [41] p.2)) (Bz ts en (ts.length+2) [] (Al ts [40] s))
def Ct:Nat->List ByteArray->Sg->List ByteArray × Sg
 | 0,acc,s=>(acc,s)
 | g+1,acc,s=>if tl ts s 0=[44] then (fun p:ByteArray × Sg=>Ct g (acc++[p.1]) p.2) (AJ ts (Al ts [44] s)) else (acc,s)
def CQ (s:Sg):List ByteArray × Sg:=if tl ts s 0≠[59]/\tl ts s 0≠[125] then (fun p:ByteArray × Sg=>Ct ts (ts.length+1) [p.1] p.2) (AJ ts s) else ([],s)
def Ez (s:Sg):D × Sg:=(fun p:ByteArray × Sg=>(fun q:List ByteArray × Sg=>(Dp (Ar ts en s.1) p.1 (decide (tl ts p.2 0=[33])) q.1,q.2)) (CQ ts (if tl ts p.2 0=[33] then Al ts [33] p.2 else Al ts [58] p.2))) (AJ ts s)
def CF:Nat->Bool->List D->Sg->List D × Sg
 | 0,_,acc,s=>(acc,s)
 | g+1,more,acc,s=>if more=true/\s.2=false then (fun p:D × Sg=>CF g (decide (tl ts p.2 0=[59])) (acc++[p.1]) (if tl ts p.2 0=[59] then Al ts [59] p.2 else p.2)) (Ez ts en s) else (acc,s)
def Df (s:Sg):List D × Sg:=(fun s1:Sg=>(fun p:List D × Sg=>(p.1,Al ts [125] p.2)) (CF ts en (ts.length+2) (decide (tl ts s1 0≠[125])) [] s1)) (Al ts [123] s)
def Cx (s:Sg):D × Sg:=
 (fun p:ByteArray × Sg=>(fun s2:Sg=>
  if nmS (tl ts s2 0)=true/\tl ts s2 1=[40] then (fun q:ByteArray × Sg=>(fun l:List D × Sg=>(stD 2 (Ar ts en s.1) p.1 q.1 noE l.1 [] [],l.2)) (Dg ts en q.2)) (AJ ts s2)
  else (fun e:D × Sg=>(stD 1 (Ar ts en s.1) p.1 noS e.1 [] [] [],e.2)) (rX ts en s2)) (Al ts [61] p.2)) (AJ ts s)
def Bq (blk:Sg->List D × Sg) (s:Sg):D × Sg:=
 if tl ts s 0=[103,101,116] then (fun a:ByteArray × Sg=>(fun b:ByteArray × Sg=>(stD 3 (Ar ts en s.1) a.1 b.1 noE [] [] [],Al ts [59] b.2)) (AJ ts a.2)) (AJ ts (Al ts [103,101,116] s))
 else if tl ts s 0=[112,117,116] then (fun b:ByteArray × Sg=>(fun e:D × Sg=>(stD 4 (Ar ts en s.1) noS b.1 e.1 [] [] [],Al ts [59] e.2)) (rX ts en b.2)) (AJ ts (Al ts [112,117,116] s))
 else if tl ts s 0=[114,101,118,101,97,108] then (fun a:ByteArray × Sg=>(fun e:D × Sg=>(stD 5 (Ar ts en s.1) a.1 noS e.1 [] [] [],Al ts [59] e.2)) (rX ts en a.2)) (AJ ts (Al ts [114,101,118,101,97,108] s))
 else if tl ts s 0=[116,114,117,115,116] then (fun a:ByteArray × Sg=>(fun e:D × Sg=>(stD 6 (Ar ts en s.1) a.1 noS e.1 [] [] [],Al ts [59] e.2)) (rX ts en a.2)) (AJ ts (Al ts [116,114,117,115,116] s))
 else if tl ts s 0=[105,102] then (fun e:D × Sg=>(fun th:List D × Sg=>if tl ts th.2 0=[101,108,115,101] then (fun el:List D × Sg=>(stD 7 (Ar ts en s.1) noS noS e.1 [] th.1 el.1,el.2)) (blk (Al ts [101,108,115,101] th.2)) else (stD 7 (Ar ts en s.1) noS noS e.1 [] th.1 [],th.2)) (blk e.2)) (rX ts en (Al ts [105,102] s))
 else if tl ts s 0=[119,104,105,108,101] then (fun e:D × Sg=>(fun th:List D × Sg=>(stD 8 (Ar ts en s.1) noS noS e.1 [] th.1 [],th.2)) (blk e.2)) (rX ts en (Al ts [119,104,105,108,101] s))
 else (fun p:D × Sg=>(p.1,Al ts [59] p.2)) (Cx ts en s)
def A6 (ss:Sg->List D × Sg) (s:Sg):List D × Sg:=(fun p:List D × Sg=>(p.1,Al ts [125] p.2)) (ss (Al ts [123] s))
def AN:Nat->List UInt8->List D->Sg->List D × Sg
 | 0,_,acc,s=>(acc,s)
 | 1,_,acc,s=>(acc,s)
 | f+2,x,acc,s=>if s.2=false/\tl ts s 0≠x then (fun p:D × Sg=>AN (f+1) x (acc++[p.1]) p.2) (Bq ts en (A6 ts (fun s=>AN f [125] [] s)) s) else (acc,s)
def CE:Nat->Sg->D × Sg
 | 0,s=>(noE,Ci s)
 | f+1,s=>Bq ts en (A6 ts (fun s=>AN ts en f [125] [] s)) s
def Co:Nat->List ByteArray->Sg->List ByteArray × Sg
 | 0,acc,s=>(acc,s)
 | g+1,acc,s=>if s.2=false/\tl ts s 0≠[41] then (fun p:ByteArray × Sg=>Co g (acc++[p.1]) p.2) (AJ ts (if 0 < acc.length then Al ts [44] s else s)) else (acc,s)
def Fi (at_:Int) (name:ByteArray) (s:Sg):D × Sg:=
 (fun ps:List ByteArray × Sg=>(fun bd:List D × Sg=>(fun r:D × Sg=>(deD 7 at_ name noS false [] ps.1 bd.1 r.1,Al ts [125] (Al ts [59] r.2)))
  (rX ts en (Al ts [114,101,116,117,114,110] bd.2)))
  (AN ts en (2*ts.length+3) [114,101,116,117,114,110] [] (Al ts [123] (Al ts [41] ps.2))))
  (Co ts (ts.length+2) [] (Al ts [40] s))
def Cd (kd at_:Int) (name oth:ByteArray) (gv:Bool) (s:Sg):D × Sg:=
 if gv=true then (fun l:List D × Sg=>(deD kd at_ name oth true l.1 [] [] noE,Al ts [59] l.2)) (Df ts en s) else (deD kd at_ name oth false [] [] [] noE,Al ts [59] s)
def DD (s:Sg):D × Sg:=
 (fun a:ByteArray × Sg=>
  if AX (tl ts s 0)=7 then Fi ts en (Ar ts en s.1) a.1 a.2
  else if AX (tl ts s 0)=2 then (fun b:ByteArray × Sg=>Cd ts en 2 (Ar ts en s.1) a.1 b.1 false b.2) (AJ ts a.2)
  else Cd ts en (AX (tl ts s 0)) (Ar ts en s.1) a.1 noS (decide (AX (tl ts s 0)=4) || decide (AX (tl ts s 0)=5) || (decide (AX (tl ts s 0)=6) && decide (tl ts a.2 0=[123]))) a.2) (AJ ts (Al ts (tl ts s 0) s))
def Cr:Nat->List D->Sg->List D × Sg
 | 0,acc,s=>(acc,s)
 | g+1,acc,s=>if s.2=false/\AX (tl ts s 0)≠0 then (fun p:D × Sg=>Cr g (acc++[p.1]) p.2) (DD ts en s) else (acc,s)
def Jk:(List D × List D) × Sg:=(fun ds:List D × Sg=>(fun m:List D × Sg=>((ds.1,m.1),m.2)) (A6 ts (AN ts en (2*ts.length+3) [125] []) (Al ts [109,97,105,110] ds.2))) (Cr ts en (ts.length+2) [] (0,false))
end
def Sim {α:Type} (r:Res α) (s:α × Sg):Prop:=match r with
 | .inl (a,n)=>s=(a,(n,false))
 | .inr m=>s.2=(m,true)
end Go.Proofs.YtipngnjffjajpaaGreatDoor.Tx
