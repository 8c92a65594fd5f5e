/- The document's reader reads what the program's reads, or fails where that gives up. -/
import Derived.Test.YtipngnjffjajpaaGreatDoorH19
set_option linter.unusedVariables false
set_option maxHeartbeats 8000000
set_option maxRecDepth 100000
namespace Go.Proofs.YtipngnjffjajpaaGreatDoor.Tx
open Go.RowKit
open Go.Value renaming int -> M, slice -> U, bool -> zc, pointer -> zd, agg -> zf, tuple -> zh
open Go.IntKind renaming i64 -> O
open Go.Obj renaming cells -> ze
open Go.Ending renaming returned -> zg
section
variable {α β:Type}
theorem Sim.bind {r:Res α} {s:α × Sg} {f:α->Nat->Res β} {g:α × Sg->β × Sg} (h:Sim r s) (hf:∀ a n,r=.inl (a,n)->Sim (f a n) (g (a,(n,false)))) (hg:∀ a m,(g (a,(m,true))).2=(m,true)):Sim (Aw r f) (g s):=by
 rcases r with ⟨a,n⟩ | m
 ·have e:s=(a,(n,false)):=h
  rw [e];exact hf a n rfl
 ·obtain ⟨a,q⟩:=s
  have e:q=(m,true):=h;subst e;exact hg a m
def Ec (ts:List Tok) (x:List UInt8) (r:Res α) (s:α × Sg):Prop:=match r with
 | .inl (a,n)=>(isT ts n x=true->s=(a,(n,false)))/\(isT ts n x=false->s.2=(n,true)\/s.2=(n,false))
 | .inr m=>s.2=(m,true)
end
section
variable (ts:List Tok) (en:Nat)
theorem Et (m k:Nat):tl ts (m,true) k=[]:=rfl
theorem M3 (n k:Nat):tl ts (n,false) k=(Ah ts (n+k)).text.data.toList:=rfl
theorem F4 (n:Nat):tl ts (n,false) 0=(Ah ts n).text.data.toList:=rfl
theorem A5 (n:Nat) (x:List UInt8):(tl ts (n,false) 0=x) ↔ isT ts n x=true:=by
 rw [M3];unfold isT;simp
theorem Kx (n:Nat) (x:List UInt8):(tl ts (n,false) 1=x) ↔ isT ts (n+1) x=true:=by
 rw [M3];unfold isT;simp
theorem BP (x:List UInt8) (m:Nat):Al ts x (m,true)=(m,true):=rfl
theorem Bt (x:List UInt8) (n:Nat):Al ts x (n,false)=if isT ts n x=true then (n+1,false) else (n,true):=by
 unfold Al;rw [if_neg (by simp)];by_cases h:isT ts n x=true
 ·rw [if_pos h,if_pos ((A5 ts n x).2 h)]
 ·rw [if_neg h,if_neg (fun e=>h ((A5 ts n x).1 e))]
theorem EE:nmS []=false:=by decide
theorem FP (m:Nat):AJ ts (m,true)=(noS,(m,true)):=by
 unfold AJ;rw [Et,EE];rfl
theorem IY:∀ (f deep m:Nat),(A4 ts en f deep (m,true)).2=(m,true)
 | 0,deep,m=>rfl
 | f+1,deep,m=>by
  unfold A4;rw [Et,if_neg (by simp),if_neg (by simp),if_neg (by simp [CH]),FP]
theorem x_f (m:Nat):(rX ts en (m,true)).2=(m,true):=IY ts en 61 0 m
theorem Ig (g:Nat) (acc:List D) (m:Nat):Bz ts en g acc (m,true)=(acc,(m,true)):=by
 cases g with
 | zero=>rfl
 | succ g=>unfold Bz;rw [if_neg (by simp)]
theorem GK (g:Nat) (acc:List ByteArray) (m:Nat):Ct ts g acc (m,true)=(acc,(m,true)):=by
 cases g with
 | zero=>rfl
 | succ g=>unfold Ct;rw [Et,if_neg (by simp)]
theorem II (m:Nat):(CQ ts (m,true)).2=(m,true):=by
 unfold CQ;rw [Et,if_pos (by simp),FP];dsimp only;rw [GK]
theorem GP (g:Nat) (mo:Bool) (acc:List D) (m:Nat):CF ts en g mo acc (m,true)=(acc,(m,true)):=by
 cases g with
 | zero=>rfl
 | succ g=>unfold CF;rw [if_neg (by simp)]
theorem Me (m:Nat):(Df ts en (m,true)).2=(m,true):=by
 unfold Df;rw [BP];dsimp only;rw [GP];rfl
theorem CN (g:Nat) (x:List UInt8) (acc:List D) (m:Nat):AN ts en g x acc (m,true)=(acc,(m,true)):=by
 match g with
 | 0=>rfl
 | 1=>rfl
 | g+2=>unfold AN;rw [if_neg (by simp)]
theorem Jy {ss:Sg->List D × Sg} (h:∀ m,(ss (m,true)).2=(m,true)) (m:Nat):(A6 ts ss (m,true)).2=(m,true):=by
 unfold A6;rw [BP];dsimp only;rw [h];rfl
theorem GE (g:Nat) (acc:List ByteArray) (m:Nat):Co ts g acc (m,true)=(acc,(m,true)):=by
 cases g with
 | zero=>rfl
 | succ g=>unfold Co;rw [if_neg (by simp)]
theorem MF (a:Int) (x:ByteArray) (m:Nat):(Fi ts en a x (m,true)).2=(m,true):=by
 unfold Fi;rw [BP,GE];dsimp only;rw [BP,BP,CN];dsimp only;rw [BP,x_f];rfl
theorem GU (kd a:Int) (x y:ByteArray) (gv:Bool) (m:Nat):(Cd ts en kd a x y gv (m,true)).2=(m,true):=by
 unfold Cd;split
 ·dsimp only
  rw [Me];rfl
 ·rfl
theorem Sim.take {β:Type} {x:List UInt8} {n:Nat} {F:Unit->Nat->Res β} {G:Sg->β × Sg} (hf:isT ts n x=true->Sim (F () (n+1)) (G (n+1,false))) (hg:∀ m,(G (m,true)).2=(m,true)):Sim (Aw (Av ts x n) F) (G (Al ts x (n,false))):=by
 rw [Bt];unfold Av;by_cases h:isT ts n x=true
 ·rw [if_pos h,if_pos h];exact hf h
 ·rw [if_neg h,if_neg h];exact hg n
theorem Ec.take {α β:Type} {x:List UInt8} {r:Res α} {s:α × Sg} {F:α->Nat->Res β} {G:α->Sg->β × Sg} (h:Ec ts x r s) (hf:∀ a n,r=.inl (a,n)->Sim (F a (n+1)) (G a (n+1,false))) (hg:∀ a m,(G a (m,true)).2=(m,true)):Sim (Aw r fun a n1=>Aw (Av ts x n1) fun _ n2=>F a n2) (G s.1 (Al ts x s.2)):=by
 rcases r with ⟨a,n⟩ | m
 ·rw [Am]
  unfold Av;by_cases hx:isT ts n x=true
  ·have e:s=(a,(n,false)):=h.1 hx
   rw [e,if_pos hx,Bt,if_pos hx];exact hf a n rfl
  ·have b:isT ts n x=false:=by simpa using hx
   rcases h.2 b with e | e
   ·rw [e,if_neg hx,BP]
    exact hg _ n
   ·rw [e,if_neg hx,Bt,if_neg hx]
    exact hg _ n
 ·have e:s.2=(m,true):=h
  rw [e,BP];exact hg _ m
structure M1:Prop where
 nm:∀ n,nmS (Ah ts n).text.data.toList=AU (Ah ts n)
 nu:∀ n,CH (Ah ts n).text.data.toList=decide ((Ah ts n).kind=2)

theorem BZ (hT:M1 ts) (n:Nat):Sim (AD ts n) (AJ ts (n,false)):=by
 unfold AD AJ;rw [F4,hT.nm];split
 ·rfl
 ·rfl
theorem ED (hT:M1 ts) {n:Nat} {x:List UInt8} (h:isT ts n x=true) (hx:nmS x=false):AU (Ah ts n)=false:=by
 rw [<-hT.nm,show (Ah ts n).text.data.toList=x from (A5 ts n x).2 h,hx]
theorem Jq (hT:M1 ts) {n:Nat} {x:List UInt8} (h:isT ts n x=true) (hx:CH x=false):¬ (Ah ts n).kind=2:=by
 have:=hT.nu n;rw [show (Ah ts n).text.data.toList=x from (A5 ts n x).2 h,hx] at this;simpa using this.symm
theorem GS {n:Nat} {x y:List UInt8} (h:isT ts n x=true) (hxy:x≠y):isT ts n y=false:=by
 unfold isT at *;have:(Ah ts n).text.data.toList=x:=by simpa using h
 rw [this];simpa using hxy
theorem Lp (hT:M1 ts) (n:Nat):DQ ts (n,false)=if (Ah ts n).kind=2 then ((CX (Ah ts n).text.data.toList:Int),(n+1,false)) else (0,(n,true)):=by
 unfold DQ;rw [F4,hT.nu];by_cases h:(Ah ts n).kind=2
 ·rw [if_pos h,if_pos (by simpa using h)]
 ·rw [if_neg h,if_neg (by simpa using h)];rfl
theorem Li (hT:M1 ts):∀ (f deep n:Nat),61<=f+deep->deep<=60->Sim (pE ts en f deep n) (A4 ts en f deep (n,false))
 | 0,deep,n,h1,h2=>absurd h1 (by omega)
 | f+1,deep,n,h1,h2=>by
  unfold pE A4;by_cases h40:isT ts n [40]=true/\deep < 60
  ·have e:tl ts (n,false) 0=[40]/\deep < 60:=⟨(A5 ts n _).2 h40.1,h40.2⟩
   rw [if_pos e,if_neg (Jq ts hT h40.1 rfl),if_neg (by rw [GS ts h40.1 (by decide)];simp),if_neg (by rw [ED ts hT h40.1 (by decide)];simp),if_pos ⟨h40.2,h40.1⟩,Bt,if_pos h40.1];have ha:=Li hT f (deep+1) (n+1) (by omega) (by omega);revert ha;generalize pE ts en f (deep+1) (n+1)=r;generalize A4 ts en f (deep+1) (n+1,false)=p1;intro ha;rcases r with ⟨a,n1⟩ | m
   ·have e1:p1=(a,(n1,false)):=ha
    subst e1;dsimp only;rw [F4];by_cases hk:A1 (Ah ts n1).text.data.toList=0
    ·rw [if_pos hk,if_pos hk]
     show (Al ts [41] (A4 ts en f (deep+1) (n1,true)).2)=(n1,true);rw [IY];rfl
    ·rw [if_neg hk,if_neg hk,Bt,if_pos (by unfold isT;simp)]
     have hb:=Li hT f (deep+1) (n1+1) (by omega) (by omega);revert hb;generalize pE ts en f (deep+1) (n1+1)=r;generalize A4 ts en f (deep+1) (n1+1,false)=p2;intro hb;rcases r with ⟨b,n2⟩ | m
     ·have e2:p2=(b,(n2,false)):=hb
      subst e2;dsimp only;rw [Bt];by_cases h41:isT ts n2 [41]=true
      ·rw [if_pos h41,if_pos h41];rfl
      ·rw [if_neg h41,if_neg h41];rfl
     ·have e2:p2.2=(m,true):=hb
      show Al ts [41] p2.2=(m,true);rw [e2];rfl
   ·have e1:p1.2=(m,true):=ha
    dsimp only;rw [e1,Et,if_pos (by decide)];show Al ts [41] (A4 ts en f (deep+1) (m,true)).2=(m,true);rw [IY];rfl
  ·have e40:¬ (tl ts (n,false) 0=[40]/\deep < 60):=fun e=>h40 ⟨(A5 ts n _).1 e.1,e.2⟩
   rw [if_neg e40];by_cases h45:isT ts n [45]=true
   ·rw [if_pos ((A5 ts n _).2 h45),if_neg (Jq ts hT h45 rfl),if_pos h45,Bt,if_pos h45]
    dsimp only;by_cases h48:isT ts (n+1) [48]=true
    ·rw [if_pos h48,if_pos ((A5 ts _ _).2 h48)]
     rfl
    ·rw [if_neg h48,if_neg (fun e=>h48 ((A5 ts _ _).1 e)),Lp ts hT]
     by_cases hn:(Ah ts (n+1)).kind=2
     ·rw [if_pos hn,if_pos hn];rfl
     ·rw [if_neg hn,if_neg hn];rfl
   ·have e45:¬ tl ts (n,false) 0=[45]:=fun e=>h45 ((A5 ts n _).1 e)
    rw [if_neg e45,F4,hT.nu,Lp ts hT];by_cases hn:(Ah ts n).kind=2
    ·rw [if_pos hn,if_pos (decide_eq_true hn),if_pos hn];rfl
    ·rw [if_neg hn,if_neg h45,if_neg (show ¬ decide ((Ah ts n).kind=2)=true by simpa using hn)]
     unfold AJ;rw [F4,hT.nm];by_cases hnm:AU (Ah ts n)=true
     ·rw [if_pos hnm,if_pos hnm];rfl
     ·rw [if_neg hnm,if_neg hnm,if_neg (show ¬ (deep < 60/\isT ts n [40]=true) from fun e=>h40 ⟨e.2,e.1⟩)];rfl
theorem Ee (hT:M1 ts) (n:Nat):Sim (pX ts en n) (rX ts en (n,false)):=Li ts en hT 61 0 n (by omega) (by omega)
theorem FH {α:Type} {one:Nat->Res α} {rOne:Sg->α × Sg} {L:Nat->List α->Sg->List α × Sg} (h1:∀ n,Sim (one n) (rOne (n,false))) (hm:∀ n a n1,one n=.inl (a,n1)->n<=n1)
  (Lf:∀ g acc m,L g acc (m,true)=(acc,(m,true)))
  (Lend:∀ g acc n,isT ts n [41]=true->L (g+1) acc (n,false)=(acc,(n,false)))
  (Lgo:∀ g acc n n0,(acc=[]/\n0=n/\isT ts n0 [41]=false\/acc≠[]/\isT ts n0 [44]=true/\n=n0+1)->∃ fx:Sg->Sg,(∀ m,fx (m,true)=(m,true))/\(∀ m,isT ts m [44]=true\/isT ts m [41]=true->fx (m,false)=(m,false))/\(∀ m,isT ts m [44]=false->isT ts m [41]=false->(∀ g' acc',acc'≠[]->(L (g' + 1) acc' (fx (m,false))).2=(m,true)))/\L (g+1) acc (n0,false)=L g (acc++[(rOne (n,false)).1]) (fx (rOne (n,false)).2)) :
  ∀ (f g:Nat) (acc:List α) (n n0:Nat),(acc=[]/\n0=n/\isT ts n0 [41]=false\/acc≠[]/\isT ts n0 [44]=true/\n=n0+1)->ts.length - n < f->f+1<=g->Ec ts [41] (Bn ts [44] one f true acc n) (L g acc (n0,false))
 | 0,g,acc,n,n0,h0,hf,hg=>absurd hf (by omega)
 | f+1,g,acc,n,n0,h0,hf,hg=>by
  obtain ⟨g,rfl⟩:∃ q,g=q+1:=⟨g - 1,by omega⟩;obtain ⟨fx,x1,x2,x3,x4⟩:=Lgo g acc n n0 h0;rw [x4];unfold Bn;rw [if_pos rfl];have ho:=h1 n;have hmn:=hm n;revert ho hmn;generalize one n=r;generalize rOne (n,false)=p;intro ho hmn;rcases r with ⟨a,n1⟩ | m
  ·have e:p=(a,(n1,false)):=ho
   subst e;have hn1:=hmn a n1 rfl;rw [Am];dsimp only;by_cases hc:isT ts n1 [44]=true
   ·rw [if_pos hc,x2 n1 (Or.inl hc)]
    have hlt:n1 < ts.length:=B9 hc (by decide);exact FH h1 hm Lf Lend Lgo f g (acc++[a]) (n1+1) n1 (Or.inr ⟨by simp,hc,rfl⟩) (by omega) (by omega)
   ·have hc':isT ts n1 [44]=false:=by simpa using hc
    rw [if_neg hc];obtain ⟨g,rfl⟩:∃ q,g=q+1:=⟨g - 1,by omega⟩;refine ⟨fun b=>?_,fun b=>?_⟩
    ·rw [x2 n1 (Or.inr b),Lend _ _ _ b]
    ·exact Or.inl (x3 n1 hc' b g _ (by simp))
  ·have e:p.2=(m,true):=ho
   rw [e,x1,Lf];rfl
theorem Ch {n:Nat} {x:List UInt8} (h:¬ isT ts n x=true):isT ts n x=false:=by simpa using h
theorem IC (hT:M1 ts) (f g n:Nat) (hn:isT ts n [41]=false) (hf:ts.length - n < f) (hg:f+1<=g):Ec ts [41] (Bn ts [44] (pX ts en) f true [] n) (Bz ts en g [] (n,false)):=by
 refine FH ts (L:=Bz ts en) (Ee ts en hT) (fun n a n1 h=>by have:=(DT _ _ _ _ _ h).2;omega) (Ig ts en) (fun g i n h=>?_) (fun g i n v k=>?_) f g [] n n (Or.inl ⟨rfl,rfl,hn⟩) hf hg
 ·rw [Bz,if_neg (fun e=>e.2 ((A5 ts n _).2 h))]
 ·refine ⟨fun s=>if tl ts s 0≠[44]/\tl ts s 0≠[41] then Ci s else s,fun m=>?_,fun m h=>?_,fun m j c l b _=>?_,?_⟩
  ·dsimp only;rw [Et,if_pos (by simp)];rfl
  ·dsimp only
   rw [if_neg];rintro ⟨u,r⟩;rcases h with h | h
   ·exact u ((A5 ts m _).2 h)
   ·exact r ((A5 ts m _).2 h)
  ·dsimp only
   rw [if_pos ⟨fun e=>absurd ((A5 ts m _).1 e) (by rw [j];simp),fun e=>absurd ((A5 ts m _).1 e) (by rw [c];simp)⟩];show (Bz ts en (l + 1) b (m,true)).2=_;rw [Ig]
  ·rcases k with ⟨rfl,rfl,h⟩ | ⟨h,c,rfl⟩
   ·rw [Bz,if_pos ⟨rfl,fun e=>by rw [(A5 ts _ _).1 e] at h;cases h⟩,if_neg (by simp)]
   ·rw [Bz,if_pos ⟨rfl,fun e=>by have:=(A5 ts _ _).1 e;rw [GS ts c (by decide)] at this;cases this⟩,if_pos (List.length_pos_iff.2 h),Bt,if_pos c]
theorem Le (hT:M1 ts) (f g n:Nat) (hn:isT ts n [41]=false) (hf:ts.length - n < f) (hg:f+1<=g):Ec ts [41] (Bn ts [44] (AD ts) f true [] n) (Co ts g [] (n,false)):=by
 refine FH ts (L:=Co ts) (BZ ts hT) (fun n a n1 h=>by have:=Bf h;omega) (GE ts) (fun g c n h=>?_) (fun g c n r l=>?_) f g [] n n (Or.inl ⟨rfl,rfl,hn⟩) hf hg
 ·rw [Co,if_neg (fun e=>e.2 ((A5 ts n _).2 h))]
 ·refine ⟨fun s=>s,fun m=>rfl,fun m h=>rfl,fun m k b u i j=>?_,?_⟩
  ·dsimp only
   rw [Co,if_pos ⟨rfl,fun e=>by rw [(A5 ts m _).1 e] at b;cases b⟩,if_pos (List.length_pos_iff.2 j),Bt,if_neg (by rw [k];simp),FP];dsimp only;rw [GE]
  ·rcases l with ⟨rfl,rfl,h⟩ | ⟨h,b,rfl⟩
   ·rw [Co,if_pos ⟨rfl,fun e=>by rw [(A5 ts _ _).1 e] at h;cases h⟩,if_neg (by simp)]
   ·rw [Co,if_pos ⟨rfl,fun e=>by have:=(A5 ts _ _).1 e;rw [GS ts b (by decide)] at this;cases this⟩,if_pos (List.length_pos_iff.2 h),Bt,if_pos b]
end
theorem Lw (l:List UInt8):¬ A1 l=2:=by
 unfold A1
 repeat' split
 all_goals omega
def G1 {α:Type} (ts:List Tok) (r:Res α) (s:α × Sg):Prop:=match r with
 | .inl (a,n)=>s=(a,(n,false))\/(s.2=(n,true)/\isT ts n [59]=false/\isT ts n [125]=false)
 | .inr m=>s.2=(m,true)
section
variable (ts:List Tok) (en:Nat)
theorem Hf (hT:M1 ts):∀ (f g:Nat) (acc:List ByteArray) (n:Nat),ts.length - n < f+1->f+1<=g->Sim (if isT ts n [44]=true then Bn ts [44] (AD ts) f true acc (n+1) else .inl (acc,n)) (Ct ts g acc (n,false))
 | f,0,acc,n,hf,hg=>absurd hg (by omega)
 | f,g+1,acc,n,hf,hg=>by
  unfold Ct;by_cases hc:isT ts n [44]=true
  ·have hlt:n < ts.length:=B9 hc (by decide)
   obtain ⟨f,rfl⟩:∃ q,f=q+1:=⟨f - 1,by omega⟩;rw [if_pos hc,if_pos ((A5 ts n _).2 hc),Bt,if_pos hc];unfold Bn;rw [if_pos rfl];refine Sim.bind (g:=fun p:ByteArray × Sg=>Ct ts g (acc++[p.1]) p.2) (BZ ts hT (n+1)) (fun a n1 h=>?_) (fun a m=>by dsimp only;rw [GK]);have:=Bf h;exact Hf hT f g (acc++[a]) n1 (by omega) (by omega)
  ·rw [if_neg hc,if_neg (fun e=>hc ((A5 ts n _).1 e))]
   rfl
theorem He (hT:M1 ts) (n:Nat):G1 ts (Bi ts (AU (Ah ts n)) n) (CQ ts (n,false)):=by
 unfold Bi CQ;by_cases hn:AU (Ah ts n)=true
 ·have i:¬ tl ts (n,false) 0=[59]:=fun e=>by rw [ED ts hT ((A5 ts n _).1 e) (by decide)] at hn;cases hn
  have b:¬ tl ts (n,false) 0=[125]:=fun e=>by rw [ED ts hT ((A5 ts n _).1 e) (by decide)] at hn;cases hn
  rw [if_pos ⟨i,b⟩,hn];unfold Bn;rw [if_pos rfl];have c:Sim (Aw (AD ts n) fun a n1=>if isT ts n1 [44]=true then Bn ts [44] (AD ts) ts.length true ([]++[a]) (n1+1) else .inl ([]++[a],n1)) ((fun p:ByteArray × Sg=>Ct ts (ts.length+1) [p.1] p.2) (AJ ts (n,false))):=by
   refine Sim.bind (g:=fun p:ByteArray × Sg=>Ct ts (ts.length+1) [p.1] p.2) (BZ ts hT n) (fun a n1 h=>?_) (fun a m=>by dsimp only;rw [GK]);exact Hf ts hT ts.length (ts.length+1) [a] n1 (by omega) (by omega)
  revert c;generalize (Aw (AD ts n) fun a n1=>if isT ts n1 [44]=true then Bn ts [44] (AD ts) ts.length true ([]++[a]) (n1+1) else .inl ([]++[a],n1))=r;intro c;rcases r with ⟨a,n1⟩ | m
  ·exact Or.inl c
  ·exact c
 ·have f:AU (Ah ts n)=false:=by simpa using hn
  rw [f];have j:Bn ts [44] (AD ts) (ts.length+1) false [] n=.inl ([],n):=rfl;rw [j];by_cases he:tl ts (n,false) 0≠[59]/\tl ts (n,false) 0≠[125]
  ·rw [if_pos he]
   refine Or.inr ⟨?_,Ch ts fun e=>he.1 ((A5 ts n _).2 e),Ch ts fun e=>he.2 ((A5 ts n _).2 e)⟩;unfold AJ;rw [F4,hT.nm,if_neg hn];show (Ct ts (ts.length+1) [noS] (n,true)).2=_;rw [GK]
  ·rw [if_neg he]
   exact Or.inl rfl
theorem G1.map {α β:Type} {r:Res α} {s:α × Sg} (F:α->β) (h:G1 ts r s):G1 ts (Aw r fun a n=>.inl (F a,n)) (F s.1,s.2):=by
 rcases r with ⟨a,n⟩ | m
 ·rcases h with h | ⟨c,b⟩
  ·exact Or.inl (by rw [h])
  ·exact Or.inr ⟨c,b⟩
 ·exact h
theorem G1.bad {α:Type} {m:Nat} {s:α × Sg} (h:s.2=(m,true)):G1 ts (.inr m) s:=h
theorem IB (hT:M1 ts) (n:Nat):G1 ts (Bm ts en n) (Ez ts en (n,false)):=by
 unfold Bm Ez;have b:=BZ ts hT n;revert b;generalize AD ts n=r;generalize AJ ts (n,false)=p;intro b;rcases r with ⟨o,n1⟩ | m
 ·have e:p=(o,(n1,false)):=b
  subst e;rw [Am];dsimp only;by_cases h33:isT ts n1 [33]=true
  ·have a:tl ts (n1,false) 0=[33]:=(A5 ts n1 _).2 h33
   rw [if_pos h33,if_pos a,Bt,if_pos h33,decide_eq_true a];exact (He ts hT (n1+1)).map ts (fun c=>Dp (Ar ts en n) o true c)
  ·have a:¬ tl ts (n1,false) 0=[33]:=fun e=>h33 ((A5 ts n1 _).1 e)
   rw [if_neg h33,if_neg a,Bt,decide_eq_false a];unfold Av;by_cases h58:isT ts n1 [58]=true
   ·rw [if_pos h58,if_pos h58,Am]
    exact (He ts hT (n1+1)).map ts (fun c=>Dp (Ar ts en n) o false c)
   ·rw [if_neg h58,if_neg h58]
    exact G1.bad ts (II ts n1)
 ·obtain ⟨o,q⟩:=p
  have e:q=(m,true):=b;subst e;refine G1.bad ts ?_;dsimp only;rw [Et,if_neg (by simp),BP];exact II ts m
theorem IL {n:Nat} {d:D} {n1:Nat} (h:Bm ts en n=.inl (d,n1)):n<=n1:=by
 have i:∀ sm n l n1,Bi ts sm n=.inl (l,n1)->n<=n1:=fun sm n l n1 h=>DS (fun n a n1 h=>by have:=Bf h;omega) _ _ _ _ _ _ h;unfold Bm at h;obtain ⟨o,m,u,g⟩:=AE h;have:=Bf u;split at g
 ·obtain ⟨j,k,f,c⟩:=AE g
  have:=i _ _ _ _ f;have:=CL c;omega
 ·obtain ⟨_,v,b,r⟩:=AE g
  obtain ⟨j,k,f,c⟩:=AE r;have:=i _ _ _ _ f;have:=CL c;unfold Av at b;split at b
  ·have:=CL b
   omega
  ·cases b
theorem Hg (hT:M1 ts):∀ (f g:Nat) (acc:List D) (n:Nat),ts.length - n < f->f+1<=g->Ec ts [125] (Bn ts [59] (Bm ts en) f true acc n) (CF ts en g true acc (n,false))
 | 0,g,acc,n,hf,hg=>absurd hf (by omega)
 | f+1,g,acc,n,hf,hg=>by
  obtain ⟨g,rfl⟩:∃ q,g=q+1:=⟨g - 1,by omega⟩;unfold Bn CF;rw [if_pos rfl,if_pos ⟨rfl,rfl⟩];have ho:=IB ts en hT n;have hm:=fun a n1=>IL ts en (n:=n) (d:=a) (n1:=n1);revert ho hm;generalize Bm ts en n=r;generalize Ez ts en (n,false)=p;intro ho hm;rcases r with ⟨a,n1⟩ | m
  ·rw [Am]
   have hn1:=hm a n1 rfl;rcases ho with e | ⟨e,h59,h125⟩
   ·subst e
    dsimp only;by_cases hc:isT ts n1 [59]=true
    ·have ec:=(A5 ts n1 _).2 hc
     have hlt:n1 < ts.length:=B9 hc (by decide);rw [if_pos hc,if_pos ec,decide_eq_true ec,Bt,if_pos hc];exact Hg hT f g (acc++[a]) (n1+1) (by omega) (by omega)
    ·have ec:¬ tl ts (n1,false) 0=[59]:=fun e=>hc ((A5 ts n1 _).1 e)
     rw [if_neg hc,if_neg ec,decide_eq_false ec];have hr:CF ts en g false (acc++[a]) (n1,false)=(acc++[a],(n1,false)):=by
      cases g with
      | zero=>rfl
      | succ g=>unfold CF;rw [if_neg (by simp)]
     rw [hr];exact ⟨fun _=>rfl,fun _=>Or.inr rfl⟩
   ·rw [if_neg (by rw [h59];simp)]
    dsimp only;rw [e,Et,if_neg (by simp),GP];exact ⟨fun h=>absurd h (by rw [h125];simp),fun _=>Or.inl rfl⟩
  ·have e:p.2=(m,true):=ho
   dsimp only;rw [e,Et,if_neg (by simp),GP];rfl
theorem JI (hT:M1 ts) (n:Nat):Sim (BO ts en n) (Df ts en (n,false)):=by
 unfold BO Df;refine Sim.take ts (G:=fun s1:Sg=>(fun p:List D × Sg=>(p.1,Al ts [125] p.2)) (CF ts en (ts.length+2) (decide (tl ts s1 0≠[125])) [] s1)) (fun h=>?_) (fun m=>?_)
 ·have f:Ec ts [125] (Bn ts [59] (Bm ts en) (ts.length+1) (!isT ts (n+1) [125]) [] (n+1)) (CF ts en (ts.length+2) (decide (tl ts (n+1,false) 0≠[125])) [] (n+1,false)):=by
   by_cases hc:isT ts (n+1) [125]=true
   ·have b:=(A5 ts (n+1) _).2 hc
    rw [hc,decide_eq_false (by simpa using b)];exact ⟨fun _=>rfl,fun h=>by rw [hc] at h;cases h⟩
   ·have b:tl ts (n+1,false) 0≠[125]:=fun e=>hc ((A5 ts (n+1) _).1 e)
    rw [Ch ts hc,decide_eq_true b];exact Hg ts en hT (ts.length+1) (ts.length+2) [] (n+1) (by omega) (by omega)
  exact Ec.take ts (F:=fun l c=>.inl (l,c)) (G:=fun a q=>(a,q)) f (fun a n h=>rfl) (fun a m=>rfl)
 ·dsimp only
  rw [GP];rfl
theorem Jn (hT:M1 ts) {n:Nat} (h:AU (Ah ts n)=true):pX ts en n=.inl (eD 2 (Ar ts en n) 0 (Ah ts n).text [],n+1):=by
 have b:¬ (Ah ts n).kind=2:=fun e=>by
  unfold AU at h;rw [e] at h;cases h
 have a:¬ isT ts n [45]=true:=fun e=>by rw [ED ts hT e (by decide)] at h;cases h
 unfold pX pE;rw [if_neg b,if_neg a,if_pos h]
theorem L5 {n:Nat} {e:D} {n1:Nat} (h:pX ts en n=.inl (e,n1)) (hk:Ij e=2):AU (Ah ts n)=true:=by
 have k1:∀ (kd a m:Int) (x:ByteArray) (ds:List D),Ij (eD kd a m x ds)=kd:=fun _ _ _ _ _=>rfl;unfold pX pE at h;split at h
 ·injection h with h;injection h with h _;rw [<-h,k1] at hk;omega
 split at h
 ·split at h
  ·cases h
  split at h
  ·injection h with h;injection h with h _;rw [<-h,k1] at hk;omega
  ·cases h
 split at h
 ·assumption
 split at h
 ·revert h
  generalize pE ts en 60 (0+1) (n+1)=r;intro h;rcases r with ⟨a,m⟩ | m
  ·dsimp only at h
   split at h
   ·cases h
   revert h;generalize pE ts en 60 (0+1) (m+1)=r;intro h;rcases r with ⟨b,m2⟩ | m2
   ·dsimp only at h
    split at h
    ·injection h with h;injection h with h _;rw [<-h,k1] at hk;exact absurd hk (Lw _)
    ·cases h
   ·cases h
  ·cases h
 ·cases h
theorem JJ (hT:M1 ts) (n:Nat) (h:isT ts n [40]=true):Sim (Aw (Bn ts [44] (pX ts en) (ts.length+1) (!isT ts (n+1) [41]) [] (n+1)) fun l n4=>Aw (Av ts [41] n4) fun _ n5=>.inl (l,n5)) (Dg ts en (n,false)):=by
 unfold Dg;rw [Bt,if_pos h];have c:Ec ts [41] (Bn ts [44] (pX ts en) (ts.length+1) (!isT ts (n+1) [41]) [] (n+1)) (Bz ts en (ts.length+2) [] (n+1,false)):=by
  by_cases hc:isT ts (n+1) [41]=true
  ·rw [hc,Bz,if_neg (fun e=>e.2 ((A5 ts (n+1) _).2 hc))]
   exact ⟨fun _=>rfl,fun h=>by rw [hc] at h;cases h⟩
  ·rw [Ch ts hc]
   exact IC ts en hT (ts.length+1) (ts.length+2) (n+1) (Ch ts hc) (by omega) (by omega)
 exact Ec.take ts (F:=fun l b=>.inl (l,b)) (G:=fun a q=>(a,q)) c (fun a n h=>rfl) (fun a m=>rfl)
theorem FI (hT:M1 ts) (n:Nat):Sim (CO ts en (Ar ts en n) n) (Cx ts en (n,false)):=by
 unfold CO Cx;refine Sim.bind (g:=fun p:ByteArray × Sg=>(fun b:Sg=>
  if nmS (tl ts b 0)=true/\tl ts b 1=[40] then (fun q:ByteArray × Sg=>(fun l:List D × Sg=>(stD 2 (Ar ts en n) p.1 q.1 noE l.1 [] [],l.2)) (Dg ts en q.2)) (AJ ts b)
  else (fun e:D × Sg=>(stD 1 (Ar ts en n) p.1 noS e.1 [] [] [],e.2)) (rX ts en b)) (Al ts [61] p.2)) (BZ ts hT n) (fun x n1 h=>?_) (fun a m=>?_)
 ·refine Sim.take ts (G:=fun b:Sg=>
   if nmS (tl ts b 0)=true/\tl ts b 1=[40] then (fun q:ByteArray × Sg=>(fun l:List D × Sg=>(stD 2 (Ar ts en n) x q.1 noE l.1 [] [],l.2)) (Dg ts en q.2)) (AJ ts b)
   else (fun e:D × Sg=>(stD 1 (Ar ts en n) x noS e.1 [] [] [],e.2)) (rX ts en b)) (fun h=>?_) (fun m=>?_)
  ·generalize n1+1=n2
   rw [F4,hT.nm];by_cases hn:AU (Ah ts n2)=true
   ·rw [Jn ts en hT hn,Am]
    by_cases h40:isT ts (n2+1) [40]=true
    ·have j:tl ts (n2,false) 1=[40]:=(Kx ts n2 _).2 h40
     rw [if_pos ⟨rfl,h40⟩,if_pos ⟨hn,j⟩];have c:=JJ ts en hT (n2+1) h40;have i:AJ ts (n2,false)=((Ah ts n2).text,(n2+1,false)):=by
      unfold AJ;rw [F4,hT.nm,if_pos hn];rfl
     rw [i];dsimp only;have y:(⟨(FX (eD 2 (Ar ts en n2) 0 (Ah ts n2).text [])).toArray⟩:ByteArray)=(Ah ts n2).text:=by
      show (⟨(Ah ts n2).text.data.toList.toArray⟩:ByteArray)=_;simp
     rw [y];have:=Sim.bind (g:=fun l:List D × Sg=>(stD 2 (Ar ts en n) x (Ah ts n2).text noE l.1 [] [],l.2)) c (f:=fun l k=>.inl (stD 2 (Ar ts en n) x (Ah ts n2).text noE l [] [],k)) (fun a n h=>rfl) (fun a m=>rfl);refine cast ?_ this;congr 1;unfold Aw;generalize Bn ts [44] (pX ts en) (ts.length+1) (!isT ts (n2+1+1) [41]) [] (n2+1+1)=r;rcases r with ⟨l,v⟩ | m
     ·dsimp only
      generalize Av ts [41] v=q;rcases q with ⟨u,k⟩ | m <;> rfl
     ·rfl
    ·rw [if_neg (fun e=>h40 e.2),if_neg (fun e=>h40 ((Kx ts n2 _).1 e.2))]
     have c:=Ee ts en hT n2;rw [Jn ts en hT hn] at c;have e:rX ts en (n2,false)=(eD 2 (Ar ts en n2) 0 (Ah ts n2).text [],(n2+1,false)):=c;rw [e];rfl
   ·rw [if_neg (fun e=>hn e.1)]
    refine Sim.bind (g:=fun e:D × Sg=>(stD 1 (Ar ts en n) x noS e.1 [] [] [],e.2)) (Ee ts en hT n2) (fun e C A=>?_) (fun a m=>rfl);rw [if_neg (fun B=>hn (L5 ts en A B.1))];rfl
  ·dsimp only
   rw [Et,EE,if_neg (by simp)];exact x_f ts en m
 ·dsimp only
  rw [BP,Et,EE,if_neg (by simp)];exact x_f ts en m
theorem JH (hT:M1 ts) {blk:Nat->Res (List D)} {blk':Sg->List D × Sg} (n:Nat) (hb:∀ n',n+1<=n'->n < ts.length->Sim (blk n') (blk' (n',false))) (hbf:∀ m,(blk' (m,true)).2=(m,true)) (hbl:∀ n l n1,blk n=.inl (l,n1)->n<=n1):Sim (BA ts en blk n) (Bq ts en blk' (n,false)):=by
 have T:∀ {x:List UInt8},isT ts n x=true->tl ts (n,false) 0=x:=fun h=>(A5 ts n _).2 h;have N:∀ {x y:List UInt8},isT ts n x=true->x≠y->¬ tl ts (n,false) 0=y:=fun h j e=>by rw [T h] at e;exact j e
 have I:∀ {x y:List UInt8},isT ts n x=true->x≠y->¬ isT ts n y=true:=fun h j e=>by rw [GS ts h j] at e;cases e
 have F:∀ {x:List UInt8},¬ isT ts n x=true->¬ tl ts (n,false) 0=x:=fun h e=>h ((A5 ts n _).1 e);unfold BA Bq;by_cases h1:isT ts n [105,102]=true
 ·have f:n < ts.length:=B9 h1 (by decide)
  rw [if_pos h1,if_neg (N h1 (by decide)),if_neg (N h1 (by decide)),if_neg (N h1 (by decide)),if_neg (N h1 (by decide)),if_pos (T h1),Bt,if_pos h1];refine Sim.bind (g:=fun e:D × Sg=>(fun c:List D × Sg=>if tl ts c.2 0=[101,108,115,101] then (fun i:List D × Sg=>(stD 7 (Ar ts en n) noS noS e.1 [] c.1 i.1,i.2)) (blk' (Al ts [101,108,115,101] c.2)) else (stD 7 (Ar ts en n) noS noS e.1 [] c.1 [],c.2)) (blk' e.2)) (Ee ts en hT (n+1)) (fun e n1 u=>?_) (fun a m=>?_)
  ·have:=C6 u
   refine Sim.bind (g:=fun c:List D × Sg=>if tl ts c.2 0=[101,108,115,101] then (fun i:List D × Sg=>(stD 7 (Ar ts en n) noS noS e [] c.1 i.1,i.2)) (blk' (Al ts [101,108,115,101] c.2)) else (stD 7 (Ar ts en n) noS noS e [] c.1 [],c.2)) (hb n1 (by omega) f) (fun c n2 k=>?_) (fun a m=>?_)
   ·dsimp only
    by_cases hel:isT ts n2 [101,108,115,101]=true
    ·rw [if_pos hel,if_pos ((A5 ts n2 _).2 hel),Bt,if_pos hel]
     have r:n+1<=n2+1:=by have:=hbl _ _ _ k;omega
     exact Sim.bind (g:=fun i:List D × Sg=>(stD 7 (Ar ts en n) noS noS e [] c i.1,i.2)) (hb (n2+1) r f) (fun i A _=>rfl) (fun a m=>rfl)
    ·rw [if_neg hel,if_neg (fun e=>hel ((A5 ts n2 _).1 e))]
     rfl
   ·dsimp only
    rw [Et,if_neg (by simp)]
  ·dsimp only
   rw [hbf,Et,if_neg (by simp)]
 rw [if_neg h1];by_cases h2:isT ts n [119,104,105,108,101]=true
 ·have f:n < ts.length:=B9 h2 (by decide)
  rw [if_pos h2,if_neg (N h2 (by decide)),if_neg (N h2 (by decide)),if_neg (N h2 (by decide)),if_neg (N h2 (by decide)),if_neg (N h2 (by decide)),if_pos (T h2),Bt,if_pos h2];refine Sim.bind (g:=fun e:D × Sg=>(fun c:List D × Sg=>(stD 8 (Ar ts en n) noS noS e.1 [] c.1 [],c.2)) (blk' e.2)) (Ee ts en hT (n+1)) (fun e n1 u=>?_) (fun a m=>?_)
  ·have:=C6 u
   exact Sim.bind (g:=fun c:List D × Sg=>(stD 8 (Ar ts en n) noS noS e [] c.1 [],c.2)) (hb n1 (by omega) f) (fun c n2 k=>rfl) (fun a m=>rfl)
  ·dsimp only
   rw [hbf]
 rw [if_neg h2];have fin:∀ (s:D) (n2:Nat),Sim (Hs ts s n2) (s,Al ts [59] (n2,false)):=fun s n2=>Sim.take ts (G:=fun q=>(s,q)) (fun _=>rfl) (fun m=>rfl);by_cases h3:isT ts n [103,101,116]=true
 ·rw [if_pos h3,if_pos (T h3),Bt,if_pos h3]
  refine Sim.bind (g:=fun a:ByteArray × Sg=>(fun b:ByteArray × Sg=>(stD 3 (Ar ts en n) a.1 b.1 noE [] [] [],Al ts [59] b.2)) (AJ ts a.2)) (BZ ts hT (n+1)) (fun a n1 v=>?_) (fun a m=>?_)
  ·exact Sim.bind (g:=fun b:ByteArray × Sg=>(stD 3 (Ar ts en n) a b.1 noE [] [] [],Al ts [59] b.2)) (BZ ts hT n1) (fun b n2 hb=>fin _ _) (fun a m=>rfl)
  ·dsimp only
   rw [FP];rfl
 rw [if_neg h3,if_neg (F h3)];by_cases h4:isT ts n [112,117,116]=true
 ·rw [if_pos h4,if_pos (T h4),Bt,if_pos h4]
  refine Sim.bind (g:=fun b:ByteArray × Sg=>(fun e:D × Sg=>(stD 4 (Ar ts en n) noS b.1 e.1 [] [] [],Al ts [59] e.2)) (rX ts en b.2)) (BZ ts hT (n+1)) (fun a n1 v=>?_) (fun a m=>?_)
  ·exact Sim.bind (g:=fun e:D × Sg=>(stD 4 (Ar ts en n) noS a e.1 [] [] [],Al ts [59] e.2)) (Ee ts en hT n1) (fun b n2 hb=>fin _ _) (fun a m=>rfl)
  ·dsimp only
   rw [x_f];rfl
 rw [if_neg h4,if_neg (F h4)];by_cases h5:isT ts n [114,101,118,101,97,108]=true
 ·rw [if_pos h5,if_pos (T h5),Bt,if_pos h5]
  refine Sim.bind (g:=fun a:ByteArray × Sg=>(fun e:D × Sg=>(stD 5 (Ar ts en n) a.1 noS e.1 [] [] [],Al ts [59] e.2)) (rX ts en a.2)) (BZ ts hT (n+1)) (fun a n1 v=>?_) (fun a m=>?_)
  ·exact Sim.bind (g:=fun e:D × Sg=>(stD 5 (Ar ts en n) a noS e.1 [] [] [],Al ts [59] e.2)) (Ee ts en hT n1) (fun b n2 hb=>fin _ _) (fun a m=>rfl)
  ·dsimp only
   rw [x_f];rfl
 rw [if_neg h5,if_neg (F h5)];by_cases h6:isT ts n [116,114,117,115,116]=true
 ·rw [if_pos h6,if_pos (T h6),Bt,if_pos h6]
  refine Sim.bind (g:=fun a:ByteArray × Sg=>(fun e:D × Sg=>(stD 6 (Ar ts en n) a.1 noS e.1 [] [] [],Al ts [59] e.2)) (rX ts en a.2)) (BZ ts hT (n+1)) (fun a n1 v=>?_) (fun a m=>?_)
  ·exact Sim.bind (g:=fun e:D × Sg=>(stD 6 (Ar ts en n) a noS e.1 [] [] [],Al ts [59] e.2)) (Ee ts en hT n1) (fun b n2 hb=>fin _ _) (fun a m=>rfl)
  ·dsimp only
   rw [x_f];rfl
 rw [if_neg h6,if_neg (F h6),if_neg (F h1),if_neg (F h2)];exact Sim.bind (g:=fun p:D × Sg=>(p.1,Al ts [59] p.2)) (FI ts en hT n) (fun s n1 B=>fin _ _) (fun a m=>rfl)
theorem EP {blk':Sg->List D × Sg} {n:Nat} {y:List UInt8} (h:isT ts n y=true) (hy:nmS y=false) (h1:y≠[103,101,116]) (h2:y≠[112,117,116]) (h3:y≠[114,101,118,101,97,108]) (h4:y≠[116,114,117,115,116]) (h5:y≠[105,102]) (h6:y≠[119,104,105,108,101]):(Bq ts en blk' (n,false)).2=(n,true):=by
 have e:tl ts (n,false) 0=y:=(A5 ts n _).2 h;unfold Bq;rw [e,if_neg h1,if_neg h2,if_neg h3,if_neg h4,if_neg h5,if_neg h6];have a:AJ ts (n,false)=(noS,(n,true)):=by
  unfold AJ;rw [e,hy];rfl
 unfold Cx;rw [a];dsimp only;rw [BP,Et,EE,if_neg (by simp)];dsimp only;rw [x_f];rfl
theorem MK {n:Nat} (h:¬ n < ts.length):isT ts n []=true:=by
 unfold isT Ah;rw [List.getElem?_eq_none (by omega)];rfl
theorem D2 (hT:M1 ts):∀ (f g:Nat) (x:List UInt8) (acc:List D) (n:Nat),(x=[125]\/x=[114,101,116,117,114,110])->2*(ts.length - n)+2<=f->f<=g->Ec ts x (AL ts en f acc n) (AN ts en g x acc (n,false))
 | 0,g,x,acc,n,hx,hf,hg=>absurd hf (by omega)
 | 1,g,x,acc,n,hx,hf,hg=>absurd hf (by omega)
 | f+2,0,x,acc,n,hx,hf,hg=>absurd hg (by omega)
 | f+2,1,x,acc,n,hx,hf,hg=>absurd hg (by omega)
 | f+2,g+2,x,acc,n,hx,hf,hg=>by
  unfold AL AN;by_cases ht:isT ts n [125]=true\/isT ts n [114,101,116,117,114,110]=true
  ·rw [if_pos ht]
   by_cases hxx:isT ts n x=true
   ·rw [if_neg (fun e=>e.2 ((A5 ts n _).2 hxx))]
    exact ⟨fun _=>rfl,fun h=>by rw [hxx] at h;cases h⟩
   ·rw [if_pos ⟨rfl,fun e=>hxx ((A5 ts n _).1 e)⟩]
    dsimp only;have hbad:(Bq ts en (A6 ts fun s=>AN ts en g [125] [] s) (n,false)).2=(n,true):=by
     rcases ht with h | h
     ·exact EP ts en h (by decide) (by decide) (by decide) (by decide) (by decide) (by decide) (by decide)
     ·exact EP ts en h (by decide) (by decide) (by decide) (by decide) (by decide) (by decide) (by decide)
    rw [hbad,CN];exact ⟨fun h=>absurd h hxx,fun _=>Or.inl rfl⟩
  ·have i:¬ tl ts (n,false) 0=x:=fun e=>ht (by
    have:=(A5 ts n _).1 e;rcases hx with rfl | rfl
    ·exact Or.inl this
    ·exact Or.inr this)
   rw [if_neg ht,if_pos ⟨rfl,i⟩];have c:Sim (BA ts en (AZ ts fun n=>AL ts en f [] n) n) (Bq ts en (A6 ts fun s=>AN ts en g [125] [] s) (n,false)):=by
    refine JH ts en hT n (fun v y j=>?_) (Jy ts (fun m=>by rw [CN])) (fun n l n1 h=>by have:=Cu (fun n l n1 h=>B7 _ _ _ _ _ h) h;omega);unfold AZ A6;refine Sim.take ts (G:=fun s1=>(fun p:List D × Sg=>(p.1,Al ts [125] p.2)) (AN ts en g [125] [] s1)) (fun h=>?_) (fun m=>by dsimp only;rw [CN];rfl);exact Ec.take ts (F:=fun l u=>.inl (l,u)) (G:=fun a q=>(a,q)) (D2 hT f g [125] [] (v + 1) (Or.inl rfl) (by omega) (by omega)) (fun a n h=>rfl) (fun a m=>rfl)
   have k:=fun d n1=>EV (ts:=ts) (en:=en) (blk:=AZ ts fun n=>AL ts en f [] n) (fun n l n1 h=>by have:=Cu (fun n l n1 h=>B7 _ _ _ _ _ h) h;omega) (n:=n) (d:=d) (n1:=n1);have b:¬ n < ts.length->(Bq ts en (A6 ts fun s=>AN ts en g [125] [] s) (n,false)).2=(n,true):=fun h=>EP ts en (MK ts h) (by decide) (by decide) (by decide) (by decide) (by decide) (by decide) (by decide);revert c k b;generalize BA ts en (AZ ts fun n=>AL ts en f [] n) n=r;generalize Bq ts en (A6 ts fun s=>AN ts en g [125] [] s) (n,false)=p;intro c k b;rcases r with ⟨s,n1⟩ | m
   ·have e:p=(s,(n1,false)):=c
    subst e;have:=k s n1 rfl;rw [Am];have j:n < ts.length:=by
     by_cases h:n < ts.length
     ·exact h
     ·have:=b h
      cases this
    exact D2 hT (f+1) (g+1) x (acc++[s]) n1 hx (by omega) (by omega)
   ·have e:p.2=(m,true):=c
    dsimp only;rw [e,CN];rfl
theorem JK (hT:M1 ts) (f g n:Nat) (hf:2*ts.length+2<=f) (hg:f<=g):Sim (AZ ts (AL ts en f []) n) (A6 ts (AN ts en g [125] []) (n,false)):=by
 unfold AZ A6;refine Sim.take ts (G:=fun s1=>(fun p:List D × Sg=>(p.1,Al ts [125] p.2)) (AN ts en g [125] [] s1)) (fun h=>?_) (fun m=>by dsimp only;rw [CN];rfl);exact Ec.take ts (F:=fun l b=>.inl (l,b)) (G:=fun a q=>(a,q)) (D2 ts en hT f g [125] [] (n+1) (Or.inl rfl) (by omega) (by omega)) (fun a n h=>rfl) (fun a m=>rfl)
theorem Lg (hT:M1 ts) (a:Int) (x:ByteArray) (n:Nat):Sim (Ef ts en a x n) (Fi ts en a x (n,false)):=by
 unfold Ef Fi;refine Sim.take ts (G:=fun s1=>(fun c:List ByteArray × Sg=>(fun b:List D × Sg=>(fun r:D × Sg=>(deD 7 a x noS false [] c.1 b.1 r.1,Al ts [125] (Al ts [59] r.2))) (rX ts en (Al ts [114,101,116,117,114,110] b.2))) (AN ts en (2*ts.length+3) [114,101,116,117,114,110] [] (Al ts [123] (Al ts [41] c.2)))) (Co ts (ts.length+2) [] s1)) (fun h=>?_) (fun m=>?_)
 ·have f:Ec ts [41] (Bi ts (!isT ts (n+1) [41]) (n+1)) (Co ts (ts.length+2) [] (n+1,false)):=by
   unfold Bi;by_cases hc:isT ts (n+1) [41]=true
   ·rw [hc,Co,if_neg (fun e=>e.2 ((A5 ts (n+1) _).2 hc))]
    exact ⟨fun _=>rfl,fun h=>by rw [hc] at h;cases h⟩
   ·rw [Ch ts hc]
    exact Le ts hT (ts.length+1) (ts.length+2) (n+1) (Ch ts hc) (by omega) (by omega)
  refine Ec.take ts (G:=fun c q=>(fun b:List D × Sg=>(fun r:D × Sg=>(deD 7 a x noS false [] c b.1 r.1,Al ts [125] (Al ts [59] r.2))) (rX ts en (Al ts [114,101,116,117,114,110] b.2))) (AN ts en (2*ts.length+3) [114,101,116,117,114,110] [] (Al ts [123] q))) f (fun c k h=>?_) (fun a m=>?_)
  ·refine Sim.take ts (G:=fun q=>(fun b:List D × Sg=>(fun r:D × Sg=>(deD 7 a x noS false [] c b.1 r.1,Al ts [125] (Al ts [59] r.2))) (rX ts en (Al ts [114,101,116,117,114,110] b.2))) (AN ts en (2*ts.length+3) [114,101,116,117,114,110] [] q)) (fun h=>?_) (fun m=>?_)
   ·refine Ec.take ts (G:=fun b q=>(fun r:D × Sg=>(deD 7 a x noS false [] c b r.1,Al ts [125] (Al ts [59] r.2))) (rX ts en q)) (D2 ts en hT (2*ts.length+3) (2*ts.length+3) [114,101,116,117,114,110] [] _ (Or.inr rfl) (by omega) (by omega)) (fun b j h=>?_) (fun a m=>?_)
    ·refine Sim.bind (g:=fun r:D × Sg=>(deD 7 a x noS false [] c b r.1,Al ts [125] (Al ts [59] r.2))) (Ee ts en hT _) (fun r i h=>?_) (fun a m=>rfl)
     refine Sim.take ts (G:=fun q=>(deD 7 a x noS false [] c b r,Al ts [125] q)) (fun h=>?_) (fun m=>rfl);exact Sim.take ts (G:=fun q=>(deD 7 a x noS false [] c b r,q)) (fun h=>rfl) (fun m=>rfl)
    ·dsimp only
     rw [x_f];rfl
   ·dsimp only
    rw [CN];dsimp only;rw [BP,x_f];rfl
  ·dsimp only
   rw [BP,CN];dsimp only;rw [BP,x_f];rfl
 ·dsimp only
  rw [GE];dsimp only;rw [BP,BP,CN];dsimp only;rw [BP,x_f];rfl
theorem D3 (hT:M1 ts) (kd a:Int) (x y:ByteArray) (gv:Bool) (n:Nat):Sim (Cj ts en kd a x y gv n) (Cd ts en kd a x y gv (n,false)):=by
 unfold Cj Cd
 cases gv with
 | true=>
  rw [if_pos rfl,if_pos rfl];refine Sim.bind (g:=fun l:List D × Sg=>(deD kd a x y true l.1 [] [] noE,Al ts [59] l.2)) (JI ts en hT n) (fun l n1 h=>?_) (fun a m=>rfl);exact Sim.take ts (G:=fun q=>(deD kd a x y true l [] [] noE,q)) (fun h=>rfl) (fun m=>rfl)
 | false=>
  rw [if_neg (by simp),if_neg (by simp)];exact Sim.take ts (G:=fun q=>(deD kd a x y false [] [] [] noE,q)) (fun h=>rfl) (fun m=>rfl)
theorem Lh (hT:M1 ts) (n:Nat) (hk:¬ AX (Ah ts n).text.data.toList=0):Sim (Bj ts en n) (DD ts en (n,false)):=by
 unfold Bj DD;rw [if_neg hk,F4,Bt,if_pos (by unfold isT;simp)];generalize AX (Ah ts n).text.data.toList=kd at hk ⊢;refine Sim.bind (g:=fun a:ByteArray × Sg=>if kd=7 then Fi ts en (Ar ts en n) a.1 a.2 else if kd=2 then (fun b:ByteArray × Sg=>Cd ts en 2 (Ar ts en n) a.1 b.1 false b.2) (AJ ts a.2) else Cd ts en kd (Ar ts en n) a.1 noS (decide (kd=4) || decide (kd=5) || (decide (kd=6) && decide (tl ts a.2 0=[123]))) a.2) (BZ ts hT (n+1)) (fun a n1 f=>?_) (fun a m=>?_)
 ·dsimp only
  by_cases h2:kd=2
  ·subst h2
   rw [if_pos rfl,if_neg (by omega),if_pos rfl];exact Sim.bind (g:=fun b:ByteArray × Sg=>Cd ts en 2 (Ar ts en n) a b.1 false b.2) (BZ ts hT n1) (fun b n2 c=>D3 ts en hT _ _ _ _ _ _) (fun a m=>GU ts en _ _ _ _ _ _)
  by_cases h45:kd=4\/kd=5
  ·rw [if_neg h2,if_pos h45,if_neg (by omega),if_neg h2]
   have e:(decide (kd=4) || decide (kd=5) || (decide (kd=6) && decide (tl ts (n1,false) 0=[123])))=true:=by rcases h45 with rfl | rfl <;> simp
   rw [e];exact D3 ts en hT _ _ _ _ _ _
  rw [if_neg h2,if_neg h45];by_cases h6:kd=6
  ·subst h6
   rw [if_pos rfl,if_neg (by omega),if_neg (by omega)];have e:(decide ((6:Int)=4) || decide ((6:Int)=5) || (decide ((6:Int)=6) && decide (tl ts (n1,false) 0=[123])))=isT ts n1 [123]:=by
    by_cases h:isT ts n1 [123]=true
    ·rw [h,(A5 ts n1 _).2 h];simp
    ·rw [Ch ts h,decide_eq_false (fun e=>h ((A5 ts n1 _).1 e))];simp
   rw [e];exact D3 ts en hT _ _ _ _ _ _
  rw [if_neg h6];by_cases h7:kd=7
  ·subst h7
   rw [if_pos rfl,if_pos rfl];exact Lg ts en hT _ _ _
  rw [if_neg h7,if_neg h7,if_neg h2];have e:(decide (kd=4) || decide (kd=5) || (decide (kd=6) && decide (tl ts (n1,false) 0=[123])))=false:=by
   rw [decide_eq_false (fun e=>h45 (Or.inl e)),decide_eq_false (fun e=>h45 (Or.inr e)),decide_eq_false h6];rfl
  rw [e];exact D3 ts en hT _ _ _ _ _ _
 ·dsimp only
  split
  ·exact MF ts en _ _ _
  split
  ·rw [FP];exact GU ts en _ _ _ _ _ _
  ·exact GU ts en _ _ _ _ _ _
def Nk {α:Type} (ts:List Tok) (r:Res α) (s:α × Sg):Prop:=match r with
 | .inl (a,n)=>s=(a,(n,false))
 | .inr m=>s.2=(m,true)\/(s.2=(m,false)/\isT ts m [109,97,105,110]=false)
theorem Gg (hT:M1 ts):∀ (f g:Nat) (acc:List D) (n:Nat),ts.length - n < f->f<=g->Nk ts (Dh ts en f acc n) (Cr ts en g acc (n,false))
 | 0,g,acc,n,hf,hg=>absurd hf (by omega)
 | f+1,0,acc,n,hf,hg=>absurd hg (by omega)
 | f+1,g+1,acc,n,hf,hg=>by
  unfold Dh Cr;rw [F4];by_cases hm:isT ts n [109,97,105,110]=true
  ·have e:(Ah ts n).text.data.toList=[109,97,105,110]:=(A5 ts n _).2 hm
   rw [if_pos hm,e,if_neg (fun h=>h.2 (by decide))];rfl
  ·rw [if_neg hm]
   by_cases hk:AX (Ah ts n).text.data.toList=0
   ·rw [if_neg (fun h=>h.2 hk)]
    unfold Bj;rw [if_pos hk];exact Or.inr ⟨rfl,Ch ts hm⟩
   ·rw [if_pos ⟨rfl,hk⟩]
    have hs:=Lh ts en hT n hk;have hl:=fun d n1=>C7 (ts:=ts) (en:=en) (n:=n) (d:=d) (n1:=n1);have hlt:n < ts.length:=Cb (fun e=>hk (by rw [e];rfl));revert hs hl;generalize Bj ts en n=r;generalize DD ts en (n,false)=p;intro hs hl;rcases r with ⟨s,n1⟩ | m
    ·have e:p=(s,(n1,false)):=hs
     subst e;have:=hl s n1 rfl;exact Gg hT f g (acc++[s]) n1 (by omega) (by omega)
    ·have e:p.2=(m,true):=hs
     have hf:∀ g acc m,Cr ts en g acc (m,true)=(acc,(m,true)):=fun g acc m=>by
      cases g with
      | zero=>rfl
      | succ g=>unfold Cr;rw [if_neg (by simp)]
     dsimp only;rw [e,hf];exact Or.inl rfl
def Nj (ts:List Tok) (r:Res (List D × List D)) (s:(List D × List D) × Sg):Prop:=match r with
 | .inl (a,n)=>s=(a,(n,false))/\¬ n < ts.length
 | .inr m=>s.2=(m,true)\/(s.2=(m,false)/\m < ts.length)
theorem Hd (hT:M1 ts):Nj ts (CG ts en) (Jk ts en):=by
 unfold CG Jk;have c:=Gg ts en hT (ts.length+1) (ts.length+2) [] 0 (by omega) (by omega);have a:∀ m,(A6 ts (AN ts en (2*ts.length+3) [125] []) (m,true)).2=(m,true):=Jy ts (fun m=>by rw [CN]);revert c;generalize Dh ts en (ts.length+1) [] 0=r;generalize Cr ts en (ts.length+2) [] (0,false)=p;intro c;rcases r with ⟨f,n⟩ | m
 ·have e:p=(f,(n,false)):=c
  subst e;rw [Am];dsimp only;rw [Bt];unfold Av;by_cases hm:isT ts n [109,97,105,110]=true
  ·rw [if_pos hm,if_pos hm,Am]
   have b:=JK ts en hT (2*ts.length+3) (2*ts.length+3) (n+1) (by omega) (by omega);revert b;generalize AZ ts (AL ts en (2*ts.length+3) []) (n+1)=r;generalize A6 ts (AN ts en (2*ts.length+3) [125] []) (n+1,false)=q;intro b;rcases r with ⟨l,n2⟩ | m
   ·have e:q=(l,(n2,false)):=b
    subst e;rw [Am];by_cases hlt:n2 < ts.length
    ·rw [if_pos hlt];exact Or.inr ⟨rfl,hlt⟩
    ·rw [if_neg hlt];exact ⟨rfl,hlt⟩
   ·have e:q.2=(m,true):=b
    exact Or.inl e
  ·rw [if_neg hm,if_neg hm]
   exact Or.inl (a n)
 ·dsimp only
  rcases c with e | ⟨e,hm⟩
  ·rw [e,BP]
   exact Or.inl (a m)
  ·rw [e,Bt,if_neg (by rw [hm];simp)]
   exact Or.inl (a m)
end
end Go.Proofs.YtipngnjffjajpaaGreatDoor.Tx
