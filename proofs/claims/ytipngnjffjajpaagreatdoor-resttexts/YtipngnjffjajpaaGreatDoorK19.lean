/- The document's reader reads what the program's reads: labels, commands, declarations, a tree. -/
import Derived.Test.YtipngnjffjajpaaGreatDoorK18
import Derived.Test.YtipngnjffjajpaaGreatDoorK08
set_option linter.unusedVariables false
set_option maxHeartbeats 8000000
set_option maxRecDepth 100000
namespace Go.Proofs.YtipngnjffjajpaaGreatDoor.Tx
open Go.RowKit
open Go.Value renaming int -> O, slice -> zd, bool -> ze, agg -> zf, pointer -> zh, tuple -> zj
open Go.IntKind renaming i64 -> zc
open Go.Obj renaming cells -> zg
open Go.Ending renaming returned -> zi
theorem Oq (l:List UInt8):¬ A0 l=2:=by
 unfold A0
 repeat' split
 all_goals omega
def Jz {α:Type} (ts:List Tok) (r:Res α) (s:α × Sg):Prop:=match r with
 | .inl (a,n)=>s=(a,(n,false))\/(s.2=(n,true)/\isT ts n [59]=false/\isT ts n [125]=false)
 | .inr m=>s.2=(m,true)
section
variable (ts:List Tok) (en:Nat)
theorem JO (hT:Dp ts):∀ (f g:Nat) (acc:List ByteArray) (n:Nat),ts.length - n < f+1->f+1<=g->Sim (if isT ts n [44]=true then BB ts [44] (AY ts) f true acc (n+1) else .inl (acc,n)) (CH ts g acc (n,false))
 | f,0,acc,n,hf,hg=>absurd hg (by omega)
 | f,g+1,acc,n,hf,hg=>by
  unfold CH;by_cases hc:isT ts n [44]=true
  ·have hlt:n < ts.length:=Cf hc (by decide)
   obtain ⟨f,rfl⟩:∃ q,f=q+1:=⟨f - 1,by omega⟩;rw [if_pos hc,if_pos ((A6 ts n _).2 hc),BI,if_pos hc];unfold BB;rw [if_pos rfl];refine Sim.bind (g:=fun p:ByteArray × Sg=>CH ts g (acc++[p.1]) p.2) (B6 ts hT (n+1)) (fun a n1 h=>?_) (fun a m=>by dsimp only;rw [I8]);have:=Bm h;exact JO hT f g (acc++[a]) n1 (by omega) (by omega)
  ·rw [if_neg hc,if_neg (fun e=>hc ((A6 ts n _).1 e))]
   rfl
theorem JN (hT:Dp ts) (n:Nat):Jz ts (BZ ts (AJ (Ag ts n)) n) (Dg ts (n,false)):=by
 unfold BZ Dg;by_cases hn:AJ (Ag ts n)=true
 ·have i:¬ tl ts (n,false) 0=[59]:=fun e=>by rw [FL ts hT ((A6 ts n _).1 e) (by decide)] at hn;cases hn
  have b:¬ tl ts (n,false) 0=[125]:=fun e=>by rw [FL ts hT ((A6 ts n _).1 e) (by decide)] at hn;cases hn
  rw [if_pos ⟨i,b⟩,hn];unfold BB;rw [if_pos rfl];have c:Sim (Ao (AY ts n) fun a n1=>if isT ts n1 [44]=true then BB ts [44] (AY ts) ts.length true ([]++[a]) (n1+1) else .inl ([]++[a],n1)) ((fun p:ByteArray × Sg=>CH ts (ts.length+1) [p.1] p.2) (AD ts (n,false))):=by
   refine Sim.bind (g:=fun p:ByteArray × Sg=>CH ts (ts.length+1) [p.1] p.2) (B6 ts hT n) (fun a n1 h=>?_) (fun a m=>by dsimp only;rw [I8]);exact JO ts hT ts.length (ts.length+1) [a] n1 (by omega) (by omega)
  revert c;generalize (Ao (AY ts n) fun a n1=>if isT ts n1 [44]=true then BB ts [44] (AY ts) ts.length true ([]++[a]) (n1+1) else .inl ([]++[a],n1))=r;intro c;rcases r with ⟨a,n1⟩ | m
  ·exact Or.inl c
  ·exact c
 ·have f:AJ (Ag ts n)=false:=by simpa using hn
  rw [f];have j:BB ts [44] (AY ts) (ts.length+1) false [] n=.inl ([],n):=rfl;rw [j];by_cases he:tl ts (n,false) 0≠[59]/\tl ts (n,false) 0≠[125]
  ·rw [if_pos he]
   refine Or.inr ⟨?_,Cr ts fun e=>he.1 ((A6 ts n _).2 e),Cr ts fun e=>he.2 ((A6 ts n _).2 e)⟩;unfold AD;rw [Hz,hT.nm,if_neg hn];show (CH ts (ts.length+1) [noS] (n,true)).2=_;rw [I8]
  ·rw [if_neg he]
   exact Or.inl rfl
theorem Jz.map {α β:Type} {r:Res α} {s:α × Sg} (F:α->β) (h:Jz ts r s):Jz ts (Ao r fun a n=>.inl (F a,n)) (F s.1,s.2):=by
 rcases r with ⟨a,n⟩ | m
 ·rcases h with h | ⟨c,b⟩
  ·exact Or.inl (by rw [h])
  ·exact Or.inr ⟨c,b⟩
 ·exact h
theorem Jz.bad {α:Type} {m:Nat} {s:α × Sg} (h:s.2=(m,true)):Jz ts (.inr m) s:=h
theorem Lo (hT:Dp ts) (n:Nat):Jz ts (Bz ts en n) (FG ts en (n,false)):=by
 unfold Bz FG;have b:=B6 ts hT n;revert b;generalize AY ts n=r;generalize AD ts (n,false)=p;intro b;rcases r with ⟨o,n1⟩ | m
 ·have e:p=(o,(n1,false)):=b
  subst e;rw [AK];dsimp only;by_cases h33:isT ts n1 [33]=true
  ·have a:tl ts (n1,false) 0=[33]:=(A6 ts n1 _).2 h33
   rw [if_pos h33,if_pos a,BI,if_pos h33,decide_eq_true a];exact (JN ts hT (n1+1)).map ts (fun c=>DD (Al ts en n) o true c)
  ·have a:¬ tl ts (n1,false) 0=[33]:=fun e=>h33 ((A6 ts n1 _).1 e)
   rw [if_neg h33,if_neg a,BI,decide_eq_false a];unfold AG;by_cases h58:isT ts n1 [58]=true
   ·rw [if_pos h58,if_pos h58,AK]
    exact (JN ts hT (n1+1)).map ts (fun c=>DD (Al ts en n) o false c)
   ·rw [if_neg h58,if_neg h58]
    exact Jz.bad ts (Ls ts n1)
 ·obtain ⟨o,q⟩:=p
  have e:q=(m,true):=b;subst e;refine Jz.bad ts ?_;dsimp only;rw [FB,if_neg (by simp),B0];exact Ls ts m
theorem Lv {n:Nat} {d:D} {n1:Nat} (h:Bz ts en n=.inl (d,n1)):n<=n1:=by
 have i:∀ sm n l n1,BZ ts sm n=.inl (l,n1)->n<=n1:=fun sm n l n1 h=>EN (fun n a n1 h=>by have:=Bm h;omega) _ _ _ _ _ _ h;unfold Bz at h;obtain ⟨o,m,v,g⟩:=Ay h;have:=Bm v;split at g
 ·obtain ⟨j,r,f,c⟩:=Ay g
  have:=i _ _ _ _ f;have:=Dd c;omega
 ·obtain ⟨_,x,b,u⟩:=Ay g
  obtain ⟨j,r,f,c⟩:=Ay u;have:=i _ _ _ _ f;have:=Dd c;unfold AG at b;split at b
  ·have:=Dd b
   omega
  ·cases b
theorem JP (hT:Dp ts):∀ (f g:Nat) (acc:List D) (n:Nat),ts.length - n < f->f+1<=g->Fg ts [125] (BB ts [59] (Bz ts en) f true acc n) (C5 ts en g true acc (n,false))
 | 0,g,acc,n,hf,hg=>absurd hf (by omega)
 | f+1,g,acc,n,hf,hg=>by
  obtain ⟨g,rfl⟩:∃ q,g=q+1:=⟨g - 1,by omega⟩;unfold BB C5;rw [if_pos rfl,if_pos ⟨rfl,rfl⟩];have ho:=Lo ts en hT n;have hm:=fun a n1=>Lv ts en (n:=n) (d:=a) (n1:=n1);revert ho hm;generalize Bz ts en n=r;generalize FG ts en (n,false)=p;intro ho hm;rcases r with ⟨a,n1⟩ | m
  ·rw [AK]
   have hn1:=hm a n1 rfl;rcases ho with e | ⟨e,h59,h125⟩
   ·subst e
    dsimp only;by_cases hc:isT ts n1 [59]=true
    ·have ec:=(A6 ts n1 _).2 hc
     have hlt:n1 < ts.length:=Cf hc (by decide);rw [if_pos hc,if_pos ec,decide_eq_true ec,BI,if_pos hc];exact JP hT f g (acc++[a]) (n1+1) (by omega) (by omega)
    ·have ec:¬ tl ts (n1,false) 0=[59]:=fun e=>hc ((A6 ts n1 _).1 e)
     rw [if_neg hc,if_neg ec,decide_eq_false ec];have hr:C5 ts en g false (acc++[a]) (n1,false)=(acc++[a],(n1,false)):=by
      cases g with
      | zero=>rfl
      | succ g=>unfold C5;rw [if_neg (by simp)]
     rw [hr];exact ⟨fun _=>rfl,fun _=>Or.inr rfl⟩
   ·rw [if_neg (by rw [h59];simp)]
    dsimp only;rw [e,FB,if_neg (by simp),Jc];exact ⟨fun h=>absurd h (by rw [h125];simp),fun _=>Or.inl rfl⟩
  ·have e:p.2=(m,true):=ho
   dsimp only;rw [e,FB,if_neg (by simp),Jc];rfl
theorem MI (hT:Dp ts) (n:Nat):Sim (DF ts en n) (DV ts en (n,false)):=by
 unfold DF DV;refine Sim.take ts (G:=fun s1:Sg=>(fun p:List D × Sg=>(p.1,Ak ts [125] p.2)) (C5 ts en (ts.length+2) (decide (tl ts s1 0≠[125])) [] s1)) (fun h=>?_) (fun m=>?_)
 ·have f:Fg ts [125] (BB ts [59] (Bz ts en) (ts.length+1) (!isT ts (n+1) [125]) [] (n+1)) (C5 ts en (ts.length+2) (decide (tl ts (n+1,false) 0≠[125])) [] (n+1,false)):=by
   by_cases hc:isT ts (n+1) [125]=true
   ·have b:=(A6 ts (n+1) _).2 hc
    rw [hc,decide_eq_false (by simpa using b)];exact ⟨fun _=>rfl,fun h=>by rw [hc] at h;cases h⟩
   ·have b:tl ts (n+1,false) 0≠[125]:=fun e=>hc ((A6 ts (n+1) _).1 e)
    rw [Cr ts hc,decide_eq_true b];exact JP ts en hT (ts.length+1) (ts.length+2) [] (n+1) (by omega) (by omega)
  exact Fg.take ts (F:=fun l c=>.inl (l,c)) (G:=fun a q=>(a,q)) f (fun a n h=>rfl) (fun a m=>rfl)
 ·dsimp only
  rw [Jc];rfl
theorem Mm (hT:Dp ts) {n:Nat} (h:AJ (Ag ts n)=true):pX ts en n=.inl (eD 2 (Al ts en n) 0 (Ag ts n).text [],n+1):=by
 have b:¬ (Ag ts n).kind=2:=fun e=>by
  unfold AJ at h;rw [e] at h;cases h
 have a:¬ isT ts n [45]=true:=fun e=>by rw [FL ts hT e (by decide)] at h;cases h
 unfold pX pE;rw [if_neg b,if_neg a,if_pos h]
theorem PV {n:Nat} {e:D} {n1:Nat} (h:pX ts en n=.inl (e,n1)) (hk:Kt e=2):AJ (Ag ts n)=true:=by
 have k1:∀ (kd a m:Int) (x:ByteArray) (ds:List D),Kt (eD kd a m x ds)=kd:=fun _ _ _ _ _=>rfl;unfold pX pE at h;split at h
 ·injection h with h;injection h with h _;rw [<-h,k1] at hk;omega
 split at h
 ·split at h
  ·cases h
  split at h
  ·injection h with h;injection h with h _;rw [<-h,k1] at hk;omega
  ·cases h
 split at h
 ·assumption
 split at h
 ·revert h
  generalize pE ts en 60 (0+1) (n+1)=r;intro h;rcases r with ⟨a,m⟩ | m
  ·dsimp only at h
   split at h
   ·cases h
   revert h;generalize pE ts en 60 (0+1) (m+1)=r;intro h;rcases r with ⟨b,m2⟩ | m2
   ·dsimp only at h
    split at h
    ·injection h with h;injection h with h _;rw [<-h,k1] at hk;exact absurd hk (Oq _)
    ·cases h
   ·cases h
  ·cases h
 ·cases h
theorem MJ (hT:Dp ts) (n:Nat) (h:isT ts n [40]=true):Sim (Ao (BB ts [44] (pX ts en) (ts.length+1) (!isT ts (n+1) [41]) [] (n+1)) fun l n4=>Ao (AG ts [41] n4) fun _ n5=>.inl (l,n5)) (DW ts en (n,false)):=by
 unfold DW;rw [BI,if_pos h];have c:Fg ts [41] (BB ts [44] (pX ts en) (ts.length+1) (!isT ts (n+1) [41]) [] (n+1)) (BN ts en (ts.length+2) [] (n+1,false)):=by
  by_cases hc:isT ts (n+1) [41]=true
  ·rw [hc,BN,if_neg (fun e=>e.2 ((A6 ts (n+1) _).2 hc))]
   exact ⟨fun _=>rfl,fun h=>by rw [hc] at h;cases h⟩
  ·rw [Cr ts hc]
   exact Lp ts en hT (ts.length+1) (ts.length+2) (n+1) (Cr ts hc) (by omega) (by omega)
 exact Fg.take ts (F:=fun l b=>.inl (l,b)) (G:=fun a q=>(a,q)) c (fun a n h=>rfl) (fun a m=>rfl)
theorem G0 (hT:Dp ts) (n:Nat):Sim (Df ts en (Al ts en n) n) (CN ts en (n,false)):=by
 unfold Df CN;refine Sim.bind (g:=fun p:ByteArray × Sg=>(fun b:Sg=>
  if nmS (tl ts b 0)=true/\tl ts b 1=[40] then (fun q:ByteArray × Sg=>(fun l:List D × Sg=>(stD 2 (Al ts en n) p.1 q.1 noE l.1 [] [],l.2)) (DW ts en q.2)) (AD ts b)
  else (fun e:D × Sg=>(stD 1 (Al ts en n) p.1 noS e.1 [] [] [],e.2)) (rX ts en b)) (Ak ts [61] p.2)) (B6 ts hT n) (fun x n1 h=>?_) (fun a m=>?_)
 ·refine Sim.take ts (G:=fun b:Sg=>
   if nmS (tl ts b 0)=true/\tl ts b 1=[40] then (fun q:ByteArray × Sg=>(fun l:List D × Sg=>(stD 2 (Al ts en n) x q.1 noE l.1 [] [],l.2)) (DW ts en q.2)) (AD ts b)
   else (fun e:D × Sg=>(stD 1 (Al ts en n) x noS e.1 [] [] [],e.2)) (rX ts en b)) (fun h=>?_) (fun m=>?_)
  ·generalize n1+1=n2
   rw [Hz,hT.nm];by_cases hn:AJ (Ag ts n2)=true
   ·rw [Mm ts en hT hn,AK]
    by_cases h40:isT ts (n2+1) [40]=true
    ·have j:tl ts (n2,false) 1=[40]:=(NE ts n2 _).2 h40
     rw [if_pos ⟨rfl,h40⟩,if_pos ⟨hn,j⟩];have c:=MJ ts en hT (n2+1) h40;have i:AD ts (n2,false)=((Ag ts n2).text,(n2+1,false)):=by
      unfold AD;rw [Hz,hT.nm,if_pos hn];rfl
     rw [i];dsimp only;have A:(⟨(Hg (eD 2 (Al ts en n2) 0 (Ag ts n2).text [])).toArray⟩:ByteArray)=(Ag ts n2).text:=by
      show (⟨(Ag ts n2).text.data.toList.toArray⟩:ByteArray)=_;simp
     rw [A];have:=Sim.bind (g:=fun l:List D × Sg=>(stD 2 (Al ts en n) x (Ag ts n2).text noE l.1 [] [],l.2)) c (f:=fun l v=>.inl (stD 2 (Al ts en n) x (Ag ts n2).text noE l [] [],v)) (fun a n h=>rfl) (fun a m=>rfl);refine cast ?_ this;congr 1;unfold Ao;generalize BB ts [44] (pX ts en) (ts.length+1) (!isT ts (n2+1+1) [41]) [] (n2+1+1)=r;rcases r with ⟨l,y⟩ | m
     ·dsimp only
      generalize AG ts [41] y=q;rcases q with ⟨u,v⟩ | m <;> rfl
     ·rfl
    ·rw [if_neg (fun e=>h40 e.2),if_neg (fun e=>h40 ((NE ts n2 _).1 e.2))]
     have c:=Fk ts en hT n2;rw [Mm ts en hT hn] at c;have e:rX ts en (n2,false)=(eD 2 (Al ts en n2) 0 (Ag ts n2).text [],(n2+1,false)):=c;rw [e];rfl
   ·rw [if_neg (fun e=>hn e.1)]
    refine Sim.bind (g:=fun e:D × Sg=>(stD 1 (Al ts en n) x noS e.1 [] [] [],e.2)) (Fk ts en hT n2) (fun e E B=>?_) (fun a m=>rfl);rw [if_neg (fun C=>hn (PV ts en B C.1))];rfl
  ·dsimp only
   rw [FB,FM,if_neg (by simp)];exact x_f ts en m
 ·dsimp only
  rw [B0,FB,FM,if_neg (by simp)];exact x_f ts en m
theorem MH (hT:Dp ts) {blk:Nat->Res (List D)} {blk':Sg->List D × Sg} (n:Nat) (hb:∀ n',n+1<=n'->n < ts.length->Sim (blk n') (blk' (n',false))) (hbf:∀ m,(blk' (m,true)).2=(m,true)) (hbl:∀ n l n1,blk n=.inl (l,n1)->n<=n1):Sim (BO ts en blk n) (BF ts en blk' (n,false)):=by
 have T:∀ {x:List UInt8},isT ts n x=true->tl ts (n,false) 0=x:=fun h=>(A6 ts n _).2 h;have N:∀ {x y:List UInt8},isT ts n x=true->x≠y->¬ tl ts (n,false) 0=y:=fun h j e=>by rw [T h] at e;exact j e
 have I:∀ {x y:List UInt8},isT ts n x=true->x≠y->¬ isT ts n y=true:=fun h j e=>by rw [Jf ts h j] at e;cases e
 have F:∀ {x:List UInt8},¬ isT ts n x=true->¬ tl ts (n,false) 0=x:=fun h e=>h ((A6 ts n _).1 e);unfold BO BF;by_cases h1:isT ts n [105,102]=true
 ·have f:n < ts.length:=Cf h1 (by decide)
  rw [if_pos h1,if_neg (N h1 (by decide)),if_neg (N h1 (by decide)),if_neg (N h1 (by decide)),if_neg (N h1 (by decide)),if_pos (T h1),BI,if_pos h1];refine Sim.bind (g:=fun e:D × Sg=>(fun c:List D × Sg=>if tl ts c.2 0=[101,108,115,101] then (fun i:List D × Sg=>(stD 7 (Al ts en n) noS noS e.1 [] c.1 i.1,i.2)) (blk' (Ak ts [101,108,115,101] c.2)) else (stD 7 (Al ts en n) noS noS e.1 [] c.1 [],c.2)) (blk' e.2)) (Fk ts en hT (n+1)) (fun e n1 v=>?_) (fun a m=>?_)
  ·have:=DE v
   refine Sim.bind (g:=fun c:List D × Sg=>if tl ts c.2 0=[101,108,115,101] then (fun i:List D × Sg=>(stD 7 (Al ts en n) noS noS e [] c.1 i.1,i.2)) (blk' (Ak ts [101,108,115,101] c.2)) else (stD 7 (Al ts en n) noS noS e [] c.1 [],c.2)) (hb n1 (by omega) f) (fun c n2 r=>?_) (fun a m=>?_)
   ·dsimp only
    by_cases hel:isT ts n2 [101,108,115,101]=true
    ·rw [if_pos hel,if_pos ((A6 ts n2 _).2 hel),BI,if_pos hel]
     have u:n+1<=n2+1:=by have:=hbl _ _ _ r;omega
     exact Sim.bind (g:=fun i:List D × Sg=>(stD 7 (Al ts en n) noS noS e [] c i.1,i.2)) (hb (n2+1) u f) (fun i B _=>rfl) (fun a m=>rfl)
    ·rw [if_neg hel,if_neg (fun e=>hel ((A6 ts n2 _).1 e))]
     rfl
   ·dsimp only
    rw [FB,if_neg (by simp)]
  ·dsimp only
   rw [hbf,FB,if_neg (by simp)]
 rw [if_neg h1];by_cases h2:isT ts n [119,104,105,108,101]=true
 ·have f:n < ts.length:=Cf h2 (by decide)
  rw [if_pos h2,if_neg (N h2 (by decide)),if_neg (N h2 (by decide)),if_neg (N h2 (by decide)),if_neg (N h2 (by decide)),if_neg (N h2 (by decide)),if_pos (T h2),BI,if_pos h2];refine Sim.bind (g:=fun e:D × Sg=>(fun c:List D × Sg=>(stD 8 (Al ts en n) noS noS e.1 [] c.1 [],c.2)) (blk' e.2)) (Fk ts en hT (n+1)) (fun e n1 v=>?_) (fun a m=>?_)
  ·have:=DE v
   exact Sim.bind (g:=fun c:List D × Sg=>(stD 8 (Al ts en n) noS noS e [] c.1 [],c.2)) (hb n1 (by omega) f) (fun c n2 r=>rfl) (fun a m=>rfl)
  ·dsimp only
   rw [hbf]
 rw [if_neg h2];have fin:∀ (s:D) (n2:Nat),Sim (J5 ts s n2) (s,Ak ts [59] (n2,false)):=fun s n2=>Sim.take ts (G:=fun q=>(s,q)) (fun _=>rfl) (fun m=>rfl);by_cases h3:isT ts n [103,101,116]=true
 ·rw [if_pos h3,if_pos (T h3),BI,if_pos h3]
  refine Sim.bind (g:=fun a:ByteArray × Sg=>(fun b:ByteArray × Sg=>(stD 3 (Al ts en n) a.1 b.1 noE [] [] [],Ak ts [59] b.2)) (AD ts a.2)) (B6 ts hT (n+1)) (fun a n1 A=>?_) (fun a m=>?_)
  ·exact Sim.bind (g:=fun b:ByteArray × Sg=>(stD 3 (Al ts en n) a b.1 noE [] [] [],Ak ts [59] b.2)) (B6 ts hT n1) (fun b n2 hb=>fin _ _) (fun a m=>rfl)
  ·dsimp only
   rw [G9];rfl
 rw [if_neg h3,if_neg (F h3)];by_cases h4:isT ts n [112,117,116]=true
 ·rw [if_pos h4,if_pos (T h4),BI,if_pos h4]
  refine Sim.bind (g:=fun b:ByteArray × Sg=>(fun e:D × Sg=>(stD 4 (Al ts en n) noS b.1 e.1 [] [] [],Ak ts [59] e.2)) (rX ts en b.2)) (B6 ts hT (n+1)) (fun a n1 A=>?_) (fun a m=>?_)
  ·exact Sim.bind (g:=fun e:D × Sg=>(stD 4 (Al ts en n) noS a e.1 [] [] [],Ak ts [59] e.2)) (Fk ts en hT n1) (fun b n2 hb=>fin _ _) (fun a m=>rfl)
  ·dsimp only
   rw [x_f];rfl
 rw [if_neg h4,if_neg (F h4)];by_cases h5:isT ts n [114,101,118,101,97,108]=true
 ·rw [if_pos h5,if_pos (T h5),BI,if_pos h5]
  refine Sim.bind (g:=fun a:ByteArray × Sg=>(fun e:D × Sg=>(stD 5 (Al ts en n) a.1 noS e.1 [] [] [],Ak ts [59] e.2)) (rX ts en a.2)) (B6 ts hT (n+1)) (fun a n1 A=>?_) (fun a m=>?_)
  ·exact Sim.bind (g:=fun e:D × Sg=>(stD 5 (Al ts en n) a noS e.1 [] [] [],Ak ts [59] e.2)) (Fk ts en hT n1) (fun b n2 hb=>fin _ _) (fun a m=>rfl)
  ·dsimp only
   rw [x_f];rfl
 rw [if_neg h5,if_neg (F h5)];by_cases h6:isT ts n [116,114,117,115,116]=true
 ·rw [if_pos h6,if_pos (T h6),BI,if_pos h6]
  refine Sim.bind (g:=fun a:ByteArray × Sg=>(fun e:D × Sg=>(stD 6 (Al ts en n) a.1 noS e.1 [] [] [],Ak ts [59] e.2)) (rX ts en a.2)) (B6 ts hT (n+1)) (fun a n1 A=>?_) (fun a m=>?_)
  ·exact Sim.bind (g:=fun e:D × Sg=>(stD 6 (Al ts en n) a noS e.1 [] [] [],Ak ts [59] e.2)) (Fk ts en hT n1) (fun b n2 hb=>fin _ _) (fun a m=>rfl)
  ·dsimp only
   rw [x_f];rfl
 rw [if_neg h6,if_neg (F h6),if_neg (F h1),if_neg (F h2)];exact Sim.bind (g:=fun p:D × Sg=>(p.1,Ak ts [59] p.2)) (G0 ts en hT n) (fun s n1 C=>fin _ _) (fun a m=>rfl)
theorem F3 {blk':Sg->List D × Sg} {n:Nat} {y:List UInt8} (h:isT ts n y=true) (hy:nmS y=false) (h1:y≠[103,101,116]) (h2:y≠[112,117,116]) (h3:y≠[114,101,118,101,97,108]) (h4:y≠[116,114,117,115,116]) (h5:y≠[105,102]) (h6:y≠[119,104,105,108,101]):(BF ts en blk' (n,false)).2=(n,true):=by
 have e:tl ts (n,false) 0=y:=(A6 ts n _).2 h;unfold BF;rw [e,if_neg h1,if_neg h2,if_neg h3,if_neg h4,if_neg h5,if_neg h6];have a:AD ts (n,false)=(noS,(n,true)):=by
  unfold AD;rw [e,hy];rfl
 unfold CN;rw [a];dsimp only;rw [B0,FB,FM,if_neg (by simp)];dsimp only;rw [x_f];rfl
theorem Ri {n:Nat} (h:¬ n < ts.length):isT ts n []=true:=by
 unfold isT Ag;rw [List.getElem?_eq_none (by omega)];rfl
theorem E6 (hT:Dp ts):∀ (f g:Nat) (x:List UInt8) (acc:List D) (n:Nat),(x=[125]\/x=[114,101,116,117,114,110])->2*(ts.length - n)+2<=f->f<=g->Fg ts x (AQ ts en f acc n) (AH ts en g x acc (n,false))
 | 0,g,x,acc,n,hx,hf,hg=>absurd hf (by omega)
 | 1,g,x,acc,n,hx,hf,hg=>absurd hf (by omega)
 | f+2,0,x,acc,n,hx,hf,hg=>absurd hg (by omega)
 | f+2,1,x,acc,n,hx,hf,hg=>absurd hg (by omega)
 | f+2,g+2,x,acc,n,hx,hf,hg=>by
  unfold AQ AH;by_cases ht:isT ts n [125]=true\/isT ts n [114,101,116,117,114,110]=true
  ·rw [if_pos ht]
   by_cases hxx:isT ts n x=true
   ·rw [if_neg (fun e=>e.2 ((A6 ts n _).2 hxx))]
    exact ⟨fun _=>rfl,fun h=>by rw [hxx] at h;cases h⟩
   ·rw [if_pos ⟨rfl,fun e=>hxx ((A6 ts n _).1 e)⟩]
    dsimp only;have hbad:(BF ts en (Bd ts fun s=>AH ts en g [125] [] s) (n,false)).2=(n,true):=by
     rcases ht with h | h
     ·exact F3 ts en h (by decide) (by decide) (by decide) (by decide) (by decide) (by decide) (by decide)
     ·exact F3 ts en h (by decide) (by decide) (by decide) (by decide) (by decide) (by decide) (by decide)
    rw [hbad,De];exact ⟨fun h=>absurd h hxx,fun _=>Or.inl rfl⟩
  ·have i:¬ tl ts (n,false) 0=x:=fun e=>ht (by
    have:=(A6 ts n _).1 e;rcases hx with rfl | rfl
    ·exact Or.inl this
    ·exact Or.inr this)
   rw [if_neg ht,if_pos ⟨rfl,i⟩];have c:Sim (BO ts en (Bw ts fun n=>AQ ts en f [] n) n) (BF ts en (Bd ts fun s=>AH ts en g [125] [] s) (n,false)):=by
    refine MH ts en hT n (fun y A j=>?_) (Mx ts (fun m=>by rw [De])) (fun n l n1 h=>by have:=CI (fun n l n1 h=>Cc _ _ _ _ _ h) h;omega);unfold Bw Bd;refine Sim.take ts (G:=fun s1=>(fun p:List D × Sg=>(p.1,Ak ts [125] p.2)) (AH ts en g [125] [] s1)) (fun h=>?_) (fun m=>by dsimp only;rw [De];rfl);exact Fg.take ts (F:=fun l v=>.inl (l,v)) (G:=fun a q=>(a,q)) (E6 hT f g [125] [] (y + 1) (Or.inl rfl) (by omega) (by omega)) (fun a n h=>rfl) (fun a m=>rfl)
   have u:=fun d n1=>Ga (ts:=ts) (en:=en) (blk:=Bw ts fun n=>AQ ts en f [] n) (fun n l n1 h=>by have:=CI (fun n l n1 h=>Cc _ _ _ _ _ h) h;omega) (n:=n) (d:=d) (n1:=n1);have b:¬ n < ts.length->(BF ts en (Bd ts fun s=>AH ts en g [125] [] s) (n,false)).2=(n,true):=fun h=>F3 ts en (Ri ts h) (by decide) (by decide) (by decide) (by decide) (by decide) (by decide) (by decide);revert c u b;generalize BO ts en (Bw ts fun n=>AQ ts en f [] n) n=r;generalize BF ts en (Bd ts fun s=>AH ts en g [125] [] s) (n,false)=p;intro c u b;rcases r with ⟨s,n1⟩ | m
   ·have e:p=(s,(n1,false)):=c
    subst e;have:=u s n1 rfl;rw [AK];have j:n < ts.length:=by
     by_cases h:n < ts.length
     ·exact h
     ·have:=b h
      cases this
    exact E6 hT (f+1) (g+1) x (acc++[s]) n1 hx (by omega) (by omega)
   ·have e:p.2=(m,true):=c
    dsimp only;rw [e,De];rfl
theorem MK (hT:Dp ts) (f g n:Nat) (hf:2*ts.length+2<=f) (hg:f<=g):Sim (Bw ts (AQ ts en f []) n) (Bd ts (AH ts en g [125] []) (n,false)):=by
 unfold Bw Bd;refine Sim.take ts (G:=fun s1=>(fun p:List D × Sg=>(p.1,Ak ts [125] p.2)) (AH ts en g [125] [] s1)) (fun h=>?_) (fun m=>by dsimp only;rw [De];rfl);exact Fg.take ts (F:=fun l b=>.inl (l,b)) (G:=fun a q=>(a,q)) (E6 ts en hT f g [125] [] (n+1) (Or.inl rfl) (by omega) (by omega)) (fun a n h=>rfl) (fun a m=>rfl)
theorem NR (hT:Dp ts) (a:Int) (x:ByteArray) (n:Nat):Sim (Fl ts en a x n) (Gq ts en a x (n,false)):=by
 unfold Fl Gq;refine Sim.take ts (G:=fun s1=>(fun c:List ByteArray × Sg=>(fun b:List D × Sg=>(fun r:D × Sg=>(deD 7 a x noS false [] c.1 b.1 r.1,Ak ts [125] (Ak ts [59] r.2))) (rX ts en (Ak ts [114,101,116,117,114,110] b.2))) (AH ts en (2*ts.length+3) [114,101,116,117,114,110] [] (Ak ts [123] (Ak ts [41] c.2)))) (CA ts (ts.length+2) [] s1)) (fun h=>?_) (fun m=>?_)
 ·have f:Fg ts [41] (BZ ts (!isT ts (n+1) [41]) (n+1)) (CA ts (ts.length+2) [] (n+1,false)):=by
   unfold BZ;by_cases hc:isT ts (n+1) [41]=true
   ·rw [hc,CA,if_neg (fun e=>e.2 ((A6 ts (n+1) _).2 hc))]
    exact ⟨fun _=>rfl,fun h=>by rw [hc] at h;cases h⟩
   ·rw [Cr ts hc]
    exact NQ ts hT (ts.length+1) (ts.length+2) (n+1) (Cr ts hc) (by omega) (by omega)
  refine Fg.take ts (G:=fun c q=>(fun b:List D × Sg=>(fun r:D × Sg=>(deD 7 a x noS false [] c b.1 r.1,Ak ts [125] (Ak ts [59] r.2))) (rX ts en (Ak ts [114,101,116,117,114,110] b.2))) (AH ts en (2*ts.length+3) [114,101,116,117,114,110] [] (Ak ts [123] q))) f (fun c l h=>?_) (fun a m=>?_)
  ·refine Sim.take ts (G:=fun q=>(fun b:List D × Sg=>(fun r:D × Sg=>(deD 7 a x noS false [] c b.1 r.1,Ak ts [125] (Ak ts [59] r.2))) (rX ts en (Ak ts [114,101,116,117,114,110] b.2))) (AH ts en (2*ts.length+3) [114,101,116,117,114,110] [] q)) (fun h=>?_) (fun m=>?_)
   ·refine Fg.take ts (G:=fun b q=>(fun r:D × Sg=>(deD 7 a x noS false [] c b r.1,Ak ts [125] (Ak ts [59] r.2))) (rX ts en q)) (E6 ts en hT (2*ts.length+3) (2*ts.length+3) [114,101,116,117,114,110] [] _ (Or.inr rfl) (by omega) (by omega)) (fun b j h=>?_) (fun a m=>?_)
    ·refine Sim.bind (g:=fun r:D × Sg=>(deD 7 a x noS false [] c b r.1,Ak ts [125] (Ak ts [59] r.2))) (Fk ts en hT _) (fun r i h=>?_) (fun a m=>rfl)
     refine Sim.take ts (G:=fun q=>(deD 7 a x noS false [] c b r,Ak ts [125] q)) (fun h=>?_) (fun m=>rfl);exact Sim.take ts (G:=fun q=>(deD 7 a x noS false [] c b r,q)) (fun h=>rfl) (fun m=>rfl)
    ·dsimp only
     rw [x_f];rfl
   ·dsimp only
    rw [De];dsimp only;rw [B0,x_f];rfl
  ·dsimp only
   rw [B0,De];dsimp only;rw [B0,x_f];rfl
 ·dsimp only
  rw [I2];dsimp only;rw [B0,B0,De];dsimp only;rw [B0,x_f];rfl
theorem E7 (hT:Dp ts) (kd a:Int) (x y:ByteArray) (gv:Bool) (n:Nat):Sim (Cu ts en kd a x y gv n) (Ck ts en kd a x y gv (n,false)):=by
 unfold Cu Ck
 cases gv with
 | true=>
  rw [if_pos rfl,if_pos rfl];refine Sim.bind (g:=fun l:List D × Sg=>(deD kd a x y true l.1 [] [] noE,Ak ts [59] l.2)) (MI ts en hT n) (fun l n1 h=>?_) (fun a m=>rfl);exact Sim.take ts (G:=fun q=>(deD kd a x y true l [] [] noE,q)) (fun h=>rfl) (fun m=>rfl)
 | false=>
  rw [if_neg (by simp),if_neg (by simp)];exact Sim.take ts (G:=fun q=>(deD kd a x y false [] [] [] noE,q)) (fun h=>rfl) (fun m=>rfl)
theorem NS (hT:Dp ts) (n:Nat) (hk:¬ AN (Ag ts n).text.data.toList=0):Sim (Bs ts en n) (Ep ts en (n,false)):=by
 unfold Bs Ep;rw [if_neg hk,Hz,BI,if_pos (by unfold isT;simp)];generalize AN (Ag ts n).text.data.toList=kd at hk ⊢;refine Sim.bind (g:=fun a:ByteArray × Sg=>if kd=7 then Gq ts en (Al ts en n) a.1 a.2 else if kd=2 then (fun b:ByteArray × Sg=>Ck ts en 2 (Al ts en n) a.1 b.1 false b.2) (AD ts a.2) else Ck ts en kd (Al ts en n) a.1 noS (decide (kd=4) || decide (kd=5) || (decide (kd=6) && decide (tl ts a.2 0=[123]))) a.2) (B6 ts hT (n+1)) (fun a n1 f=>?_) (fun a m=>?_)
 ·dsimp only
  by_cases h2:kd=2
  ·subst h2
   rw [if_pos rfl,if_neg (by omega),if_pos rfl];exact Sim.bind (g:=fun b:ByteArray × Sg=>Ck ts en 2 (Al ts en n) a b.1 false b.2) (B6 ts hT n1) (fun b n2 c=>E7 ts en hT _ _ _ _ _ _) (fun a m=>Jh ts en _ _ _ _ _ _)
  by_cases h45:kd=4\/kd=5
  ·rw [if_neg h2,if_pos h45,if_neg (by omega),if_neg h2]
   have e:(decide (kd=4) || decide (kd=5) || (decide (kd=6) && decide (tl ts (n1,false) 0=[123])))=true:=by rcases h45 with rfl | rfl <;> simp
   rw [e];exact E7 ts en hT _ _ _ _ _ _
  rw [if_neg h2,if_neg h45];by_cases h6:kd=6
  ·subst h6
   rw [if_pos rfl,if_neg (by omega),if_neg (by omega)];have e:(decide ((6:Int)=4) || decide ((6:Int)=5) || (decide ((6:Int)=6) && decide (tl ts (n1,false) 0=[123])))=isT ts n1 [123]:=by
    by_cases h:isT ts n1 [123]=true
    ·rw [h,(A6 ts n1 _).2 h];simp
    ·rw [Cr ts h,decide_eq_false (fun e=>h ((A6 ts n1 _).1 e))];simp
   rw [e];exact E7 ts en hT _ _ _ _ _ _
  rw [if_neg h6];by_cases h7:kd=7
  ·subst h7
   rw [if_pos rfl,if_pos rfl];exact NR ts en hT _ _ _
  rw [if_neg h7,if_neg h7,if_neg h2];have e:(decide (kd=4) || decide (kd=5) || (decide (kd=6) && decide (tl ts (n1,false) 0=[123])))=false:=by
   rw [decide_eq_false (fun e=>h45 (Or.inl e)),decide_eq_false (fun e=>h45 (Or.inr e)),decide_eq_false h6];rfl
  rw [e];exact E7 ts en hT _ _ _ _ _ _
 ·dsimp only
  split
  ·exact Rc ts en _ _ _
  split
  ·rw [G9];exact Jh ts en _ _ _ _ _ _
  ·exact Jh ts en _ _ _ _ _ _
def SG {α:Type} (ts:List Tok) (r:Res α) (s:α × Sg):Prop:=match r with
 | .inl (a,n)=>s=(a,(n,false))
 | .inr m=>s.2=(m,true)\/(s.2=(m,false)/\isT ts m [109,97,105,110]=false)
theorem Iq (hT:Dp ts):∀ (f g:Nat) (acc:List D) (n:Nat),ts.length - n < f->f<=g->SG ts (DX ts en f acc n) (CD ts en g acc (n,false))
 | 0,g,acc,n,hf,hg=>absurd hf (by omega)
 | f+1,0,acc,n,hf,hg=>absurd hg (by omega)
 | f+1,g+1,acc,n,hf,hg=>by
  unfold DX CD;rw [Hz];by_cases hm:isT ts n [109,97,105,110]=true
  ·have e:(Ag ts n).text.data.toList=[109,97,105,110]:=(A6 ts n _).2 hm
   rw [if_pos hm,e,if_neg (fun h=>h.2 (by decide))];rfl
  ·rw [if_neg hm]
   by_cases hk:AN (Ag ts n).text.data.toList=0
   ·rw [if_neg (fun h=>h.2 hk)]
    unfold Bs;rw [if_pos hk];exact Or.inr ⟨rfl,Cr ts hm⟩
   ·rw [if_pos ⟨rfl,hk⟩]
    have hs:=NS ts en hT n hk;have hl:=fun d n1=>DG (ts:=ts) (en:=en) (n:=n) (d:=d) (n1:=n1);have hlt:n < ts.length:=Cj (fun e=>hk (by rw [e];rfl));revert hs hl;generalize Bs ts en n=r;generalize Ep ts en (n,false)=p;intro hs hl;rcases r with ⟨s,n1⟩ | m
    ·have e:p=(s,(n1,false)):=hs
     subst e;have:=hl s n1 rfl;exact Iq hT f g (acc++[s]) n1 (by omega) (by omega)
    ·have e:p.2=(m,true):=hs
     have hf:∀ g acc m,CD ts en g acc (m,true)=(acc,(m,true)):=fun g acc m=>by
      cases g with
      | zero=>rfl
      | succ g=>unfold CD;rw [if_neg (by simp)]
     dsimp only;rw [e,hf];exact Or.inl rfl
def SF (ts:List Tok) (r:Res (List D × List D)) (s:(List D × List D) × Sg):Prop:=match r with
 | .inl (a,n)=>s=(a,(n,false))/\¬ n < ts.length
 | .inr m=>s.2=(m,true)\/(s.2=(m,false)/\m < ts.length)
theorem NP (hT:Dp ts):SF ts (DQ ts en) (Mj ts en):=by
 unfold DQ Mj;have c:=Iq ts en hT (ts.length+1) (ts.length+2) [] 0 (by omega) (by omega);have a:∀ m,(Bd ts (AH ts en (2*ts.length+3) [125] []) (m,true)).2=(m,true):=Mx ts (fun m=>by rw [De]);revert c;generalize DX ts en (ts.length+1) [] 0=r;generalize CD ts en (ts.length+2) [] (0,false)=p;intro c;rcases r with ⟨f,n⟩ | m
 ·have e:p=(f,(n,false)):=c
  subst e;rw [AK];dsimp only;rw [BI];unfold AG;by_cases hm:isT ts n [109,97,105,110]=true
  ·rw [if_pos hm,if_pos hm,AK]
   have b:=MK ts en hT (2*ts.length+3) (2*ts.length+3) (n+1) (by omega) (by omega);revert b;generalize Bw ts (AQ ts en (2*ts.length+3) []) (n+1)=r;generalize Bd ts (AH ts en (2*ts.length+3) [125] []) (n+1,false)=q;intro b;rcases r with ⟨l,n2⟩ | m
   ·have e:q=(l,(n2,false)):=b
    subst e;rw [AK];by_cases hlt:n2 < ts.length
    ·rw [if_pos hlt];exact Or.inr ⟨rfl,hlt⟩
    ·rw [if_neg hlt];exact ⟨rfl,hlt⟩
   ·have e:q.2=(m,true):=b
    exact Or.inl e
  ·rw [if_neg hm,if_neg hm]
   exact Or.inl (a n)
 ·dsimp only
  rcases c with e | ⟨e,hm⟩
  ·rw [e,B0]
   exact Or.inl (a m)
  ·rw [e,BI,if_neg (by rw [hm];simp)]
   exact Or.inl (a m)
end
def Sd (rb:Nat) (tv:Value) (ts:List Tok) (en:Nat) (s:Sg) (w:World):Prop:=
 w.heap[rb]? = some (Obj.cells #[tv,O zc (s.1:Int),O zc (en:Int),ze s.2] 58 (0,0))/\s.1<=ts.length/\ts.length<=6000/\∃ ao cap,tv=zd ao ts.length cap /\
  (ts≠[]->∃ b off,ao=some ⟨b,off,none⟩/\b≠rb/\∀ (j:Nat) (u:Value),(AF ts)[j]? = some u->w.cell? ⟨b,off+j,none⟩=some u)
section
variable {rb:Nat} {tv:Value} {ts:List Tok} {en:Nat} {s s':Sg} {w w' V V':World}
theorem Sd.keep (h:Sd rb tv ts en s w) (hg:w.grownBy w' (some rb)) (hb:w'.heap[rb]? = some (Obj.cells #[tv,O zc (s'.1:Int),O zc (en:Int),ze s'.2] 58 (0,0))) (hm:s'.1<=ts.length):Sd rb tv ts en s' w':=by
 obtain ⟨_,_,x,y,l,n,v⟩:=h;refine ⟨hb,hm,x,y,l,n,fun f=>?_⟩;obtain ⟨b,c,i,a,g⟩:=v f;exact ⟨b,c,i,a,fun j u r=>hg.cell (g j u r) (by simpa using a)⟩
theorem Sd.below (h:Sd rb tv ts en s w) (hb:Ov w w'):Sd rb tv ts en s w':=by
 obtain ⟨n,A,y,B,l,r,x⟩:=h;refine ⟨by rw [hb.block rb (Array.getElem?_eq_some_iff.1 n).1];exact n,A,y,B,l,r,fun c=>?_⟩;obtain ⟨b,a,i,g,f⟩:=x c;exact ⟨b,a,i,g,fun j u v=>ce1 hb (f j u v)⟩
theorem Sd.lt (h:Sd rb tv ts en s w):rb < w.heap.size:=(Array.getElem?_eq_some_iff.1 h.1).1
theorem Sd.cells (h:Sd rb tv ts en s w):w.cell? ⟨rb,0,none⟩=some tv/\w.cell? ⟨rb,1,none⟩=some (O zc (s.1:Int))/\w.cell? ⟨rb,2,none⟩=some (O zc (en:Int))/\w.cell? ⟨rb,3,none⟩=some (ze s.2)/\w.frozen? ⟨rb,1,none⟩=false/\w.frozen? ⟨rb,3,none⟩=false:=by
 have:=h.1;refine ⟨?_,?_,?_,?_,?_,?_⟩ <;> simp [World.cell?,World.frozen?,this]
theorem Sd.next (h:Sd rb tv ts en s w) (hn:s.1 < ts.length) :
  Sd rb tv ts en (s.1+1,s.2) (w.setCell ⟨rb,1,none⟩ (O zc ((s.1:Int)+1)))/\w.grownBy (w.setCell ⟨rb,1,none⟩ (O zc ((s.1:Int)+1))) (some rb):=by
 have a:w.grownBy (w.setCell ⟨rb,1,none⟩ (O zc ((s.1:Int)+1))) (some rb):=Ct;refine ⟨h.keep a ?_ hn,a⟩;have:=h.1;simp [World.setCell,Array.getElem?_modify,this]
theorem Sd.fail (h:Sd rb tv ts en s w):Sd rb tv ts en (s.1,true) (w.setCell ⟨rb,3,none⟩ (ze true))/\w.grownBy (w.setCell ⟨rb,3,none⟩ (ze true)) (some rb):=by
 have a:w.grownBy (w.setCell ⟨rb,3,none⟩ (ze true)) (some rb):=Ct;refine ⟨h.keep a ?_ h.2.1,a⟩;have:=h.1;simp [World.setCell,Array.getElem?_modify,this]
structure Rq (rb:Nat) (tv:Value) (ts:List Tok) (en:Nat) (w:World) (m:Nat) (s:Sg) (V:World):Prop where
 st0:∃ s0,Sd rb tv ts en s0 w
 st:Sd rb tv ts en s V
 gr:w.grownBy V (some rb)
 le:m<=s.1
theorem Rq.start (h:Sd rb tv ts en s w):Rq rb tv ts en w s.1 s w:=⟨⟨s,h⟩,h,BJ w _,Nat.le_refl _⟩
variable {m b j:Nat} {u:Value}
theorem Rq.rlt (h:Rq rb tv ts en w m s V):rb < w.heap.size:=by obtain ⟨b,a⟩:=h.st0;exact a.lt
theorem Rq.size (h:Rq rb tv ts en w m s V):w.heap.size<=V.heap.size:=h.gr.size
theorem Rq.call (h:Rq rb tv ts en w m s V) (hg:V.grownBy V' (some rb)) (hs:Sd rb tv ts en s' V') (hl:s.1<=s'.1):Rq rb tv ts en w m s' V':=⟨h.st0,hs,Ac h.gr hg,Nat.le_trans h.le hl⟩
theorem Rq.over (h:Rq rb tv ts en w m s V) (hb:Ov V V'):Rq rb tv ts en w m s V':=⟨h.st0,h.st.below hb,Ac h.gr (Ae hb),h.le⟩
theorem Rq.set (h:Rq rb tv ts en w m s V) (hb:w.heap.size<=b):Rq rb tv ts en w m s (V.setCell ⟨b,j,none⟩ u):=by
 obtain ⟨f,a⟩:=h.st0;have hr:=a.lt;have c:=Aj h.gr (p:=⟨b,j,none⟩) hb u;exact ⟨⟨f,a⟩,a.keep c (by rw [Below.heap_setCell _ _ _ _ (by show rb≠b;omega)];exact h.st.1) h.st.2.1,c,h.le⟩
theorem Rq.row {B T q k:Nat} {v:Value} {xs:List Value} (h:Rq rb tv ts en w m s V) (ho:V.ownsRow B T q v k xs) (hB:w.heap.size<=B) (hg:V.grownBy V' v.ownBlock):Rq rb tv ts en w m s V':=by
 obtain ⟨j,g⟩:=h.st0;have hr:=g.lt;have b:∀ i,i < w.heap.size->some i≠v.ownBlock:=fun i f e=>by have:=(AL ho e.symm).1;omega
 have a:=h.gr;have c:w.grownBy V' (some rb):=⟨hg.os.trans a.os,hg.tape.trans a.tape,hg.output.trans a.output,Nat.le_trans a.size hg.size,fun i f l=>(hg.block i (Nat.lt_of_lt_of_le f a.size) (b i f)).trans (a.block i f l)⟩;exact ⟨⟨j,g⟩,g.keep c (by rw [hg.block rb (Nat.lt_of_lt_of_le hr a.size) (b rb hr)];exact h.st.1) h.st.2.1,c,h.le⟩
theorem Rq.box (h:Rq rb tv ts en w m s V) (hg:V.grownBy V' (some b)) (hb:w.heap.size<=b):Rq rb tv ts en w m s V':=by
 obtain ⟨j,f⟩:=h.st0;have hr:=f.lt;have a:=h.gr;have c:w.grownBy V' (some rb):=⟨hg.os.trans a.os,hg.tape.trans a.tape,hg.output.trans a.output,Nat.le_trans a.size hg.size,fun i g l=>(hg.block i (Nat.lt_of_lt_of_le g a.size) (fun e=>by injection e with e;omega)).trans (a.block i g l)⟩;exact ⟨⟨j,f⟩,f.keep c (by rw [hg.block rb (Nat.lt_of_lt_of_le hr a.size) (fun e=>by injection e with e;omega)];exact h.st.1) h.st.2.1,c,h.le⟩
theorem II {x y z:World} {r b:Nat} (h:x.grownBy y (some r)) (hg:y.grownBy z (some b)) (hb:x.heap.size<=b):x.grownBy z (some r):=
 ⟨hg.os.trans h.os,hg.tape.trans h.tape,hg.output.trans h.output,Nat.le_trans h.size hg.size,fun i hi hn=>(hg.block i (Nat.lt_of_lt_of_le hi h.size) (fun e=>by injection e with e;omega)).trans (h.block i hi hn)⟩
def Qo (rb:Nat) (tv:Value) (ts:List Tok) (en:Nat) (w:World) (s s':Sg) (w':World):Prop:=w.grownBy w' (some rb)/\Sd rb tv ts en s' w'/\s.1<=s'.1
theorem Qo.rq (h:Rq rb tv ts en w m s V) (hq:Qo rb tv ts en V s s' V'):Rq rb tv ts en w m s' V':=h.call hq.1 hq.2.1 hq.2.2
theorem zqo {o:Obj} (h:Hx (Rq rb tv ts en w m s V)) (e:V'=V.alloc o):Hx (Rq rb tv ts en w m s V'):=by subst e;exact h.o.over (bA _ _)
theorem zsq (h:Hx (Rq rb tv ts en w m s V)) (e:b=V.heap.size):Hx (w.heap.size<=b):=by subst e;exact h.o.size
theorem zoq {B:Nat} {g:Option Nat} {P:World->Prop} {U:World} (h:Hx (Off B g V P)) (e:V.grownBy V' (some rb)) (d:Hx (Rq rb tv ts en w m s U)) (q:Hx (w.heap.size<=B)):Hx (Off B g V' P):=h.o.keep e (by have:=q.o;have:=d.o.rlt;omega)
theorem zrq (h:Hx (Rq rb tv ts en w m s V)) (q:Qo rb tv ts en V s s' V'):Hx (Rq rb tv ts en w m s' V'):=Qo.rq h.o q
theorem zdq {B:Nat} {g:Option Nat} {P:World->Prop} {U:World} {s1 s2 s3:Sg} (h:Hx (Off B g V P)) (e:Qo rb tv ts en V s1 s2 V') (d:Hx (Rq rb tv ts en w m s3 U)) (q:Hx (w.heap.size<=B)):Hx (Off B g V' P):=h.o.keep e.1 (by have:=q.o;have:=d.o.rlt;omega)
theorem zcq {cs:List Value} {U:World} {s1 s2 s3:Sg} (h:Hx (Bx b cs V)) (e:Qo rb tv ts en V s1 s2 V') (d:Hx (Rq rb tv ts en w m s3 U)) (q:Hx (w.heap.size<=b)):Hx (Bx b cs V'):=h.o.keep e.1 (by have:=q.o;have:=d.o.rlt;omega)
theorem OQ (s:Sg) (w:World) (h:Sd rb tv ts en s w):Ro 28 #[zh (some ⟨rb,0,none⟩)] w (O zc (Al ts en s.1)):=by
 obtain ⟨B,A,y,x,-,-⟩:=h.cells;obtain ⟨n,v⟩:=s;obtain ⟨_,r,u,C,l,rfl,f⟩:=h;dsimp only at *;by_cases hlt:n < ts.length
 ·obtain ⟨b,i,rfl,j,c⟩:=f (by rintro rfl;simp at hlt)
  obtain ⟨q0,q1,g⟩:=DT c hlt;have a:Al ts en n=ts[n].pos:=by simp [Al,hlt]
  rw [a];clear a c f q0 g;go_enter Tryz.func28,Tryz.ntmps28
  go_wp2
  go_quiet ((fail))
  go_wp2
  go_quiet ((fail))
  go_wp2
  go_ret;exact ⟨rfl,below_drewN (below_drewN (Below.refl _ w) _) _⟩
 ·have a:Al ts en n=en:=by simp [Al,hlt]
  rw [a];clear a f;go_enter Tryz.func28,Tryz.ntmps28
  go_wp2
  go_quiet ((fail))
  go_wp2
  go_ret;exact ⟨rfl,below_drewN (Below.refl _ w) _⟩
theorem Fo (k:Nat) (hk:k<=1) (s:Sg) (w:World) (h:Sd rb tv ts en s w):Ro 57 #[zh (some ⟨rb,0,none⟩),O zc (k:Int)] w (.string (tx ts s k)):=by
 obtain ⟨F,E,C,B,-,-⟩:=h.cells;obtain ⟨n,v⟩:=s;obtain ⟨_,y,A,G,x,rfl,f⟩:=h;dsimp only at *
 cases v with
 | true=>
  have a:tx ts (n,true) k=⟨#[]⟩:=rfl;rw [a];clear a f;go_enter Tryz.func57,Tryz.ntmps57
  go_wp2
  go_quiet ((fail))
  go_wp2
  go_ret;exact ⟨rfl,below_drewN (Below.refl _ w) _⟩
 | false=>
  by_cases hlt:n+k < ts.length
  ·obtain ⟨b,j,rfl,u,c⟩:=f (by rintro rfl;simp at hlt)
   obtain ⟨q0,q1,i⟩:=DT c hlt;have a:tx ts (n,false) k=ts[n+k].text:=by simp [tx,Ag,hlt]
   rw [a];generalize ts[n+k].text=tt at i ⊢;clear a c f q0 q1;generalize ts.length=nl at *;have l:(n:Int)+(k:Int) < (nl:Int):=by omega
   have r:decide ((nl:Int)<=(n:Int)+(k:Int))=false:=by simp;omega
   have g:decide (nl<=n+k)=false:=by simp;omega
   go_enter Tryz.func57,Tryz.ntmps57
   go_wp2
   go_quiet ((fail))
   go_wp2
   go_quiet ((fail))
   go_wp2
   go_ret;exact ⟨rfl,below_drewN (below_drewN (Below.refl _ w) _) _⟩
  ·have a:tx ts (n,false) k=⟨#[]⟩:=by simp [tx,Ag,hlt]
   rw [a];clear a f;generalize ts.length=nl at *;have l:¬ (n:Int)+(k:Int) < (nl:Int):=by omega
   have r:decide ((nl:Int)<=(n:Int)+(k:Int))=true:=by simp;omega
   have g:decide (nl<=n+k)=true:=by simp;omega
   go_enter Tryz.func57,Tryz.ntmps57
   go_wp2
   go_quiet ((fail))
   go_wp2
   go_ret;exact ⟨rfl,below_drewN (Below.refl _ w) _⟩
theorem My (a b:List UInt8):(a == b)=decide (a=b):=by by_cases h:a=b <;> simp [h]
theorem teq (t x:ByteArray):(t.toList == x.toList)=decide (t.data.toList=x.data.toList):=by
 rw [ByteArray.toList_eq,ByteArray.toList_eq];exact My _ _
theorem Ld (t:ByteArray) (l:List UInt8):(t.toList == l)=decide (t.data.toList=l):=by
 rw [ByteArray.toList_eq];exact My _ _
theorem DN {t:ByteArray} {s:Sg} {k:Nat} {l:List UInt8} (ht:t=tx ts s k) (h:tl ts s k=l):(t.toList == l)=true:=by
 rw [Ld,ht];exact decide_eq_true h
theorem Br {t:ByteArray} {s:Sg} {k:Nat} {l:List UInt8} (ht:t=tx ts s k) (h:¬ tl ts s k=l):(t.toList == l)=false:=by
 rw [Ld,ht];exact decide_eq_false h
theorem JB {s:Sg} {k:Nat} (h:tl ts s k≠[]):s.2=false/\s.1+k < ts.length:=by
 unfold tl tx at h;split at h
 ·exact absurd rfl h
 ·rename_i a
  exact ⟨by simpa using a,Cj h⟩
theorem QZ (x:ByteArray) (hx:x.data.toList≠[]) (s:Sg) (w:World) (h:Sd rb tv ts en s w):Calls Tryz.prog 26 #[zh (some ⟨rb,0,none⟩),.string x] w fun e w'=>e=zi (zj #[])/\Qo rb tv ts en w s (Ak ts x.data.toList s) w':=by
 obtain ⟨y,v,u,F,j,i⟩:=h.cells;obtain ⟨n,I⟩:=s;dsimp only at *
 cases I with
 | true=>
  have a:Ak ts x.data.toList (n,true)=(n,true):=rfl;rw [a];have A:=Aa h;clear a h hx j i;go_enter Tryz.func26,Tryz.ntmps26;go_wp2_with fail;refine bodyPost_ret (results_none rfl _ _ _) rfl ?_;exact ⟨rfl,BJ w _,A.o,Nat.le_refl _⟩
 | false=>
  obtain ⟨t,f⟩:=nm (tx ts (n,false) 0);have KT:Hx (Ro 57 #[zh (some ⟨rb,0,none⟩),O zc 0] w (.string t)):=by rw [f];exact Fo 0 (by omega) (n,false) w h
  have A:=Aa h;have H:n<=6000:=Nat.le_trans h.2.1 h.2.2.1;by_cases hq:t.data.toList=x.data.toList
  ·have a:Ak ts x.data.toList (n,false)=(n+1,false):=by unfold Ak tl;rw [if_neg (by simp),<-f,if_pos hq]
   have g:n < ts.length:=(JB (ts:=ts) (s:=(n,false)) (k:=0) (by unfold tl;rw [<-f,hq];exact hx)).2;rw [a];have C:=Aa g;have B:(t.toList == x.toList)=true:=by rw [teq];simpa using hq
   clear a h hx f hq g y v u j i;go_enter Tryz.func26,Tryz.ntmps26;go_wp2_with fail;refine mo KT.o fun G b=>?_;have c:=A.o.below b;obtain ⟨y,v,u,F,j,i⟩:=c.cells;have l:=Aa (c.next C.o);have E:=Aa (Ae (r:=some rb) b);clear b c KT;dsimp only at *;go_wp2_with fail;go_end0;exact ⟨rfl,Ac E.o l.o.2,l.o.1,Nat.le_succ _⟩
  ·have a:Ak ts x.data.toList (n,false)=(n,true):=by unfold Ak tl;rw [if_neg (by simp),<-f,if_neg hq]
   rw [a];have B:(t.toList == x.toList)=false:=by rw [teq];simpa using hq
   clear a h hx f hq y v u j i;go_enter Tryz.func26,Tryz.ntmps26;go_wp2_with fail;refine mo KT.o fun G b=>?_;have c:=A.o.below b;obtain ⟨y,v,u,F,j,i⟩:=c.cells;have l:=Aa c.fail;have E:=Aa (Ae (r:=some rb) b);clear b c KT;dsimp only at *;go_wp2_with fail;go_end0;exact ⟨rfl,Ac E.o l.o.2,l.o.1,Nat.le_refl _⟩
theorem ztq {t:ByteArray} (h:Hx (Rq rb tv ts en w m s V)) (e:t=tx ts s 0):Hx (Ro 57 #[zh (some ⟨rb,0,none⟩),O zc 0] V (.string t)):=by subst e;exact Fo 0 (by omega) s _ h.o.st
theorem zhq {p:Int} (h:Hx (Rq rb tv ts en w m s V)) (e:p=Al ts en s.1):Hx (Ro 28 #[zh (some ⟨rb,0,none⟩)] V (O zc p)):=by subst e;exact OQ s _ h.o.st
theorem qst (e:m=s.1) (h:Sd rb tv ts en s w):Hx (Rq rb tv ts en w m s w):=by subst e;exact Rq.start h
theorem zl1 (h:Hx (Rq rb tv ts en w m s V)) (e:Hx (m=s'.1+1)):s'.1+1<=s.1:=by have b:=h.o.le;have a:=e.o;omega
theorem zl0 (h:Hx (Rq rb tv ts en w m s V)) (e:Hx (m=s'.1+1)):s'.1<=s.1:=by have b:=h.o.le;have a:=e.o;omega
end
theorem QN (l:List UInt8):C6 l=true ↔ (tk l).1=2:=by
 cases l with
 | nil=>simp [C6,tk]
 | cons c m=>
  simp only [C6,tk];by_cases hL:isL c=true
  ·rw [if_pos hL]
   have:isD c=false:=by
    unfold isL at hL;unfold isD;simp at hL ⊢;omega
   simp [this]
  ·rw [if_neg hL]
   by_cases hD:isD c=true
   ·rw [if_pos hD];simp [hD]
   ·rw [if_neg hD]
    simp only [hD];split
    ·simp
    ·split <;> simp
theorem Gz {ts:List Tok} (hall:ts.all Ai=true):Dp ts:=by
 have b:∀ t:Tok,Ai t=true->nmS t.text.data.toList=AJ t/\C6 t.text.data.toList=decide (t.kind=2):=fun t c=>by
  obtain ⟨k,a,x⟩:=t;obtain ⟨j,i,g,f⟩:=(Dc k a x).1 c;constructor
  ·unfold nmS AJ CV
   have e:(⟨x.data.toList.toArray⟩:ByteArray)=x:=(An rfl).symm;dsimp only;rw [e];congr 1;by_cases hk:k=1
   ·subst hk
    rw [show Ai ⟨1,0,x⟩=true from (Dc 1 0 x).2 ⟨j,i,g,f⟩];rfl
   ·have:Ai ⟨1,0,x⟩=false:=by
     rw [Bool.eq_false_iff];intro h;obtain ⟨_,_,l,_⟩:=(Dc 1 0 x).1 h;exact hk (by omega)
    rw [this];simp [hk]
  ·dsimp only
   rw [Bool.eq_iff_iff,QN,decide_eq_true_eq];omega
 constructor <;> intro n
 ·by_cases h:n < ts.length
  ·exact (b _ (List.all_eq_true.1 hall _ (Db h))).1
  ·have e:Ag ts n=⟨0,0,⟨#[]⟩⟩:=by simp [Ag,h]
   rw [e];decide
 ·by_cases h:n < ts.length
  ·exact (b _ (List.all_eq_true.1 hall _ (Db h))).2
  ·have e:Ag ts n=⟨0,0,⟨#[]⟩⟩:=by simp [Ag,h]
   rw [e];decide
theorem MD {l:List UInt8} (h:(tk l).1=2) (hl:(tk l).2=l.length):∀ c∈l,isD c=true:=by
 cases l with
 | nil=>intro c a;cases a
 | cons c m=>
  simp only [tk] at h hl;by_cases hL:isL c=true
  ·rw [if_pos hL] at h;cases h
  ·rw [if_neg hL] at h hl
   by_cases hD:isD c=true
   ·rw [if_pos hD] at hl
    exact Fi hl
   ·rw [if_neg hD] at h
    split at h
    ·cases h
    ·split at h <;> cases h
theorem PX (l:List UInt8):∀ acc:Nat,acc<=l.foldl (fun n c=>10*n+(c.toNat - 48)) acc:=by
 induction l with
 | nil=>intro acc;exact Nat.le_refl _
 | cons c l ih=>intro acc;exact Nat.le_trans (show acc<=10*acc+(c.toNat - 48) by omega) (ih _)
theorem M0 (l:List UInt8) (j:Nat) (hj:j < l.length):Dm (l.take (j+1))=10*Dm (l.take j)+(l[j].toNat - 48):=by
 unfold Dm;rw [List.take_succ_eq_append_getElem hj,List.foldl_append];rfl
theorem Mo (l:List UInt8) (j:Nat):Dm (l.take j)<=Dm l:=by
 have h:=PX (l.drop j) (Dm (l.take j));have e:Dm l=(l.take j++l.drop j).foldl (fun n c=>10*n+(c.toNat - 48)) 0:=by rw [List.take_append_drop];rfl
 rw [e,List.foldl_append];exact h
theorem DI (t:ByteArray) (h0:0 < t.size):C6 t.data.toList=isD t[0]:=by
 have e:t[0]=t.data.toList[0]'h0:=rfl;obtain ⟨c,m,a⟩:∃ c m,t.data.toList=c::m:=by
  cases a:t.data.toList with
  | nil=>have b:t.data.toList.length=t.size:=rfl;rw [a] at b;simp at b;omega
  | cons c m=>exact ⟨c,m,rfl⟩
 rw [e];simp only [a,C6,List.getElem_cons_zero]
section
variable {rb:Nat} {tv:Value} {ts:List Tok} {en:Nat}
theorem L7 (hall:ts.all Ai=true) (s:Sg) (k:Nat):(tx ts s k).size<=6000:=by
 unfold tx;split
 ·exact Nat.zero_le _
 ·by_cases h:s.1+k < ts.length
  ·exact CX (List.all_eq_true.1 hall _ (Db h))
  ·have e:Ag ts (s.1+k)=⟨0,0,⟨#[]⟩⟩:=by simp [Ag,h]
   rw [e];exact Nat.zero_le _
theorem Cv (hall:ts.all Ai=true) (s:Sg) (w:World) (h:Sd rb tv ts en s w):Calls Tryz.prog 58 #[zh (some ⟨rb,0,none⟩)] w fun e w'=>e=zi (.string (AD ts s).1)/\Qo rb tv ts en w s (AD ts s).2 w':=by
 obtain ⟨t,g⟩:=nm (tx ts s 0);have KT:Hx (Ro 57 #[zh (some ⟨rb,0,none⟩),O zc 0] w (.string t)):=by rw [g];exact Fo 0 (by omega) s w h
 have c:t.size<=maxLen:=by rw [g];exact Nat.le_trans (L7 hall s 0) (by unfold maxLen;omega)
 obtain ⟨q,i⟩:=nm (nmS t.data.toList);have n:Hx (∀ X,Ro 77 #[.string t] X (ze q)):=fun X=>by rw [i];exact Bn t X c
 have x:=Aa h;have B:s.1<=6000:=Nat.le_trans h.2.1 h.2.2.1;have hr:AD ts s=if q=true then (t,(s.1+1,s.2)) else (noS,(s.1,true)):=by unfold AD tl CM;rw [<-g,<-i]
 cases q with
 | true=>
  have j:s.1 < ts.length:=(JB (ts:=ts) (s:=s) (k:=0) (by
   unfold tl;rw [<-g];intro e;rw [e,FM] at i;cases i)).2
  rw [hr,if_pos rfl];have u:=Aa j;clear hr h g i j c;go_enter Tryz.func58,Tryz.ntmps58;go_wp2_with fail;refine mo KT.o fun A a=>?_;have b:=Aa a;clear a KT;go_wp2_with fail;refine mo (n.o _) fun y a=>?_;have f:=x.o.below (Ab b.o a);obtain ⟨I,H,G,F,E,C⟩:=f.cells;have l:=Aa (f.next u.o);have v:=Aa (Ae (r:=some rb) (Ab b.o a));clear a f n;go_wp2_with fail;go_ret;exact ⟨rfl,Ac v.o l.o.2,l.o.1,Nat.le_succ _⟩
 | false=>
  rw [hr,if_neg (by simp)];clear hr h g i c;go_enter Tryz.func58,Tryz.ntmps58;go_wp2_with fail;refine mo KT.o fun A a=>?_;have b:=Aa a;clear a KT;go_wp2_with fail;refine mo (n.o _) fun y a=>?_;have f:=x.o.below (Ab b.o a);obtain ⟨I,H,G,F,E,C⟩:=f.cells;have l:=Aa f.fail;have v:=Aa (Ae (r:=some rb) (Ab b.o a));clear a f n;go_wp2_with fail;go_ret;exact ⟨rfl,Ac v.o l.o.2,l.o.1,Nat.le_refl _⟩
theorem Im (hall:ts.all Ai=true) (s:Sg) (h:C6 (tl ts s 0)=true):s.1 < ts.length/\(tx ts s 0).size<=18/\Dm (tl ts s 0)<=9999999/\∀ c∈tl ts s 0,isD c=true:=by
 obtain ⟨i,b⟩:=JB (ts:=ts) (s:=s) (k:=0) (by intro e;rw [e] at h;cases h);have e:tx ts s 0=(Ag ts s.1).text:=by unfold tx;rw [if_neg (by rw [i];simp)];rfl
 unfold tl at h ⊢;rw [e] at h ⊢;have a:s.1 < ts.length:=b;have g:Ai (Ag ts s.1)=true:=List.all_eq_true.1 hall _ (Db a);have f:(Ag ts s.1).kind=2:=by have:=(Gz hall).nu s.1;rw [h] at this;simpa using this.symm
 obtain ⟨r,-,-,n⟩:=En g f;obtain ⟨-,-,l,j⟩:=(Dc (Ag ts s.1).kind (Ag ts s.1).pos (Ag ts s.1).text).1 g;exact ⟨b,r,n,MD (by rw [f] at l;omega) j⟩
theorem G7 (hall:ts.all Ai=true) (s:Sg) (w:World) (h:Sd rb tv ts en s w):Calls Tryz.prog 103 #[zh (some ⟨rb,0,none⟩)] w fun e w'=>e=zi (O zc (EK ts s).1)/\Qo rb tv ts en w s (EK ts s).2 w':=by
 obtain ⟨t,F⟩:=nm (tx ts s 0);have KT:Hx (Ro 57 #[zh (some ⟨rb,0,none⟩),O zc 0] w (.string t)):=by rw [F];exact Fo 0 (by omega) s w h
 have U:=Aa h;have ai:s.1<=6000:=Nat.le_trans h.2.1 h.2.2.1;have b:tl ts s 0=t.data.toList:=by unfold tl;rw [F]
 by_cases hq:C6 (tl ts s 0)=true
 ·have hr:EK ts s=((Dm t.data.toList:Int),(s.1+1,s.2)):=by unfold EK;rw [if_pos hq,b]
  obtain ⟨H,R,g,l⟩:=Im hall s hq;rw [<-F] at R;rw [b] at g l hq;rw [hr];obtain ⟨nn,A⟩:=nm (Dm t.data.toList);rw [<-A];have V:=Aa A;clear A;have S:0 < t.size:=by
   have e:t.data.toList.length=t.size:=rfl
   cases hl:t.data.toList with
   | nil=>rw [hl] at hq;cases hq
   | cons c m=>rw [hl] at e;simp at e;omega
  have G:(t.toList == [])=false:=by
   rw [Ld];simp;intro e;rw [e] at hq;cases hq
  have n:isD t[0]=true:=by rw [<-DI t S];exact hq
  have J:Hx (∀ X,Calls Tryz.prog 101 #[O .u8 (t[0].toNat:Int)] X fun e w'=>e=zi (ze true)/\X=w'):=fun X=>by
   have:=Bi t[0] X;rw [n] at this;exact this.mono fun e w' h=>⟨h.1,h.2.symm⟩
  have W:=Aa H;have Y:=Aa l;have K:=Aa g;have ah:t.size<=9223372036854775807:=by omega
  clear hr h F b hq H l g n;go_enter Tryz.func103,Tryz.ntmps103;go_wp2_with fail;refine mo KT.o fun M x=>?_;have v:=Aa x;clear x KT;go_wp2_with fail;refine (J.o _).mono ?_;rintro e w2 ⟨rfl,rfl⟩;clear J;go_wp2_with fail;go_loopw [4,5] (fun a i wr=>∃ j:Nat,j<=t.size/\i=O zc (j:Int)/\a=O zc (Dm (t.data.toList.take j):Int)/\M=wr) (fun _ i _=>t.size - (intOf i).toNat)
  case atStart=>exact ⟨0,Nat.zero_le _,rfl,rfl,rfl⟩
  case round=>
   obtain ⟨j,hj,rfl,rfl,rfl⟩:=hrel;by_cases hjl:j < t.size
   ·have Q:(j:Int) < (t.size:Int):=by omega
    have C:t.data.toList[j]'hjl=t[j]:=rfl;have E:=Y.o t[j] (by rw [<-C];exact List.getElem_mem _);have f:=M0 t.data.toList j hjl;rw [C] at f;have P:=Mo t.data.toList (j+1);have N:=K.o;have aj:48<=t[j].toNat/\t[j].toNat<=57:=by unfold isD at E;simpa using E
    obtain ⟨n0,B⟩:=nm (Dm (t.data.toList.take j));rw [<-B] at f ⊢;have T:=Aa f;have ak:n0<=9999999:=by rw [B];exact Nat.le_trans (Mo _ _) K.o
    clear f P N B E C;go_wp2_with fail;refine ⟨⟨j+1,by omega,by go_num,?_,by trivial⟩,by simp [intOf];omega⟩;have f:=T.o;rw [f];go_num
   ·have Q:¬ (j:Int) < (t.size:Int):=by omega
    have I:t.data.toList.take j=t.data.toList:=List.take_of_length_le (by show t.size<=j;omega);rw [I,<-V.o];have u:=U.o.below v.o;obtain ⟨c0,c1,c2,c3,f1,Z⟩:=u.cells;have y:=Aa (u.next W.o);have L:=Aa (Ae (r:=some rb) v.o);clear u I;go_wp2_with fail;go_ret;exact ⟨rfl,Ac L.o y.o.2,y.o.1,Nat.le_succ _⟩
 ·have hr:EK ts s=(0,(s.1,true)):=by unfold EK;rw [if_neg hq];rfl
  rw [b] at hq;rw [hr];by_cases hemp:t.data.toList=[]
  ·have G:(t.toList == [])=true:=by rw [Ld];simpa using hemp
   clear hr h F b hq hemp;go_enter Tryz.func103,Tryz.ntmps103;go_wp2_with fail;refine mo KT.o fun M x=>?_;have u:=U.o.below x;obtain ⟨c0,c1,c2,c3,f1,Z⟩:=u.cells;have y:=Aa u.fail;have L:=Aa (Ae (r:=some rb) x);clear x u KT;go_wp2_with fail;go_ret;exact ⟨rfl,Ac L.o y.o.2,y.o.1,Nat.le_refl _⟩
  ·have G:(t.toList == [])=false:=by rw [Ld];simpa using hemp
   have S:0 < t.size:=by
    have e:t.data.toList.length=t.size:=rfl;have:=List.length_pos_iff.2 hemp;omega
   have n:isD t[0]=false:=by rw [<-DI t S];simpa using hq
   have J:Hx (∀ X,Calls Tryz.prog 101 #[O .u8 (t[0].toNat:Int)] X fun e w'=>e=zi (ze false)/\X=w'):=fun X=>by
    have:=Bi t[0] X;rw [n] at this;exact this.mono fun e w' h=>⟨h.1,h.2.symm⟩
   clear hr h F b hq hemp n;go_enter Tryz.func103,Tryz.ntmps103;go_wp2_with fail;refine mo KT.o fun M x=>?_;have v:=Aa x;clear x KT;go_wp2_with fail;refine (J.o _).mono ?_;rintro e w2 ⟨rfl,rfl⟩;have u:=U.o.below v.o;obtain ⟨c0,c1,c2,c3,f1,Z⟩:=u.cells;have y:=Aa u.fail;have L:=Aa (Ae (r:=some rb) v.o);clear u J;go_wp2_with fail;go_ret;exact ⟨rfl,Ac L.o y.o.2,y.o.1,Nat.le_refl _⟩
end
end Go.Proofs.YtipngnjffjajpaaGreatDoor.Tx
