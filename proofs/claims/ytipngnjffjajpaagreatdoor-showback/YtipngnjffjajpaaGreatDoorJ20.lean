/- What is shown, read: a command. -/
import Derived.Test.YtipngnjffjajpaaGreatDoorJ19
import Derived.Test.YtipngnjffjajpaaGreatDoorJ18
set_option linter.unusedVariables false
set_option maxHeartbeats 8000000
set_option maxRecDepth 100000
namespace Go.Proofs.YtipngnjffjajpaaGreatDoor.Tx
open Go.RowKit
open Go.Value renaming int -> I, slice -> zc, bool -> zd, pointer -> zf, agg -> zg, tuple -> zi
open Go.IntKind renaming i64 -> O
open Go.Obj renaming cells -> ze
open Go.Ending renaming returned -> zh
def gdC (ke:Nat):Nat->D->Prop
 | 0,_=>False
 | k+1,s=>B7 ke s=false/\(∀ a∈gL 6 s,gdC ke k a)/\∀ a∈gL 7 s,gdC ke k a
theorem EJ (ke kc:Nat) (l:List D) (deep:Int):slK ke kc l deep (-1)=-1:=by
 have h:=Ej ke kc l deep (-1) (by omega) (by omega);have b:=C4 ke kc l deep;rw [h,if_neg (by omega)]
theorem Ek (ke kc:Nat) (l:List D) (deep left:Int) (h1:-1<=left) (h2:left<=50):-1<=slK ke kc l deep left/\slK ke kc l deep left<=left:=by
 have h:=Ej ke kc l deep left h1 h2;have b:=C4 ke kc l deep;rw [h];split <;> omega
theorem Ge {ke:Nat}:∀ {kc:Nat} {l:List D} {deep left:Int},-1<=left->left<=50->(∀ s∈l,sfK ke kc s=true)->0<=slK ke kc l deep left->∀ s∈l,deep<=6/\gdC ke (7 - deep).toNat s
 | 0,l,deep,left,_,_,h,_,s,hs=>by have:=h s hs;cases this
 | k+1,l,deep,left,hl1,hl2,h,h0,s,hs=>by
  obtain ⟨F,hF⟩:∃ F,F=slF ke (fun l left=>slK ke k l (deep+1) left) deep:=⟨_,rfl⟩;have h0':0<=(l.foldl F (left,false)).1:=by rw [hF];exact h0
  have b:∀ (m:List D) (x:Int),(m.foldl F (x,true)).1=x:=by
   intro m
   induction m with
   | nil=>intro x;rfl
   | cons a m ih=>intro x;rw [List.foldl_cons,show F (x,true) a=(x,true) by rw [hF];simp [slF]];exact ih x
  have g:∀ (m:List D) (x:Int),(∀ s∈m,sfK ke (k+1) s=true)->-1<=x->x<=50->0<=(m.foldl F (x,false)).1->0<=x/\∀ s∈m,deep<=6/\gdC ke (7 - deep).toNat s:=by
   intro m
   induction m with
   | nil=>intro x _ G E C;exact ⟨C,fun s hs=>by cases hs⟩
   | cons a m ih=>
    intro x u A y f;rw [List.foldl_cons] at f;by_cases hb:x - 1 < 0\/6 < deep\/B7 ke a=true
    ·have e:F (x,false) a=(-1,true):=by rw [hF];unfold slF;rw [if_neg (by simp),if_pos hb]
     rw [e,b] at f;omega
    ·have e:F (x,false) a=(slK ke k (gL 7 a) (deep+1) (slK ke k (gL 6 a) (deep+1) (x - 1)),false):=by rw [hF];unfold slF;rw [if_neg (by simp),if_neg hb]
     rw [e] at f;simp only [not_or] at hb;have I:=Ek ke k (gL 6 a) (deep+1) (x - 1) (by omega) (by omega);have H:=Ek ke k (gL 7 a) (deep+1) (slK ke k (gL 6 a) (deep+1) (x - 1)) (by omega) (by omega);obtain ⟨r,v⟩:=ih _ (fun s hs=>u s (List.mem_cons_of_mem _ hs)) (by omega) (by omega) f;have B:0<=slK ke k (gL 6 a) (deep+1) (x - 1):=by
      rcases Int.lt_or_le (slK ke k (gL 6 a) (deep+1) (x - 1)) 0 with hn | hn
      ·rw [show slK ke k (gL 6 a) (deep+1) (x - 1)=-1 by omega,EJ] at r;omega
      ·exact hn
     refine ⟨by omega,fun s hs=>?_⟩;rcases List.mem_cons.1 hs with rfl | hs
     ·obtain ⟨-,-,-,-,-,n,j⟩:=Cb (u s (by simp))
      simp only [lfS,Bool.and_eq_true,List.all_eq_true] at n j;refine ⟨by omega,?_⟩;rw [show (7 - deep).toNat=(7 - (deep+1)).toNat+1 by omega];exact ⟨by simpa using hb.2.2,fun c i=>(Ge (by omega) (by omega) n.2 B c i).2,fun c i=>(Ge (by omega) (by omega) j.2 r c i).2⟩
     ·exact v s hs
  exact (g l left h hl1 hl2 h0').2 s hs
theorem IC {d:D} (h:Dd d=true):EA d noE:=by
 simp only [Dd,Bool.and_eq_true,decide_eq_true_eq,List.isEmpty_iff] at h;obtain ⟨⟨⟨f,c⟩,b⟩,a⟩:=h;exact EA.of f c b (by rw [a];trivial)
theorem CA.of {s:D} {kd a:Int} {x y:ByteArray} {e:D} {l th el:List D} (h0:gI 0 s=kd) (h2:gZ 2 s=x.data.toList) (h3:gZ 3 s=y.data.toList) (he:EA (gD 4 s) e) (hl:L2 EA (gL 5 s) l) (ht:L2 CA (gL 6 s) th) (hE:L2 CA (gL 7 s) el):CA s (stD kd a x y e l th el):=fun ke k=>by
 cases k with
 | zero=>rfl
 | succ k=>
  have h1:=L2.all2 (f:=seK false ke) (fun a b h=>h ke) hl;have h4:=L2.all2 (f:=ssK false ke k) (fun a b h=>h ke k) ht;have h5:=L2.all2 (f:=ssK false ke k) (fun a b h=>h ke k) hE;have h6:=he ke;simp [ssK,gSs,h0,h1,h2,h3,h4,h5,h6]
theorem A8 {l:List D} {f:D->Bool} (h:lfS l false f=true):l=[]:=by
 simp only [lfS,Bool.and_eq_true,Bool.false_or,List.isEmpty_iff] at h;exact h.1
theorem Cs {l:List D} {q:Bool} {f:D->Bool} (h:lfS l q f=true):∀ a∈l,f a=true:=by
 simp only [lfS,Bool.and_eq_true,List.all_eq_true] at h;exact h.2
theorem CR {x:List UInt8} (h:nfS x false=true):x=noS.data.toList:=by simpa [nfS,noS] using h
theorem Dz {x:List UInt8} (h:nfS x true=true):nmS x=true:=h
theorem JR {k:Nat} {d:D} (h:efK k d=true):∃ q tl,exK k d=q::tl/\(q.2 == [41])=false:=by
 cases k with
 | zero=>cases h
 | succ k=>
  obtain ⟨n,l,j,i,c,g,f⟩:=CE h;unfold exK;by_cases k1:gI 0 d=1
  ·rw [if_pos k1]
   unfold nuK;split
   ·exact ⟨_,_,rfl,rfl⟩
   ·refine ⟨_,_,rfl,?_⟩
    have b:=GW (gI 2 d).toNat
    cases e:Lib.decDigits (gI 2 d).toNat == [41] with
    | false=>rfl
    | true=>
     rw [beq_iff_eq] at e;have:=b 41 (by rw [e];simp);cases this
  rw [if_neg k1];by_cases k2:gI 0 d=2
  ·rw [if_pos k2]
   have a:nmS (gZ 3 d)=true:=by simpa [nfS,k2] using c
   exact ⟨_,_,rfl,F4 a (by decide)⟩
  ·rw [if_neg k2]
   exact ⟨_,_,rfl,rfl⟩
section
variable {ts:List Tok} (en:Nat)
theorem Pm {n:Nat} {y:List UInt8} {rs:List KT} (hy:nmS y=true) (hat:At ts n (w_ y::rs)):pX ts en n=.inl (eD 2 (Av ts en n) 0 (Ag ts n).text [],n+1):=by
 unfold pX pE;rw [if_neg (by rw [hat.cons.1];decide),if_neg (by rw [hat.no (F4 hy (by decide))];simp),if_pos (hat.isn hy)]
theorem MH {ke n:Nat} {l:List D} {rs:List KT} (h:∀ a∈l,efK ke a=true) (hl:∀ a∈l,Bn ke a=false) (hat:At ts n (Bh [sg 44] (l.map (exK ke))++(sg 41::rs))) :
  CC (BW ts [44] (pX ts en) (ts.length+1) (!isT ts n [41]) [] n) (L2 EA l) ts (sg 41::rs):=by
 cases l with
 | nil=>
  have e:isT ts n [41]=true:=At.isw (k:=3) (x:=[41]) hat (by decide);rw [e];unfold BW;rw [if_neg (by simp)];exact .inl trivial hat
 | cons a l=>
  obtain ⟨q,tl,i,A⟩:=JR (h a (by simp));obtain ⟨y,B⟩:∃ y,Bh [sg 44] ((a::l).map (exK ke))=q::y:=by
   cases l with
   | nil=>exact ⟨tl,by simp [Bh,i]⟩
   | cons b l=>exact ⟨_,by simp only [List.map_cons,Bh,i,List.cons_append];rfl⟩
  have e:isT ts n [41]=false:=by
   rw [B] at hat;exact At.no (k:=q.1) (x:=q.2) hat A
  rw [e];have f:(a::l).length<=ts.length+1:=by
   have:=hat.few;have F:∀ (m:List D),(∀ c∈m,efK ke c=true)->m.length<=(Bh [sg 44] (m.map (exK ke))).length:=by
    intro m
    induction m with
    | nil=>intro _;exact Nat.le_refl _
    | cons c m ih=>
     intro j;obtain ⟨q,tl,i,-⟩:=JR (j c (by simp))
     cases m with
     | nil=>simp [Bh,i]
     | cons b m=>
      have:=ih fun c u=>j c (List.mem_cons_of_mem _ u);simp only [List.map_cons,Bh,List.length_append,List.length_cons] at this ⊢;omega
   have E:=F _ h;rw [List.length_append] at this;omega
  exact ER (ts:=ts) (P:=fun r b=>EA b r) (C:=fun b=>efK ke b=true/\Bn ke b=false) (c:=44) (one:=pX ts en) (g:=exK ke) (rs:=sg 41::rs)
   (fun m j=>j.no (by decide)) (fun b m y u _ v=>Ev en u.1 u.2 v) (fun r m=>L2 EA m r) (fun H I a b G E=>L2.snoc G E) (a::l) (ts.length+1) [] [] n (fun b v=>⟨h b v,hl b v⟩) (by simp) f trivial hat
theorem DR {s d:D} {n:Nat} {rs:List KT} (hs:CA d s) (hat:At ts n (sg 59::rs)):CC (Iy ts s n) (CA d) ts rs:=by
 unfold Iy;exact (Bd hat).bind fun _ m _ h=>.inl hs h
theorem C6 {x l:List UInt8} (hx:nmS x=true) (hl:EZ.contains l=true):(x == l)=false:=F4 hx (by rw [nmS,hl];simp)
theorem Pl {ke k n:Nat} {s:D} {rs:List KT} {blk:Nat->Res (List D)} (h:sfK ke (k+1) s=true) (hm:B7 ke s=false)
  (hb:∀ (l:List D) (m:Nat) (js:List KT),l=gL 6 s\/l=gL 7 s->At ts m (sg 123::(B3 ke k l++(sg 125::js)))->CC (blk m) (L2 CA l) ts js)
  (hrs:gI 0 s=7->∀ m,At ts m rs->isT ts m [101,108,115,101]=false)
  (hat:At ts n (cmK ke (k+1) s++rs)):CC (BI ts en blk n) (CA s) ts rs:=by
 obtain ⟨h1,F,E,I,H,M,J⟩:=Cb h;simp only [B7,Bool.or_eq_false_iff,decide_eq_false_iff_not] at hm;obtain ⟨⟨-,C⟩,L⟩:=hm;replace L:∀ a∈gL 5 s,Bn ke a=false:=fun a T=>by
  have:=List.any_eq_false.1 L a T;simpa using this
 have no:∀ {k:Nat} {x l:List UInt8} {js:List KT},At ts n ((k,x)::js)->(x == l)=false->¬ isT ts n l=true:=fun T B=>by rw [T.no B];simp
 unfold cmK at hat;dsimp only at hat;unfold BI;rcases Dj h1 with e | e | e | e | e | e | e | e;all_goals rw [e] at F E I H M J hat
 ·have u:=Dz F
  have j:=A8 H;have r:=A8 M;have f:=A8 J;have b:At ts n (w_ (gZ 2 s)::sg 61::(exK ke (gD 4 s)++(sg 59::rs))):=by simpa using hat
  rw [if_neg (no b (C6 u rfl)),if_neg (no b (C6 u rfl)),if_neg (no b (C6 u rfl)),if_neg (no b (C6 u rfl)),if_neg (no b (C6 u rfl)),if_neg (no b (C6 u rfl))];unfold Db;refine CC.bind (P:=CA s) (rs:=sg 59::rs) ?_ fun c m A hm=>DR A hm;refine (BC u b).bind fun x K B i=>(Bd i).bind fun _ G _ g=>(Ev en I C g).bind fun c m3 A v=>?_;rw [if_neg (fun Z=>by have:=Z.2;rw [v.no (by decide)] at this;cases this)];exact .inl (CA.of e B.symm (CR E) A (by rw [j];trivial) (by rw [r];trivial) (by rw [f];trivial)) v
 ·have u:=Dz F
  have O:=Dz E;have S:=Cs H;have r:=A8 M;have f:=A8 J;have b:At ts n (w_ (gZ 2 s)::sg 61::w_ (gZ 3 s)::sg 40::(Bh [sg 44] ((gL 5 s).map (exK ke))++(sg 41::sg 59::rs))):=by simpa using hat
  rw [if_neg (no b (C6 u rfl)),if_neg (no b (C6 u rfl)),if_neg (no b (C6 u rfl)),if_neg (no b (C6 u rfl)),if_neg (no b (C6 u rfl)),if_neg (no b (C6 u rfl))];unfold Db;refine CC.bind (P:=CA s) (rs:=sg 59::rs) ?_ fun c m A hm=>DR A hm;refine (BC u b).bind fun x K B i=>(Bd i).bind fun _ G _ g=>?_;rw [Pm en O g,Al];have v:=g.next;rw [if_pos ⟨rfl,v.isw (by decide)⟩];refine (MH en S L v.next).bind fun l W Y N=>(Bd N).bind fun _ m5 _ U=>?_;refine .inl (CA.of e B.symm ?_ (IC I) Y (by rw [r];trivial) (by rw [f];trivial)) U;rw [g.cons.2.1];rfl
 ·have u:=Dz F
  have O:=Dz E;have j:=A8 H;have r:=A8 M;have f:=A8 J;have b:At ts n (w_ [103,101,116]::w_ (gZ 2 s)::w_ (gZ 3 s)::sg 59::rs):=by simpa using hat
  rw [if_neg (no b rfl),if_neg (no b rfl),if_pos (b.isw rfl)];refine (BC u b.next).bind fun x K B i=>(BC O i).bind fun y G X g=>DR ?_ g;exact CA.of e B.symm X.symm (IC I) (by rw [j];trivial) (by rw [r];trivial) (by rw [f];trivial)
 ·have O:=Dz E
  have j:=A8 H;have r:=A8 M;have f:=A8 J;have b:At ts n (w_ [112,117,116]::w_ (gZ 3 s)::(exK ke (gD 4 s)++(sg 59::rs))):=by simpa using hat
  rw [if_neg (no b rfl),if_neg (no b rfl),if_neg (no b rfl),if_pos (b.isw rfl)];refine (BC O b.next).bind fun x K B i=>(Ev en I C i).bind fun c G A g=>DR ?_ g;exact CA.of e (CR F) B.symm A (by rw [j];trivial) (by rw [r];trivial) (by rw [f];trivial)
 ·have u:=Dz F
  have j:=A8 H;have r:=A8 M;have f:=A8 J;have b:At ts n (w_ [114,101,118,101,97,108]::w_ (gZ 2 s)::(exK ke (gD 4 s)++(sg 59::rs))):=by simpa using hat
  rw [if_neg (no b rfl),if_neg (no b rfl),if_neg (no b rfl),if_neg (no b rfl),if_pos (b.isw rfl)];refine (BC u b.next).bind fun x K B i=>(Ev en I C i).bind fun c G A g=>DR ?_ g;exact CA.of e B.symm (CR E) A (by rw [j];trivial) (by rw [r];trivial) (by rw [f];trivial)
 ·have u:=Dz F
  have j:=A8 H;have r:=A8 M;have f:=A8 J;have b:At ts n (w_ [116,114,117,115,116]::w_ (gZ 2 s)::(exK ke (gD 4 s)++(sg 59::rs))):=by simpa using hat
  rw [if_neg (no b rfl),if_neg (no b rfl),if_neg (no b rfl),if_neg (no b rfl),if_neg (no b rfl),if_pos (b.isw rfl)];refine (BC u b.next).bind fun x K B i=>(Ev en I C i).bind fun c G A g=>DR ?_ g;exact CA.of e B.symm (CR E) A (by rw [j];trivial) (by rw [r];trivial) (by rw [f];trivial)
 ·have j:=A8 H
  have b:At ts n (w_ [105,102]::(exK ke (gD 4 s)++(sg 123::(B3 ke k (gL 6 s)++(sg 125::((if gL 7 s=[] then [] else [w_ [101,108,115,101],sg 123]++B3 ke k (gL 7 s)++[sg 125])++rs)))))):=by
   by_cases f:gL 7 s=[]
   ·rw [if_pos f] at hat ⊢
    simpa [B3] using hat
   ·rw [if_neg f] at hat ⊢
    simpa [B3] using hat
  rw [if_pos (b.isw rfl)];refine (Ev en I C b.next).bind fun c K A i=>(hb _ _ _ (Or.inl rfl) i).bind fun V G Q g=>?_;by_cases f:gL 7 s=[]
  ·rw [if_pos f] at g
   rw [if_neg (by rw [hrs e G g];simp)];exact .inl (CA.of e (CR F) (CR E) A (by rw [j];trivial) Q (by rw [f];trivial)) g
  ·rw [if_neg f] at g
   have v:At ts G (w_ [101,108,115,101]::sg 123::(B3 ke k (gL 7 s)++(sg 125::rs))):=by simpa using g
   rw [if_pos (v.isw rfl)];refine (hb _ _ _ (Or.inr rfl) v.next).bind fun el W R N=>?_;exact .inl (CA.of e (CR F) (CR E) A (by rw [j];trivial) Q R) N
 ·have j:=A8 H
  have f:=A8 J;have b:At ts n (w_ [119,104,105,108,101]::(exK ke (gD 4 s)++(sg 123::(B3 ke k (gL 6 s)++(sg 125::rs))))):=by
   rw [if_pos f] at hat;simpa [B3] using hat
  rw [if_neg (no b rfl),if_pos (b.isw rfl)];refine (Ev en I C b.next).bind fun c K A i=>(hb _ _ _ (Or.inl rfl) i).bind fun V G Q g=>?_;exact .inl (CA.of e (CR F) (CR E) A (by rw [j];trivial) Q (by rw [f];trivial)) g
end
theorem GX {ke k:Nat} {s:D} (h:sfK ke (k+1) s=true):∃ q tl,cmK ke (k+1) s=q::tl/\(q.2 == [125])=false/\(q.2 == [114,101,116,117,114,110])=false/\(q.2 == [101,108,115,101])=false:=by
 obtain ⟨b,a,j,i,g,f,c⟩:=Cb h;unfold cmK;dsimp only;rcases Dj b with e | e | e | e | e | e | e | e;all_goals rw [e] at a ⊢
 ·exact ⟨w_ (gZ 2 s),_,rfl,F4 (Dz a) (by decide),C6 (Dz a) rfl,C6 (Dz a) rfl⟩
 ·exact ⟨w_ (gZ 2 s),_,rfl,F4 (Dz a) (by decide),C6 (Dz a) rfl,C6 (Dz a) rfl⟩
 all_goals exact ⟨_,_,rfl,rfl,rfl,rfl⟩
theorem PE {ke k:Nat} {s:D} (h:sfK ke (k+1) s=true):1<=(cmK ke (k+1) s).length/\∀ l,l=gL 6 s\/l=gL 7 s->l≠[]->(B3 ke k l).length+1<=(cmK ke (k+1) s).length:=by
 obtain ⟨q,tl,g,-⟩:=GX h;refine ⟨by rw [g];simp,?_⟩;obtain ⟨i,x,v,u,r,f,c⟩:=Cb h;intro l b a;rcases Dj i with e | e | e | e | e | e | e | e;all_goals rw [e] at f c
 ·rcases b with rfl | rfl
  ·exact absurd (A8 f) a
  ·exact absurd (A8 c) a
 ·rcases b with rfl | rfl
  ·exact absurd (A8 f) a
  ·exact absurd (A8 c) a
 ·rcases b with rfl | rfl
  ·exact absurd (A8 f) a
  ·exact absurd (A8 c) a
 ·rcases b with rfl | rfl
  ·exact absurd (A8 f) a
  ·exact absurd (A8 c) a
 ·rcases b with rfl | rfl
  ·exact absurd (A8 f) a
  ·exact absurd (A8 c) a
 ·rcases b with rfl | rfl
  ·exact absurd (A8 f) a
  ·exact absurd (A8 c) a
 ·have n:cmK ke (k+1) s=[w_ [105,102]]++exK ke (gD 4 s)++[sg 123]++B3 ke k (gL 6 s)++(if gL 7 s=[] then [] else [sg 125,w_ [101,108,115,101],sg 123]++B3 ke k (gL 7 s))++[sg 125]:=by
   simp [cmK,e,B3]
  rw [n];rcases b with rfl | rfl
  ·simp only [List.length_append,List.length_cons,List.length_nil];omega
  ·rw [if_neg a];simp only [List.length_append,List.length_cons,List.length_nil];omega
 ·have j:cmK ke (k+1) s=[w_ [119,104,105,108,101]]++exK ke (gD 4 s)++[sg 123]++B3 ke k (gL 6 s)++(if gL 7 s=[] then [] else [sg 125,w_ [101,108,115,101],sg 123]++B3 ke k (gL 7 s))++[sg 125]:=by
   simp [cmK,e,B3]
  rw [j];rcases b with rfl | rfl
  ·simp only [List.length_append,List.length_cons,List.length_nil];omega
  ·exact absurd (A8 c) a
section
variable {ts:List Tok} (en:Nat)
theorem GT {ke k m:Nat} {l:List D} {js:List KT} {ss:Nat->Res (List D)} (h:∀ n,At ts n (B3 ke k l++(sg 125::js))->CC (ss n) (L2 CA l) ts (sg 125::js)) (hat:At ts m (sg 123::(B3 ke k l++(sg 125::js)))):CC (Be ts ss m) (L2 CA l) ts js:=by
 unfold Be;exact (Bd hat).bind fun _ f _ c=>(h f c).bind fun r i hr b=>(Bd b).bind fun _ g _ a=>.inl hr a
theorem Gk {ke:Nat}:∀ (k:Nat) (l:List D) (f n:Nat) (acc accd:List D) (rs:List KT) (g:Nat),(∀ s∈l,sfK ke k s=true)->(∀ s∈l,gdC ke g s)->2*(B3 ke k l).length+1<=f->L2 CA accd acc ->
  (∀ m,At ts m rs->isT ts m [125]=true\/isT ts m [114,101,116,117,114,110]=true)->(∀ m,At ts m rs->isT ts m [101,108,115,101]=false)->At ts n (B3 ke k l++rs)->CC (AL ts en f acc n) (L2 CA (accd++l)) ts rs
 | k,[],f,n,acc,accd,rs,g,_,_,hf,hacc,hend,_,hat=>by
  have e:isT ts n [125]=true\/isT ts n [114,101,116,117,114,110]=true:=hend n hat;rw [List.append_nil]
  match f,hf with
  | 1,_=>unfold AL;rw [if_pos e];exact .inl hacc hat
  | f+2,_=>unfold AL;rw [if_pos e];exact .inl hacc hat
 | 0,s::l,f,n,acc,accd,rs,g,hs,_,hf,hacc,hend,_,hat=>by have:=hs s (by simp);cases this
 | k+1,s::l,f,n,acc,accd,rs,0,hs,hg,hf,hacc,hend,_,hat=>(hg s (by simp)).elim
 | k+1,s::l,f,n,acc,accd,rs,g+1,hs,hg,hf,hacc,hend,hel,hat=>by
  have hs0:=hs s (by simp);have hg0:=hg s (by simp);obtain ⟨l1,l2⟩:=PE hs0;have hlen:(B3 ke (k+1) (s::l)).length=(cmK ke (k+1) s).length+(B3 ke (k+1) l).length:=by simp [B3]
  rw [hlen] at hf;obtain ⟨v,rfl⟩:∃ v,f=v + 2:=⟨f - 2,by omega⟩;obtain ⟨-,-,-,-,-,K,J⟩:=Cb hs0;have c:At ts n (cmK ke (k+1) s++(B3 ke (k+1) l++rs)):=by
   have e:B3 ke (k+1) (s::l)++rs=cmK ke (k+1) s++(B3 ke (k+1) l++rs):=by simp [B3]
   rw [<-e];exact hat
  obtain ⟨q,tl,N,q1,I,O⟩:=GX hs0;have i:At ts n ((q.1,q.2)::(tl++(B3 ke (k+1) l++rs))):=by rw [N] at c;exact c
  have A:¬ (isT ts n [125]=true\/isT ts n [114,101,116,117,114,110]=true):=by
   rw [i.no q1,i.no I];simp
  have u:∀ m,At ts m (B3 ke (k+1) l++rs)->isT ts m [101,108,115,101]=false:=fun m a=>by
   cases l with
   | nil=>exact hel m a
   | cons b l=>
    obtain ⟨r,F,hr,-,-,H⟩:=GX (hs b (by simp));have C:At ts m ((r.1,r.2)::(F++(B3 ke (k+1) l++rs))):=by
     have e:B3 ke (k+1) (b::l)++rs=r::(F++(B3 ke (k+1) l++rs)):=by simp [B3,hr]
     rw [e] at a;exact a
    exact C.no H
  unfold AL;rw [if_neg A];refine (Pl en (rs:=B3 ke (k+1) l++rs) hs0 hg0.1 (fun x m M j a=>?_) (fun _=>u) c).bind fun G m y a=>?_
  ·refine GT (fun L B=>?_) a
   have:=Gk k x v L [] [] (sg 125::M) g ?_ ?_ ?_ trivial (fun m a=>Or.inl (a.isw rfl)) (fun m a=>a.no rfl) B
   ·exact this
   ·rcases j with rfl | rfl
    ·exact Cs K
    ·exact Cs J
   ·rcases j with rfl | rfl
    ·exact hg0.2.1
    ·exact hg0.2.2
   ·by_cases h0:x=[]
    ·subst h0;simp [B3];omega
    ·have:=l2 x j h0
     omega
  ·have:=Gk (k+1) l (v + 1) m (acc++[G]) (accd++[s]) rs (g+1) (fun b E=>hs b (List.mem_cons_of_mem _ E)) (fun b E=>hg b (List.mem_cons_of_mem _ E)) (by omega) (hacc.snoc y) hend hel a
   rwa [List.append_assoc] at this
theorem Le {n:Nat} {l:List D} {rs:List KT} (hne:l≠[]) (h:∀ a∈l,nmS (asS a)=true) (hrs:∀ m,At ts m rs->isT ts m [44]=false) (hat:At ts n (Bh [sg 44] (l.map fun x=>[w_ (asS x)])++rs)) :
  CC (Bp ts true n) (fun r=>r.map (fun y=>y.data.toList)=l.map asS) ts rs:=by
 have f:l.length<=ts.length+1:=by
  have:=hat.few;have j:∀ (m:List D),m.length<=(Bh [sg 44] (m.map fun x=>[w_ (asS x)])).length:=by
   intro m
   induction m with
   | nil=>exact Nat.le_refl _
   | cons c m ih=>
    cases m with
    | nil=>simp [Bh]
    | cons b m=>
     simp only [List.map_cons,Bh,List.length_append,List.length_cons,List.length_nil] at ih ⊢;omega
  have i:=j l;rw [List.length_append] at this;omega
 exact ER (ts:=ts) (P:=fun (r:ByteArray) (b:D)=>r.data.toList=asS b) (C:=fun b=>nmS (asS b)=true) (c:=44) (one:=AD ts) (g:=fun x=>[w_ (asS x)]) (rs:=rs) hrs
  (fun b m E u _ v=>BC u v) (fun r m=>r.map (fun y=>y.data.toList)=m.map asS) (fun B F a b A i=>by rw [List.map_append,List.map_append,A,List.map_cons,List.map_cons,i];rfl) l (ts.length+1) [] [] n h hne f rfl hat
theorem My {r:List ByteArray} {l:List D} (h:r.map (fun y=>y.data.toList)=l.map asS):all2 sxS l (r.map dS)=true:=by
 induction r generalizing l with
 | nil=>cases l with
  | nil=>rfl
  | cons a l=>cases h
 | cons y r ih=>cases l with
  | nil=>cases h
  | cons a l=>
   rw [List.map_cons,List.map_cons,List.cons.injEq] at h;simp [all2,sxS,G2,h.1,ih h.2]
theorem GJ {sm:Bool} {n:Nat} {l:List D} {rs:List KT} (h:∀ a∈l,nmS (asS a)=true) (hsm:l=[]->sm=false) (hsm2:l≠[]->sm=true) (hrs:∀ m,At ts m rs->isT ts m [44]=false) (hat:At ts n (Bh [sg 44] (l.map fun x=>[w_ (asS x)])++rs)) :
  CC (Bp ts sm n) (fun r=>all2 sxS l (r.map dS)=true) ts rs:=by
 by_cases h0:l=[]
 ·rw [hsm h0,h0]
  rw [h0] at hat;unfold Bp BW;rw [if_neg (by simp)];exact .inl rfl hat
 ·rw [hsm2 h0]
  obtain ⟨r,m,e,b,c⟩:=Le h0 h hrs hat;exact ⟨r,m,e,My b,c⟩
theorem PA.of {d:D} {a:Int} {o:ByteArray} {wr:Bool} {ns:List ByteArray} (h1:gZ 1 d=o.data.toList) (h2:gB 2 d=wr) (h3:all2 sxS (gL 3 d) (ns.map dS)=true):PA d (Dv a o wr ns):=by
 simp [PA,spD,gPp,h1,h2,h3]
theorem GK {l:List D} (hne:l≠[]):∃ (a:D) (js:List KT),a∈l/\Bh [sg 44] (l.map fun x=>[w_ (asS x)])=w_ (asS a)::js:=by
 match l,hne with
 | [a],_=>exact ⟨a,[],by simp,rfl⟩
 | a::b::l,_=>exact ⟨a,_,by simp,by simp only [List.map_cons,Bh];rfl⟩
theorem Pi {n:Nat} {d:D} {rs:List KT} (h:Da d=true) (hrs:(∃ ls,rs=sg 59::ls)\/∃ ls,rs=sg 125::ls) (hat:At ts n (Hb d++rs)):CC (BG ts en n) (fun r=>PA d r) ts rs:=by
 obtain ⟨E,A⟩:=Dq h;have g:∀ m,At ts m rs->isT ts m [44]=false:=fun m i=>by
  rcases hrs with ⟨ls,rfl⟩ | ⟨ls,rfl⟩ <;> exact i.no rfl
 have v:∀ m,At ts m rs->AN (Ag ts m)=false:=fun m i=>by
  rcases hrs with ⟨ls,rfl⟩ | ⟨ls,rfl⟩ <;> (rw [i.nm];rfl)
 have l:∀ m,At ts m (Bh [sg 44] ((gL 3 d).map fun x=>[w_ (asS x)])++rs)->(gL 3 d=[]->AN (Ag ts m)=false)/\(gL 3 d≠[]->AN (Ag ts m)=true):=fun m i=>by
  refine ⟨fun B=>?_,fun B=>?_⟩
  ·rw [B] at i;exact v m i
  ·obtain ⟨a,K,I,e⟩:=GK B
   rw [e] at i;exact At.isn (A a I) i
 unfold Hb at hat;unfold BG
 cases hw:gB 2 d with
 | true=>
  rw [hw] at hat;have c:At ts n (w_ (gZ 1 d)::sg 33::(Bh [sg 44] ((gL 3 d).map fun x=>[w_ (asS x)])++rs)):=by simpa using hat
  refine (BC E c).bind fun o H y b=>?_;rw [if_pos (b.isw rfl)];have u:=l _ b.next;exact (GJ A u.1 u.2 g b.next).bind fun F G j f=>.inl (PA.of y.symm hw j) f
 | false=>
  rw [hw] at hat;have c:At ts n (w_ (gZ 1 d)::sg 58::(Bh [sg 44] ((gL 3 d).map fun x=>[w_ (asS x)])++rs)):=by simpa using hat
  refine (BC E c).bind fun o H y b=>?_;rw [if_neg (by rw [b.no rfl];simp)];refine (Bd b).bind fun _ G _ f=>?_;have u:=l _ f;exact (GJ A u.1 u.2 g f).bind fun F J j C=>.inl (PA.of y.symm hw j) C
end
theorem DA.of {d:D} {kd a:Int} {x y:ByteArray} {gv:Bool} {lb:List D} {ps:List ByteArray} {body:List D} {r:D} (h0:gI 0 d=kd) (h2:gZ 2 d=x.data.toList) (h3:gZ 3 d=y.data.toList) (h4:gB 4 d=gv) (h5:L2 PA (gL 5 d) lb) (h6:all2 sxS (gL 6 d) (ps.map dS)=true) (h7:L2 CA (gL 7 d) body) (h8:EA (gD 8 d) r):DA d (deD kd a x y gv lb ps body r):=fun ke kc=>by
 have e5:=L2.all2 (f:=spD false) (fun a b h=>h) h5;have e7:=L2.all2 (f:=ssK false ke kc) (fun a b h=>h ke kc) h7;have e8:=h8 ke;simp [sdK,gDd,h0,h2,h3,h4,e5,h6,e7,e8]
theorem Np (d:D):∃ tl,Hb d=w_ (gZ 1 d)::tl:=⟨_,rfl⟩
section
variable {ts:List Tok} (en:Nat)
theorem Pj {n:Nat} {d:D} {rs:List KT} (h:∀ p∈gL 5 d,Da p=true) (hg:gB 4 d=true) (hat:At ts n (laK d++rs)):CC (BV ts en n) (fun r=>L2 PA (gL 5 d) r) ts rs:=by
 unfold laK at hat;rw [if_pos hg] at hat;generalize gL 5 d=l at h hat ⊢;have u:At ts n (sg 123::(Bh [sg 59] (l.map Hb)++(sg 125::rs))):=by simpa using hat
 unfold BV;refine (Bd u).bind fun _ v _ f=>CC.bind (P:=fun r=>L2 PA l r) (rs:=sg 125::rs) ?_ fun r Q hr E=>(Bd E).bind fun _ O _ B=>.inl hr B
 cases l with
 | nil=>
  have i:At ts v (sg 125::rs):=f;rw [i.isw rfl];unfold BW;rw [if_neg (by simp)];exact .inl trivial i
 | cons a l=>
  have H:=h a (by simp);obtain ⟨y,A⟩:∃ y,Bh [sg 59] ((a::l).map Hb)=w_ (gZ 1 a)::y:=by
   cases l with
   | nil=>exact ⟨_,rfl⟩
   | cons b l=>exact ⟨_,by simp only [List.map_cons,Bh];rfl⟩
  have e:isT ts v [125]=false:=by
   rw [A] at f;exact At.no (k:=1) (x:=gZ 1 a) f (F4 (Dq H).1 (by decide))
  rw [e];have j:(a::l).length<=ts.length+1:=by
   have:=f.few;have hg:∀ (m:List D),m.length<=(Bh [sg 59] (m.map Hb)).length:=by
    intro m
    induction m with
    | nil=>exact Nat.le_refl _
    | cons c m ih=>
     obtain ⟨tl,G⟩:=Np c
     cases m with
     | nil=>simp [Bh,G]
     | cons b m=>
      simp only [List.map_cons,Bh,List.length_append,List.length_cons,List.length_nil] at ih ⊢;omega
   have F:=hg (a::l);rw [List.length_append] at this;omega
  exact ER (ts:=ts) (P:=fun (r b:D)=>PA b r) (C:=fun b=>Da b=true) (c:=59) (one:=BG ts en) (g:=Hb) (rs:=sg 125::rs)
   (fun m I=>I.no rfl) (fun b m y K J L=>Pi en K (J.elim Or.inl fun e=>Or.inr ⟨rs,e⟩) L) (fun r m=>L2 PA m r) (fun N R a b M F=>L2.snoc M F) (a::l) (ts.length+1) [] [] v h (by simp) j trivial f
theorem D1 {n:Nat} {d:D} {kd at_:Int} {x y:ByteArray} {gv:Bool} {rs:List KT} (h0:gI 0 d=kd) (hk:kd≠7) (h2:gZ 2 d=x.data.toList) (h3:gZ 3 d=y.data.toList) (h4:gB 4 d=gv) (hl:Eb d=true) (hf:(gL 6 d).isEmpty=true/\(gL 7 d).isEmpty=true/\Dd (gD 8 d)=true) (hat:At ts n (laK d++(sg 59::rs))):CC (Cp ts en kd at_ x y gv n) (DA d) ts rs:=by
 obtain ⟨v,u,r⟩:=hf;have j:all2 sxS (gL 6 d) (([]:List ByteArray).map dS)=true:=by rw [List.isEmpty_iff.1 v];rfl
 have i:L2 CA (gL 7 d) []:=by rw [List.isEmpty_iff.1 u];trivial
 have g:=IC r;unfold Cp
 cases gv with
 | true=>
  rw [if_pos rfl];refine (Pj en ((Bw hl).1 h4).2 h4 hat).bind fun B l b a=>(Bd a).bind fun _ A _ f=>?_;exact .inl (DA.of h0 h2 h3 h4 b j i g) f
 | false=>
  rw [if_neg (by simp)];have c:=((Bw hl).2 h4).1;unfold laK at hat;rw [if_neg (by rw [h4];simp)] at hat;refine (Bd hat).bind fun _ l _ a=>?_;exact .inl (DA.of h0 h2 h3 h4 (by rw [c];trivial) j i g) a
theorem LA {k:Int} (h1:1<=k) (h2:k<=7):∃ x,wdK k=(1,x)/\AK x=k/\(x == [109,97,105,110])=false:=by
 unfold wdK;obtain rfl | rfl | rfl | rfl | rfl | rfl | rfl:k=1\/k=2\/k=3\/k=4\/k=5\/k=6\/k=7:=by omega
 all_goals exact ⟨_,rfl,rfl,rfl⟩
theorem Pk {ke kc n:Nat} {d:D} {rs:List KT} (h:dfK ke kc d=true) (hm:BH ke d=false) (hg:∀ s∈gL 7 d,gdC ke 6 s) (hat:At ts n (deK ke kc d++rs)):CC (Bo ts en n) (DA d) ts rs:=by
 obtain ⟨h1,h2,h3,S,y,E⟩:=CX h;obtain ⟨x,B,A,-⟩:=LA h1 h2;simp only [BH,Bool.or_eq_false_iff,decide_eq_false_iff_not] at hm;have M:=hm.1.2;unfold deK at hat;unfold Bo;by_cases k7:gI 0 d=7
 ·rw [if_pos k7] at hat
  simp only [Ec,k7,if_true,Bool.and_eq_true,List.all_eq_true] at E;obtain ⟨⟨p1,p2⟩,p3⟩:=E;rw [k7] at B A;have f:At ts n ((1,x)::w_ (gZ 2 d)::sg 40::(Bh [sg 44] ((gL 6 d).map (fun x=>[w_ (asS x)]))++(sg 41::sg 123::(B3 ke kc (gL 7 d)++(w_ [114,101,116,117,114,110]::(exK ke (gD 8 d)++(sg 59::sg 125::rs))))))):=by
   rw [B] at hat;simpa using hat
  have O:AK (Ag ts n).text.data.toList=7:=by rw [f.cons.2.1];exact A
  rw [O,if_neg (by decide)];refine (BC h3 f.next).bind fun a F C u=>?_;rw [if_neg (by decide),if_neg (by decide),if_neg (by decide),if_pos rfl];unfold Fq;refine (Bd u).bind fun _ J _ i=>?_;have g:gZ 3 d=noS.data.toList:=CR (by simpa [k7] using S);have l:gB 4 d=false:=by
   cases hgB:gB 4 d with
   | false=>rfl
   | true=>have:=((Bw y).1 hgB).1;omega
  have N:=((Bw y).2 l).1;refine (GJ (sm:=!isT ts J [41]) p1 (fun T=>?_) (fun T=>?_) (fun m hm=>hm.no rfl) i).bind fun ps m3 L Z=>(Bd Z).bind fun _ m4 _ Y=>(Bd Y).bind fun _ m5 _ H=>?_
  ·rw [T] at i
   have v:At ts J (sg 41::_):=i;rw [v.isw rfl];rfl
  ·obtain ⟨b,js,R,e⟩:=GK T
   rw [e] at i;have v:At ts J (w_ (asS b)::_):=i;rw [v.no (F4 (p1 b R) (by decide))];rfl
  have G:=H.few;rw [List.length_append] at G;refine (Gk en kc (gL 7 d) (2*ts.length+3) m5 [] [] _ 6 p2 hg (by omega) trivial (fun m hm=>Or.inr (hm.isw rfl)) (fun m hm=>hm.no rfl) H).bind fun ab m6 Q X=>(Bd X).bind fun _ m7 _ W=>(Ev en p3 M W).bind fun r m8 hr V=>(Bd V).bind fun _ m9 _ U=>(Bd U).bind fun _ af _ I=>?_;exact .inl (DA.of k7 C.symm g l (by rw [N];trivial) L Q hr) I
 ·rw [if_neg k7] at hat
  simp only [Ec,k7,if_false,Bool.and_eq_true] at E;have K:(gL 6 d).isEmpty=true/\(gL 7 d).isEmpty=true/\Dd (gD 8 d)=true:=⟨E.1.1,E.1.2,E.2⟩;have f:At ts n ((1,x)::w_ (gZ 2 d)::((if gI 0 d=2 then [w_ (gZ 3 d)] else [])++(laK d++(sg 59::rs)))):=by
   rw [B] at hat;simpa using hat
  have O:AK (Ag ts n).text.data.toList=gI 0 d:=by rw [f.cons.2.1];exact A
  rw [O,if_neg (by omega)];refine (BC h3 f.next).bind fun a F C u=>?_;by_cases k2:gI 0 d=2
  ·rw [if_pos k2] at u ⊢
   have g:nmS (gZ 3 d)=true:=by simpa [nfS,k2] using S
   have c:At ts F (w_ (gZ 3 d)::(laK d++(sg 59::rs))):=u;have l:gB 4 d=false:=by
    cases hgB:gB 4 d with
    | false=>rfl
    | true=>have:=((Bw y).1 hgB).1;omega
   exact (BC g c).bind fun b J R i=>D1 en k2 (by decide) C.symm R.symm l y K i
  rw [if_neg k2] at u ⊢;have g:gZ 3 d=noS.data.toList:=CR (by simpa [k2] using S);have c:At ts F (laK d++(sg 59::rs)):=u;by_cases k45:gI 0 d=4\/gI 0 d=5
  ·rw [if_pos k45]
   have P:gB 4 d=true:=by
    cases hgB:gB 4 d with
    | true=>rfl
    | false=>exact absurd k45 ((Bw y).2 hgB).2
   exact D1 en rfl k7 C.symm g P y K c
  rw [if_neg k45];by_cases k6:gI 0 d=6
  ·rw [if_pos k6]
   refine D1 en k6 (by decide) C.symm g ?_ y K c
   cases hgB:gB 4 d with
   | true=>
    unfold laK at c;rw [if_pos hgB] at c;have j:At ts F (sg 123::_):=c;exact (j.isw rfl).symm
   | false=>
    unfold laK at c;rw [if_neg (by rw [hgB];simp)] at c;have j:At ts F (sg 59::rs):=c;exact (j.no rfl).symm
  ·rw [if_neg k6,if_neg k7]
   have l:gB 4 d=false:=by
    cases hgB:gB 4 d with
    | false=>rfl
    | true=>have:=((Bw y).1 hgB).1;omega
   exact D1 en rfl k7 C.symm g l y K c
theorem JV {ke kc:Nat} {d:D} (h:dfK ke kc d=true):∃ x tl,deK ke kc d=(1,x)::tl/\(x == [109,97,105,110])=false:=by
 obtain ⟨f,c,-⟩:=CX h;obtain ⟨x,a,-,b⟩:=LA f c;unfold deK;by_cases k7:gI 0 d=7
 ·rw [k7] at a
  rw [if_pos k7,a];exact ⟨x,_,rfl,b⟩
 ·rw [if_neg k7,a]
  exact ⟨x,_,rfl,b⟩
theorem JN {ke kc:Nat}:∀ (ds:List D) (f n:Nat) (acc accd:List D) (rs:List KT),(∀ d∈ds,dfK ke kc d=true/\BH ke d=false/\∀ s∈gL 7 d,gdC ke 6 s)->ds.length+1<=f->L2 DA accd acc->At ts n ((ds.map (deK ke kc)).flatten++(w_ [109,97,105,110]::rs))->CC (DD ts en f acc n) (L2 DA (accd++ds)) ts (w_ [109,97,105,110]::rs)
 | [],f,n,acc,accd,rs,_,hf,hacc,hat=>by
  obtain ⟨f',rfl⟩:∃ f',f=f' + 1:=⟨f - 1,by simp at hf;omega⟩;have hat':At ts n (w_ [109,97,105,110]::rs):=hat;unfold DD;rw [if_pos (hat'.isw rfl),List.append_nil];exact .inl hacc hat'
 | d::ds,f,n,acc,accd,rs,h,hf,hacc,hat=>by
  obtain ⟨f',rfl⟩:∃ f',f=f' + 1:=⟨f - 1,by simp at hf;omega⟩;obtain ⟨d1,d2,d3⟩:=h d (by simp);have hat0:At ts n (deK ke kc d++((ds.map (deK ke kc)).flatten++(w_ [109,97,105,110]::rs))):=by simpa using hat
  obtain ⟨x,tl,e,g⟩:=JV d1;have a:At ts n ((1,x)::(tl++((ds.map (deK ke kc)).flatten++(w_ [109,97,105,110]::rs)))):=by rw [e] at hat0;exact hat0
  unfold DD;rw [if_neg (by rw [a.no g];simp)];refine (Pk en d1 d2 d3 hat0).bind fun l m b i=>?_;have:=JN ds f' m (acc++[l]) (accd++[d]) rs (fun c j=>h c (List.mem_cons_of_mem _ j)) (by simp at hf ⊢;omega) (hacc.snoc b) i
  rwa [List.append_assoc] at this
theorem MG {ke kc:Nat} {ds l:List D} (h1:∀ d∈ds,dfK ke kc d=true/\BH ke d=false/\∀ s∈gL 7 d,gdC ke 6 s) (h2:∀ s∈l,sfK ke kc s=true) (h3:∀ s∈l,gdC ke 6 s) (hat:At ts 0 (trK ke kc ds l)):∃ ds' l' m,D5 ts en=.inl ((ds',l'),m)/\L2 DA ds ds'/\L2 CA l l':=by
 have a:At ts 0 ((ds.map (deK ke kc)).flatten++(w_ [109,97,105,110]::sg 123::(B3 ke kc l++(sg 125::[])))):=by
  unfold trK at hat;simpa using hat
 have f:ds.length+1<=ts.length+1:=by
  have:=a.few;have C:∀ (m:List D),(∀ d∈m,dfK ke kc d=true)->m.length<=((m.map (deK ke kc)).flatten).length:=by
   intro m
   induction m with
   | nil=>intro _;exact Nat.le_refl _
   | cons c m ih=>
    intro b;obtain ⟨x,tl,e,-⟩:=JV (b c (by simp));have:=ih fun d i=>b d (List.mem_cons_of_mem _ i);simp only [List.map_cons,List.flatten_cons,List.length_append,List.length_cons,e] at this ⊢;omega
  have h2:=C ds fun d i=>(h1 d i).1;rw [List.length_append] at this;omega
 have r:CC (D5 ts en) (fun t=>L2 DA ds t.1/\L2 CA l t.2) ts []:=by
  unfold D5;refine (JN en ds (ts.length+1) 0 [] [] _ h1 f trivial a).bind fun ds' G i y=>(Bd y).bind fun _ F _ v=>?_;refine CC.bind (P:=L2 CA l) (rs:=[]) (GT (fun n A=>?_) v) fun l' E u j=>?_
  ·have g:=A.few
   rw [List.length_append] at g;exact Gk en kc l (2*ts.length+3) n [] [] _ 6 h2 h3 (by omega) trivial (fun m b=>Or.inl (b.isw rfl)) (fun m b=>b.no rfl) A
  ·rw [if_neg (by have:=j.end;omega)]
   exact .inl ⟨i,u⟩ j
 obtain ⟨⟨ds',l'⟩,m,e,B,-⟩:=r;exact ⟨ds',l',m,e,B⟩
end
theorem N3:∀ {k:Nat} {d:D},efK k d=true->dpK k d
 | 0,d,h=>by cases h
 | k+1,d,h=>fun a ha=>N3 ((CE h).2.2.2.2.2.2 a ha)
theorem Jt:∀ {k m:Nat} {d:D} (L:Int),dpK k d->dpK m d->plK k d L=plK m d L
 | 0,m,d,L,h,_=>h.elim
 | k+1,0,d,L,_,h=>h.elim
 | k+1,m+1,d,L,h1,h2=>by
  simp only [plK];replace h1:∀ a∈gL 4 d,dpK k a:=h1;replace h2:∀ a∈gL 4 d,dpK m a:=h2;generalize L - 1=x;generalize gL 4 d=l at h1 h2
  induction l generalizing x with
  | nil=>rfl
  | cons a l ih=>
   rw [List.foldl_cons,List.foldl_cons,Jt x (h1 a (by simp)) (h2 a (by simp))];exact ih _ (fun b hb=>h1 b (List.mem_cons_of_mem _ hb)) (fun b hb=>h2 b (List.mem_cons_of_mem _ hb))
theorem JS:∀ {k m:Nat} {d:D},efK k d=true->dpK m d->efK m d=true
 | 0,m,d,h,_=>by cases h
 | k+1,0,d,_,h=>h.elim
 | k+1,m+1,d,h1,h2=>by
  obtain ⟨p1,p2,p3,p4,p5,p6,p7⟩:=CE h1;simp only [efK,Bool.and_eq_true,decide_eq_true_eq,List.all_eq_true];exact ⟨⟨⟨⟨⟨⟨p1,p2⟩,p3⟩,p4⟩,p5⟩,p6⟩,fun a ha=>JS (p7 a ha) (h2 a ha)⟩
theorem Gm {k m:Nat} {d:D} (h:efK k d=true) (hl:Bn k d=false) (hm:15<=m):efK m d=true/\Bn m d=false:=by
 have a:0<=plK k d 15:=by unfold Bn at hl;simpa using hl
 have b:dpK m d:=IY hm (N6 (L:=15) h (by omega) a);refine ⟨JS h b,?_⟩;unfold Bn;rw [<-Jt 15 (N3 h) b];simpa using a
theorem GH {m:Nat} {d:D} (h:Dd d=true):Bn m d=false:=by
 simp only [Dd,Bool.and_eq_true,decide_eq_true_eq,List.isEmpty_iff] at h;unfold Bn
 cases m with
 | zero=>rfl
 | succ m=>simp only [plK,h.2];rfl
theorem Fk {ke:Nat} {m:Nat} (hm:15<=m):∀ {kc g kc':Nat} {s:D},sfK ke kc s=true->gdC ke g s->g<=kc'->sfK m kc' s=true/\gdC m g s
 | 0,g,kc',s,h,_,_=>by cases h
 | kc+1,0,kc',s,_,h,_=>h.elim
 | kc+1,g+1,0,s,_,_,h=>by omega
 | kc+1,g+1,kc' + 1,s,h,hg,hk=>by
  obtain ⟨h1,h2,h3,h4,h5,h6,h7⟩:=Cb h;obtain ⟨g1,g2,g3⟩:=hg;simp only [B7,Bool.or_eq_false_iff,decide_eq_false_iff_not] at g1;obtain ⟨⟨g4,gE⟩,gA⟩:=g1;have gA':∀ a∈gL 5 s,Bn ke a=false:=fun a ha=>by
   have:=List.any_eq_false.1 gA a ha;simpa using this
  have e4:(if Hh (gI 0 s)=true then efK m (gD 4 s) else Dd (gD 4 s))=true/\Bn m (gD 4 s)=false:=by
   by_cases he:Hh (gI 0 s)=true
   ·rw [if_pos he] at h4 ⊢
    exact Gm h4 gE hm
   ·rw [if_neg he] at h4 ⊢
    exact ⟨h4,GH h4⟩
  have b:lfS (gL 5 s) (JM (gI 0 s)) (efK m)=true/\∀ a∈gL 5 s,Bn m a=false:=by
   simp only [lfS,Bool.and_eq_true,List.all_eq_true] at h5 ⊢;exact ⟨⟨h5.1,fun a ha=>(Gm (h5.2 a ha) (gA' a ha) hm).1⟩,fun a ha=>(Gm (h5.2 a ha) (gA' a ha) hm).2⟩
  simp only [lfS,Bool.and_eq_true,List.all_eq_true] at h6 h7;have f:∀ a∈gL 6 s,sfK m kc' a=true/\gdC m g a:=fun a ha=>Fk hm (h6.2 a ha) (g2 a ha) (by omega);have c:∀ a∈gL 7 s,sfK m kc' a=true/\gdC m g a:=fun a ha=>Fk hm (h7.2 a ha) (g3 a ha) (by omega);refine ⟨?_,?_,fun a ha=>(f a ha).2,fun a ha=>(c a ha).2⟩
  ·simp only [sfK,Bool.and_eq_true,lfS,List.all_eq_true]
   simp only [lfS,Bool.and_eq_true,List.all_eq_true] at b;exact ⟨⟨⟨⟨⟨⟨h1,h2⟩,h3⟩,e4.1⟩,b.1⟩,h6.1,fun a ha=>(f a ha).1⟩,h7.1,fun a ha=>(c a ha).1⟩
  ·simp only [B7,Bool.or_eq_false_iff,decide_eq_false_iff_not,e4.2,List.any_eq_false]
   exact ⟨⟨g4,trivial⟩,fun a ha=>by rw [b.2 a ha];simp⟩
theorem Ii (ke kc:Nat) (deep left:Int):slK ke kc [] deep left=left:=by cases kc <;> rfl
theorem Gf {ke m:Nat} (hm:15<=m):∀ {kc g kc':Nat} {l:List D} {deep left:Int},(∀ s∈l,sfK ke kc s=true)->(∀ s∈l,gdC ke g s)->g<=kc'->slK ke kc l deep left=slK m kc' l deep left
 | kc,g,kc',[],deep,left,_,_,_=>by rw [Ii,Ii]
 | 0,g,kc',s::l,deep,left,h,_,_=>by have:=h s (by simp);cases this
 | kc+1,0,kc',s::l,deep,left,_,h,_=>(h s (by simp)).elim
 | kc+1,g+1,0,s::l,deep,left,_,_,h=>by omega
 | kc+1,g+1,kc' + 1,s::l,deep,left,h,hg,hk=>by
  generalize s::l=r at h hg;have key:∀ (r:List D) (st:Int × Bool),(∀ s∈r,sfK ke (kc+1) s=true)->(∀ s∈r,gdC ke (g+1) s)->r.foldl (slF ke (fun l left=>slK ke kc l (deep+1) left) deep) st=r.foldl (slF m (fun l left=>slK m kc' l (deep+1) left) deep) st:=by
   intro r
   induction r with
   | nil=>intro st _ _;rfl
   | cons a r ih=>
    intro st n j;have i:=n a (by simp);have c:=j a (by simp);obtain ⟨-,-,-,-,-,v,u⟩:=Cb i;have e:slF ke (fun l left=>slK ke kc l (deep+1) left) deep st a=slF m (fun l left=>slK m kc' l (deep+1) left) deep st a:=by
     unfold slF;rw [c.1,(Fk hm i c (Nat.le_refl _)).2.1];dsimp only;rw [Gf hm (kc':=kc') (Cs v) c.2.1 (by omega),Gf hm (kc':=kc') (Cs u) c.2.2 (by omega)]
    rw [List.foldl_cons,List.foldl_cons,e];exact ih _ (fun b f=>n b (List.mem_cons_of_mem _ f)) (fun b f=>j b (List.mem_cons_of_mem _ f))
  simp only [slK];rw [key r _ h hg]
def PX (ke kc:Nat) (ds l:List D):Prop:=(∀ d∈ds,dfK ke kc d=true/\BH ke d=false/\∀ s∈gL 7 d,sfK ke kc s=true/\gdC ke 6 s)/\(∀ s∈l,sfK ke kc s=true)/\∀ s∈l,gdC ke 6 s
theorem LJ {ke kc:Nat} {d:D} (h:dfK ke kc d=true):∀ s∈gL 7 d,sfK ke kc s=true:=by
 obtain ⟨-,-,-,-,-,a⟩:=CX h;unfold Ec at a;split at a
 ·simp only [Bool.and_eq_true,List.all_eq_true] at a
  exact a.1.2
 ·simp only [Bool.and_eq_true,List.isEmpty_iff] at a
  rw [a.1.2];intro s b;cases b
theorem FD {ke kc:Nat} {ds l:List D} (h:ckT ke kc ds l=0):PX ke kc ds l:=by
 unfold ckT at h;split at h
 ·cases h
 rename_i g;have f:(ds.all (dfK ke kc) && l.all (sfK ke kc))=true:=by
  cases e:(ds.all (dfK ke kc) && l.all (sfK ke kc)) with
  | true=>rfl
  | false=>rw [e] at h;cases h
 simp only [Bool.and_eq_true,List.all_eq_true] at f;simp only [C7,Bool.or_eq_true,decide_eq_true_eq,not_or,Int.not_lt] at g;obtain ⟨⟨-,A⟩,v⟩:=g;have K:∀ (r:List D) (x:Int),-1<=x->x<=50->-1<=r.foldl (fun left d=>slK ke kc (gL 7 d) 1 left) x/\r.foldl (fun left d=>slK ke kc (gL 7 d) 1 left) x<=50:=by
  intro r
  induction r with
  | nil=>intro x u n;exact ⟨u,n⟩
  | cons d r ih=>
   intro x u n;have:=Ek ke kc (gL 7 d) 1 x u n;rw [List.foldl_cons];exact ih _ (by omega) (by omega)
 have y:∀ (r:List D),r.foldl (fun left d=>slK ke kc (gL 7 d) 1 left) (-1)=-1:=by
  intro r
  induction r with
  | nil=>rfl
  | cons d r ih=>rw [List.foldl_cons,EJ];exact ih
 have E:=K ds 50 (by omega) (by omega);have I:0<=ds.foldl (fun left d=>slK ke kc (gL 7 d) 1 left) 50:=by
  rcases Int.lt_or_le (ds.foldl (fun left d=>slK ke kc (gL 7 d) 1 left) 50) 0 with hn | hn
  ·rw [show ds.foldl (fun left d=>slK ke kc (gL 7 d) 1 left) 50=-1 by omega,EJ] at v
   omega
  ·exact hn
 have G:=Ge E.1 E.2 f.2 v;have hd:∀ (r:List D) (x:Int),(∀ d∈r,dfK ke kc d=true)->-1<=x->x<=50->0<=r.foldl (fun left d=>slK ke kc (gL 7 d) 1 left) x->∀ d∈r,∀ s∈gL 7 d,gdC ke 6 s:=by
  intro r
  induction r with
  | nil=>intro x _ _ _ _ d hd;cases hd
  | cons a r ih=>
   intro x hr u n C d hd;rw [List.foldl_cons] at C;have b:=Ek ke kc (gL 7 a) 1 x u n;have J:0<=slK ke kc (gL 7 a) 1 x:=by
    rcases Int.lt_or_le (slK ke kc (gL 7 a) 1 x) 0 with hn | hn
    ·rw [show slK ke kc (gL 7 a) 1 x=-1 by omega,y] at C
     omega
    ·exact hn
   rcases List.mem_cons.1 hd with rfl | hd
   ·intro s j
    exact (Ge u n (LJ (hr d (by simp))) J s j).2
   ·exact ih _ (fun c H=>hr c (List.mem_cons_of_mem _ H)) (by omega) (by omega) C d hd
 have B:=hd ds 50 f.1 (by omega) (by omega) I;refine ⟨fun d i=>⟨f.1 d i,?_,fun s j=>⟨LJ (f.1 d i) s j,B d i s j⟩⟩,f.2,fun s j=>(G s j).2⟩;have:¬ BH ke d=true:=fun F=>A (List.any_eq_true.2 ⟨d,i,F⟩);simpa using this
theorem PF {ke kc m kc':Nat} {ds l:List D} (hm:15<=m) (hk:6<=kc') (h:ckT ke kc ds l=0):ckT m kc' ds l=0:=by
 obtain ⟨E,C,B⟩:=FD h;have j:∀ d∈ds,dfK m kc' d=true/\BH m d=false:=fun d j=>by
  obtain ⟨p1,u,n⟩:=E d j;obtain ⟨q1,I,H,G,F,f⟩:=CX p1;have A:Ec m kc' d=true/\Bn m (gD 8 d)=false:=by
   simp only [BH,Bool.or_eq_false_iff] at u;unfold Ec at f ⊢;by_cases k7:gI 0 d=7
   ·rw [if_pos k7] at f ⊢
    simp only [Bool.and_eq_true,List.all_eq_true] at f ⊢;have e:=Gm f.2 u.1.2 hm;exact ⟨⟨⟨f.1.1,fun s b=>(Fk hm (n s b).1 (n s b).2 hk).1⟩,e.1⟩,e.2⟩
   ·rw [if_neg k7] at f ⊢
    refine ⟨f,?_⟩;simp only [Bool.and_eq_true] at f;exact GH f.2
  refine ⟨?_,?_⟩
  ·simp only [dfK,Bool.and_eq_true,decide_eq_true_eq]
   exact ⟨⟨⟨⟨⟨q1,I⟩,H⟩,G⟩,F⟩,A.1⟩
  ·simp only [BH,Bool.or_eq_false_iff] at u ⊢
   exact ⟨⟨u.1.1,A.2⟩,u.2⟩
 have b:∀ s∈l,sfK m kc' s=true:=fun s b=>(Fk hm (C s b) (B s b) hk).1;have i:∀ (r:List D) (x:Int),(∀ d∈r,d∈ds)->r.foldl (fun left d=>slK ke kc (gL 7 d) 1 left) x=r.foldl (fun left d=>slK m kc' (gL 7 d) 1 left) x:=by
  intro r
  induction r with
  | nil=>intro x _;rfl
  | cons a r ih=>
   intro x hr;have n:=(E a (hr a (by simp))).2.2;rw [List.foldl_cons,List.foldl_cons,Gf hm (kc':=kc') (fun s b=>(n s b).1) (fun s b=>(n s b).2) hk];exact ih _ fun d j=>hr d (List.mem_cons_of_mem _ j)
 unfold ckT at h ⊢;split at h
 ·cases h
 rename_i c;have g:¬ C7 m kc' ds l=true:=by
  simp only [C7,Bool.or_eq_true,decide_eq_true_eq,not_or,Int.not_lt] at c ⊢;obtain ⟨⟨K,-⟩,J⟩:=c;refine ⟨⟨K,?_⟩,?_⟩
  ·rw [List.any_eq_true]
   rintro ⟨d,y,v⟩;rw [(j d y).2] at v;cases v
  ·rw [<-i ds 50 fun d h=>h,<-Gf hm C B hk]
   exact J
 rw [if_neg g,if_pos];simp only [Bool.and_eq_true,List.all_eq_true];exact ⟨fun d h=>(j d h).1,b⟩
theorem Kn {ke kc:Nat} {ds l:List D} {x:ByteArray} (hx:x=⟨(trT ke kc ds l).toArray⟩) (hke:1<=ke) (h:ckT ke kc ds l=0) (hs:x.size<=6000):∃ ds' l',Cz x=.inl (ds',l')/\L2 DA ds ds'/\L2 CA l l':=by
 obtain ⟨i,y,C⟩:=FD h;have A:=QR (fun d c=>(i d c).1) y;obtain ⟨r,n⟩:=J3 A;rw [<-hx] at r n;have g:At (An x) 0 (trK ke kc ds l):=by unfold At;rw [List.drop_zero];exact n
 obtain ⟨ds',l',m,e,c,v⟩:=MG (ts:=An x) x.size (fun d c=>⟨(i d c).1,(i d c).2.1,fun s hs=>((i d c).2.2 s hs).2⟩) y C g;refine ⟨ds',l',?_,c,v⟩;have F:=L2.all2 (f:=sdK false ke kc) (fun a b h=>h ke kc) c;have E:=L2.all2 (f:=ssK false ke kc) (fun a b h=>h ke kc) v;have j:stK false ke kc ds l ds' l'=true:=by unfold stK;rw [F,E];rfl
 have B:ckT ke kc ds' l'=0:=by rw [<-QG hke j];exact h
 have u:3<=(An x).length:=by
  have:=g.few;unfold trK at this;simp only [List.length_append,List.length_cons,List.length_nil] at this;omega
 unfold Cz;rw [if_pos hs,if_pos r,e];dsimp only;rw [if_pos (PF (by omega) (by omega) B)]
theorem CW (x:List UInt8) (m:Nat):∀ (l:List (List UInt8)),(∀ a∈l,a.length<=m)->(AY x l).length<=l.length*(m+x.length)
 | [],_=>Nat.zero_le _
 | [a],h=>by have:=h a (by simp);simp only [AY,List.length_cons,List.length_nil];omega
 | a::b::l,h=>by
  have h1:=h a (by simp);have h2:=CW x m (b::l) fun c hc=>h c (List.mem_cons_of_mem _ hc);have e:(a::b::l).length*(m+x.length)=(b::l).length*(m+x.length)+(m+x.length):=by
   rw [List.length_cons (a:=a),Nat.add_mul,Nat.one_mul]
  simp only [AY,List.length_append];omega
theorem NU {n:Int} (h1:-9999999<=n) (h2:n<=9999999):(Lib.itoa n).length<=8:=by
 unfold Lib.itoa;split
 ·have:=IZ 6 n.natAbs (by omega)
  simp only [List.length_cons];omega
 ·have:=IZ 6 n.toNat (by omega)
  omega
theorem Dr {x:List UInt8} (h:nmS x=true):x.length<=12:=by
 have:=(II h).1;simp only [wdB,Bool.and_eq_true,decide_eq_true_eq] at this;exact this.1.2
theorem Hm (k:Int):(Cu k).length<=4:=by
 unfold Cu;split
 ·decide
 split
 ·decide
 split
 ·decide
 split
 ·decide
 ·decide
theorem IV:∀ {k:Nat} {d:D} {L:Int},efK k d=true->0<=L->0<=plK k d L->((exT k d).length:Int)<=20*(L - plK k d L)
 | 0,d,L,h,_,_=>by cases h
 | k+1,d,L,h,hL,hp=>by
  obtain ⟨h1,h2,h3,h4,h5,h6,h7⟩:=CE h;unfold exT;by_cases k1:gI 0 d=1
  ·rw [if_pos k1] at h3 h4 ⊢
   rw [if_pos (by omega)] at h6;have h40:gL 4 d=[]:=List.eq_nil_of_length_eq_zero h6;simp only [plK,h40,List.foldl_nil] at hp ⊢;have:=NU h3 h4;omega
  rw [if_neg k1];by_cases k2:gI 0 d=2
  ·rw [if_pos k2]
   rw [if_pos (by omega)] at h6;have h40:gL 4 d=[]:=List.eq_nil_of_length_eq_zero h6;have hx:nmS (gZ 3 d)=true:=by simpa [nfS,k2] using h5
   simp only [plK,h40,List.foldl_nil] at hp ⊢;have:=Dr hx;omega
  rw [if_neg k2];rw [if_neg (by omega)] at h6;obtain ⟨a,b,f⟩:=MS h6;rw [f] at h7;simp only [plK,f,List.foldl_cons,List.foldl_nil] at hp ⊢;have g:¬ L - 1 < 0:=fun c=>by
   rw [if_pos c,if_pos c] at hp;omega
  rw [if_neg g] at hp ⊢;have r:=Kr k a (L - 1) (by omega);have i:¬ plK k a (L - 1) < 0:=fun c=>by
   rw [if_pos c] at hp;omega
  rw [if_neg i] at hp ⊢;have n:=IV (h7 a (by simp)) (by omega) (by omega:0<=plK k a (L - 1));have l:=IV (h7 b (by simp)) (by omega) hp;have j:=Hm (gI 0 d);simp only [List.map_cons,List.map_nil,AY,List.length_append,List.length_cons,List.length_nil];omega
theorem Cn {k:Nat} {d:D} (h:efK k d=true) (hl:Bn k d=false):(exT k d).length<=300:=by
 have a:0<=plK k d 15:=by unfold Bn at hl;simpa using hl
 have:=IV (L:=15) h (by omega) a;omega
theorem Gj (n:Nat):(inT n).length=2*n:=by
 induction n with
 | zero=>rfl
 | succ n ih=>
  have e:inT (n+1)=[32,32]++inT n:=by simp [inT,List.replicate_succ]
  rw [e,List.length_append,ih];simp only [List.length_cons,List.length_nil];omega
theorem FV {x:List UInt8} {b:Bool} (h:nfS x b=true):x.length<=12:=by
 cases b with
 | true=>exact Dr h
 | false=>rw [CR h];decide
theorem I1 {ke:Nat}:∀ {kc:Nat} {l:List D} {deep:Nat} {left:Int},-1<=left->left<=50->(∀ s∈l,sfK ke kc s=true)->0<=slK ke kc l deep left->((Bt ke kc deep l).length:Int)<=2000*(left - slK ke kc l deep left)
 | kc,[],deep,left,_,_,_,h0=>by rw [Ii];simp [Bt]
 | 0,s::l,deep,left,_,_,h,_=>by have:=h s (by simp);cases this
 | k+1,s::l,deep,left,hl1,hl2,h,h0=>by
  obtain ⟨F,hF⟩:∃ F,F=slF ke (fun l left=>slK ke k l ((deep:Int)+1) left) deep:=⟨_,rfl⟩;have e0:∀ (m:List D),slK ke (k+1) m deep left=(m.foldl F (left,false)).1:=fun m=>by rw [hF];rfl
  rw [e0] at h0 ⊢;have stuck:∀ (m:List D) (x:Int),(m.foldl F (x,true)).1=x:=by
   intro m
   induction m with
   | nil=>intro x;rfl
   | cons a m ih=>intro x;rw [List.foldl_cons,show F (x,true) a=(x,true) by rw [hF];simp [slF]];exact ih x
  have n:∀ (m:List D) (x:Int),(∀ s∈m,sfK ke (k+1) s=true)->-1<=x->x<=50->0<=(m.foldl F (x,false)).1->0<=x/\((Bt ke (k+1) deep m).length:Int)<=2000*(x - (m.foldl F (x,false)).1):=by
   intro m
   induction m with
   | nil=>intro x _ h1 Z R;exact ⟨R,by simp [Bt]⟩
   | cons a m ih=>
    intro x u L K j;rw [List.foldl_cons] at j ⊢;by_cases hb:x - 1 < 0\/6 < (deep:Int)\/B7 ke a=true
    ·have e:F (x,false) a=(-1,true):=by rw [hF];unfold slF;rw [if_neg (by simp),if_pos hb]
     rw [e,stuck] at j;omega
    ·have e:F (x,false) a=(slK ke k (gL 7 a) ((deep:Int)+1) (slK ke k (gL 6 a) ((deep:Int)+1) (x - 1)),false):=by rw [hF];unfold slF;rw [if_neg (by simp),if_neg hb]
     rw [e] at j ⊢;simp only [not_or] at hb;have b6:=Ek ke k (gL 6 a) ((deep:Int)+1) (x - 1) (by omega) (by omega);have b7:=Ek ke k (gL 7 a) ((deep:Int)+1) (slK ke k (gL 6 a) ((deep:Int)+1) (x - 1)) (by omega) (by omega);obtain ⟨B,Y⟩:=ih _ (fun s M=>u s (List.mem_cons_of_mem _ M)) (by omega) (by omega) j;have Q:0<=slK ke k (gL 6 a) ((deep:Int)+1) (x - 1):=by
      rcases Int.lt_or_le (slK ke k (gL 6 a) ((deep:Int)+1) (x - 1)) 0 with hn | hn
      ·rw [show slK ke k (gL 6 a) ((deep:Int)+1) (x - 1)=-1 by omega,EJ] at B;omega
      ·exact hn
     refine ⟨by omega,?_⟩;have P:=u a (by simp);obtain ⟨p1,I,H,A,G,E,C⟩:=Cb P;have U:=I1 (deep:=deep+1) (by omega) (by omega) (Cs E) Q;have T:=I1 (deep:=deep+1) (by omega) (by omega) (Cs C) B;have v:((deep+1:Nat):Int)=(deep:Int)+1:=by omega
     rw [v] at U T;have i:B7 ke a=false:=by simpa using hb.2.2
     simp only [B7,Bool.or_eq_false_iff,decide_eq_false_iff_not] at i;obtain ⟨⟨g4,gE⟩,S⟩:=i;have c:=Gj deep;have W:=FV I;have V:=FV H;have le:Hh (gI 0 a)=true->(exT ke (gD 4 a)).length<=300:=fun N=>by
      rw [if_pos N] at A;exact Cn A gE
     have X:(AY [44,32] ((gL 5 a).map (exT ke))).length<=1208:=by
      have:=CW [44,32] 300 ((gL 5 a).map (exT ke)) fun y g=>by
       obtain ⟨b,hb,rfl⟩:=List.mem_map.1 g;exact Cn (Cs G b hb) (by have:=List.any_eq_false.1 S b hb;simpa using this)
      rw [List.length_map] at this;have u:(gL 5 a).length*(300+2)<=4*(300+2):=Nat.mul_le_mul_right _ (by omega);simp only [List.length_cons,List.length_nil] at this;omega
     have J:((cmT ke (k+1) deep a).length:Int)<=2000+(Bt ke k (deep+1) (gL 6 a)).length+(Bt ke k (deep+1) (gL 7 a)).length:=by
      have O:deep<=6:=by omega
      unfold cmT;dsimp only;rcases Dj p1 with ek | ek | ek | ek | ek | ek | ek | ek;all_goals rw [ek] at le ⊢
      ·have:=le rfl
       simp only [if_true,List.length_append,List.length_cons,List.length_nil,c];omega
      ·rw [if_neg (by decide),if_pos rfl];simp only [List.length_append,List.length_cons,List.length_nil,c];omega
      ·rw [if_neg (by decide),if_neg (by decide),if_pos rfl];simp only [List.length_append,List.length_cons,List.length_nil,c];omega
      ·have:=le rfl
       rw [if_neg (by decide),if_neg (by decide),if_neg (by decide),if_pos rfl];simp only [List.length_append,List.length_cons,List.length_nil,c];omega
      ·have:=le rfl
       rw [if_neg (by decide),if_neg (by decide),if_neg (by decide),if_neg (by decide),if_pos rfl];simp only [List.length_append,List.length_cons,List.length_nil,c];omega
      ·have:=le rfl
       rw [if_neg (by decide),if_neg (by decide),if_neg (by decide),if_neg (by decide),if_neg (by decide),if_pos rfl];simp only [List.length_append,List.length_cons,List.length_nil,c];omega
      ·have:=le rfl
       rw [if_neg (by decide),if_neg (by decide),if_neg (by decide),if_neg (by decide),if_neg (by decide),if_neg (by decide),if_pos rfl];have r:((if gL 7 a=[] then [] else inT deep++[125,32,101,108,115,101,32,123,10]++((gL 7 a).map (cmT ke k (deep+1))).flatten):List UInt8).length<=2*deep+9+(Bt ke k (deep+1) (gL 7 a)).length:=by
        split
        ·exact Nat.zero_le _
        ·simp only [List.length_append,List.length_cons,List.length_nil,c,Bt];omega
       have g:((gL 6 a).map (cmT ke k (deep+1))).flatten.length=(Bt ke k (deep+1) (gL 6 a)).length:=rfl;simp only [List.length_append,List.length_cons,List.length_nil,c,g];simp only [List.append_assoc] at r ⊢;omega
      ·have:=le rfl
       rw [if_neg (by decide),if_neg (by decide),if_neg (by decide),if_neg (by decide),if_neg (by decide),if_neg (by decide),if_neg (by decide)];have r:((if gL 7 a=[] then [] else inT deep++[125,32,101,108,115,101,32,123,10]++((gL 7 a).map (cmT ke k (deep+1))).flatten):List UInt8).length<=2*deep+9+(Bt ke k (deep+1) (gL 7 a)).length:=by
        split
        ·exact Nat.zero_le _
        ·simp only [List.length_append,List.length_cons,List.length_nil,c,Bt];omega
       have g:((gL 6 a).map (cmT ke k (deep+1))).flatten.length=(Bt ke k (deep+1) (gL 6 a)).length:=rfl;simp only [List.length_append,List.length_cons,List.length_nil,c,g];simp only [List.append_assoc] at r ⊢;omega
     have f:(Bt ke (k+1) deep (a::m)).length=(cmT ke (k+1) deep a).length+(Bt ke (k+1) deep m).length:=by simp [Bt]
     rw [f];omega
  exact (n (s::l) left h hl1 hl2 h0).2
end Go.Proofs.YtipngnjffjajpaaGreatDoor.Tx
