/- What is shown, scanned: the tokens of commands, labels, declarations, a tree. -/
import Derived.Test.YtipngnjffjajpaaGreatDoorK32
import Derived.Lib.SmallJoins
import Derived.Lib.AppendIntMem
set_option linter.unusedVariables false
set_option maxHeartbeats 8000000
set_option maxRecDepth 100000
namespace Go.Proofs.YtipngnjffjajpaaGreatDoor.Tx
open Go.RowKit
open Go.Value renaming int -> O, slice -> zd, bool -> ze, agg -> zf, pointer -> zh, tuple -> zj
open Go.IntKind renaming i64 -> zc
open Go.Obj renaming cells -> zg
open Go.Ending renaming returned -> zi
theorem D4 {ke k:Nat} {s:D} (h:sfK ke (k+1) s=true):hOk (gI 0 s)=true/\nfS (gZ 2 s) (FT (gI 0 s))=true/\nfS (gZ 3 s) (FV (gI 0 s))=true/\(if Ft (gI 0 s)=true then efK ke (gD 4 s) else CO (gD 4 s))=true/\lfS (gL 5 s) (FW (gI 0 s)) (efK ke)=true/\lfS (gL 6 s) (FU (gI 0 s)) (sfK ke k)=true/\lfS (gL 7 s) (Fu (gI 0 s)) (sfK ke k)=true:=by
 simp only [sfK,Bool.and_eq_true] at h;obtain ⟨⟨⟨⟨⟨⟨j,i⟩,g⟩,f⟩,c⟩,b⟩,a⟩:=h;exact ⟨j,i,g,f,c,b,a⟩
theorem Qz:∀ (deep:Nat),SgT (inT deep) [] DK
 | 0=>G1
 | n+1=>by
  have e:inT (n+1)=[32]++([32]++inT n):=by simp [inT,List.replicate_succ]
  rw [e];exact (C3 (c:=32) rfl).app ((C3 (c:=32) rfl).app (Qz n) fun _ _=>trivial) fun _ _=>trivial
theorem GE {α:Type} {f:α->List UInt8} {g:α->List KT}:∀ {l:List α},(∀ a∈l,SgT (f a) (g a) DK)->SgT (l.map f).flatten (l.map g).flatten DK
 | [],_=>G1
 | a::l,h=>by
  rw [List.map_cons,List.map_cons,List.flatten_cons,List.flatten_cons];exact (h a (by simp)).app (GE fun b hb=>h b (List.mem_cons_of_mem _ hb)) fun _ _=>trivial
theorem F6:SgT [59,10] [sg 59] DK:=(Cg (c:=59) rfl rfl rfl rfl).app (C3 (c:=10) rfl) fun _ _=>trivial
theorem IT:SgT [32,123,10] [sg 123] DK:=(C3 (c:=32) rfl).app ((Cg (c:=123) rfl rfl rfl rfl).app (C3 (c:=10) rfl) fun _ _=>trivial) fun _ _=>trivial
theorem JR:SgT [125,10] [sg 125] DK:=(Cg (c:=125) rfl rfl rfl rfl).app (C3 (c:=10) rfl) fun _ _=>trivial
theorem PK:SgT [125,32,101,108,115,101,32,123,10] [sg 125,w_ [101,108,115,101],sg 123] DK:=
 (Cg (c:=125) rfl rfl rfl rfl).app ((C3 (c:=32) rfl).app ((Mc (x:=[101,108,115,101]) rfl).app IT fun r _=>Bq rfl) fun _ _=>trivial) fun _ _=>trivial
theorem NY:SgT [32,61,32] [sg 61] DK:=(C3 (c:=32) rfl).app RO fun _ _=>trivial
theorem N0:SgT [44,32] [sg 44] DK:=(Cg (c:=44) rfl rfl rfl rfl).app (C3 (c:=32) rfl) fun _ _=>trivial
theorem PL {ke:Nat} {l:List D} (h:∀ a∈l,efK ke a=true):SgT (AB [44,32] (l.map (exT ke))) (Km [sg 44] (l.map (exK ke))) nN:=IU N0 (fun _=>Bq rfl) l fun a ha=>Gp (h a ha)
theorem SgT.cast {x x':List UInt8} {ks ks':List KT} {q:List UInt8->Prop} (h:SgT x ks q) (hx:x'=x) (hk:ks'=ks):SgT x' ks' q:=by rw [hx,hk];exact h
theorem Fe {k:Int} (h:hOk k=true):k=1\/k=2\/k=3\/k=4\/k=5\/k=6\/k=7\/k=8:=by
 simp only [hOk,Bool.and_eq_true,decide_eq_true_eq] at h;omega
theorem N1 {ke:Nat}:∀ {k:Nat} {d:D} (deep:Nat),sfK ke k d=true->SgT (cmT ke k deep d) (cmK ke k d) DK
 | 0,d,deep,h=>by cases h
 | k+1,d,deep,h=>by
  obtain ⟨h1,h2,h3,h4,h5,h6,h7⟩:=D4 h;have hI:=Qz deep;have htr:∀ {q:List UInt8->Prop} {y:List UInt8},∀ r,q r->DK (y++r):=fun _ _=>trivial;unfold cmT cmK;dsimp only;rcases Fe h1 with e | e | e | e | e | e | e | e;all_goals rw [e] at h2 h3 h4 h5 h6 h7 ⊢
  ·have hn:=Dr (x:=gZ 2 d) h2
   have he:=Gp (k:=ke) (d:=gD 4 d) h4;exact SgT.app (SgT.app (SgT.app (SgT.app hI hn htr) NY (fun r _=>Bq rfl)) he htr) F6 (fun r _=>Bq rfl)
  ·have hn:=Dr (x:=gZ 2 d) h2
   have ho:=Dr (x:=gZ 3 d) h3;have ha:=PL (ke:=ke) (l:=gL 5 d) fun a ha=>by
    simp only [lfS,Bool.and_eq_true,List.all_eq_true] at h5;exact h5.2 a ha
   exact SgT.app (SgT.app (SgT.app (SgT.app (SgT.app (SgT.app hI hn htr) NY (fun r _=>Bq rfl)) ho htr) (Cg (c:=40) rfl rfl rfl rfl) (fun r _=>Bq rfl)) ha htr) ((Cg (c:=41) rfl rfl rfl rfl).app F6 htr) (fun r _=>Bq rfl)
  ·have hn:=Dr (x:=gZ 2 d) h2
   have ho:=Dr (x:=gZ 3 d) h3;exact SgT.app (SgT.app (SgT.app (SgT.app (SgT.app hI (F5 (x:=[103,101,116]) rfl) htr) hn htr) (C3 (c:=32) rfl) (fun r _=>Bq rfl)) ho htr) F6 (fun r _=>Bq rfl)
  ·have ho:=Dr (x:=gZ 3 d) h3
   have he:=Gp (k:=ke) (d:=gD 4 d) h4;exact SgT.app (SgT.app (SgT.app (SgT.app (SgT.app hI (F5 (x:=[112,117,116]) rfl) htr) ho htr) (C3 (c:=32) rfl) (fun r _=>Bq rfl)) he htr) F6 (fun r _=>Bq rfl)
  ·have hn:=Dr (x:=gZ 2 d) h2
   have he:=Gp (k:=ke) (d:=gD 4 d) h4;exact SgT.app (SgT.app (SgT.app (SgT.app (SgT.app hI (F5 (x:=[114,101,118,101,97,108]) rfl) htr) hn htr) (C3 (c:=32) rfl) (fun r _=>Bq rfl)) he htr) F6 (fun r _=>Bq rfl)
  ·have hn:=Dr (x:=gZ 2 d) h2
   have he:=Gp (k:=ke) (d:=gD 4 d) h4;exact SgT.app (SgT.app (SgT.app (SgT.app (SgT.app hI (F5 (x:=[116,114,117,115,116]) rfl) htr) hn htr) (C3 (c:=32) rfl) (fun r _=>Bq rfl)) he htr) F6 (fun r _=>Bq rfl)
  ·have he:=Gp (k:=ke) (d:=gD 4 d) h4
   have ht:=GE (f:=cmT ke k (deep+1)) (g:=cmK ke k) (l:=gL 6 d) fun a ha=>N1 (deep+1) (by
    simp only [lfS,Bool.and_eq_true,List.all_eq_true] at h6;exact h6.2 a ha)
   have hE:SgT (if gL 7 d=[] then [] else inT deep++[125,32,101,108,115,101,32,123,10]++((gL 7 d).map (cmT ke k (deep+1))).flatten) (if gL 7 d=[] then [] else [sg 125,w_ [101,108,115,101],sg 123]++((gL 7 d).map (cmK ke k)).flatten) DK:=by
    split
    ·exact G1
    ·exact (hI.app PK htr).app (GE fun a ha=>N1 (deep+1) (by
      simp only [lfS,Bool.and_eq_true,List.all_eq_true] at h7;exact h7.2 a ha)) htr
   exact SgT.cast (SgT.app (SgT.app (SgT.app (SgT.app (SgT.app (SgT.app (SgT.app hI (F5 (x:=[105,102]) rfl) htr) he htr) IT (fun r _=>Bq rfl)) ht htr) hE htr) hI htr) JR htr) (by simp) (by simp)
  ·have he:=Gp (k:=ke) (d:=gD 4 d) h4
   have ht:=GE (f:=cmT ke k (deep+1)) (g:=cmK ke k) (l:=gL 6 d) fun a ha=>N1 (deep+1) (by
    simp only [lfS,Bool.and_eq_true,List.all_eq_true] at h6;exact h6.2 a ha)
   have b:gL 7 d=[]:=by
    simp only [lfS,Bool.and_eq_true] at h7;have:=h7.1;simpa [Fu] using this
   rw [b];exact SgT.cast (SgT.app (SgT.app (SgT.app (SgT.app (SgT.app (SgT.app (SgT.app hI (F5 (x:=[119,104,105,108,101]) rfl) htr) he htr) IT (fun r _=>Bq rfl)) ht htr) G1 htr) hI htr) JR htr) (by simp) (by simp)
theorem Fr {p:D} (h:DC p=true):nmS (gZ 1 p)=true/\∀ a∈gL 3 p,nmS (asS a)=true:=by
 simpa only [DC,Bool.and_eq_true,List.all_eq_true] using h
theorem CF {d:D} (h:Ew d=true):(gB 4 d=true->(gI 0 d=4\/gI 0 d=5\/gI 0 d=6)/\∀ p∈gL 5 d,DC p=true)/\(gB 4 d=false->gL 5 d=[]/\¬ (gI 0 d=4\/gI 0 d=5)):=by
 unfold Ew at h;split at h
 ·cases h
 rename_i c;split at h
 ·rename_i a
  simp only [Bool.and_eq_true,List.all_eq_true] at h;exact ⟨fun _=>⟨by omega,h.2⟩,fun e=>by rw [e] at h;exact absurd h.1 (by simp)⟩
 rename_i a;have b:gB 4 d=false->gL 5 d=[]:=fun e=>Classical.byContradiction fun f=>c ⟨e,f⟩;split at h
 ·rename_i g
  simp only [List.all_eq_true] at h;exact ⟨fun _=>⟨by omega,h⟩,fun e=>⟨b e,a⟩⟩
 ·exact ⟨fun e=>absurd h (by rw [e];simp),fun e=>⟨b e,a⟩⟩
theorem Ff {ke kc:Nat} {d:D} (h:dfK ke kc d=true):1<=gI 0 d/\gI 0 d<=7/\nmS (gZ 2 d)=true/\nfS (gZ 3 d) (decide (gI 0 d=2))=true/\Ew d=true/\Ez ke kc d=true:=by
 simp only [dfK,Bool.and_eq_true,decide_eq_true_eq] at h;obtain ⟨⟨⟨⟨⟨i,g⟩,f⟩,c⟩,b⟩,a⟩:=h;exact ⟨i,g,f,c,b,a⟩
theorem EA.of {d:D} {kd a n:Int} {x:ByteArray} {ds:List D} (h0:gI 0 d=kd) (h2:gI 2 d=n) (h3:gZ 3 d=x.data.toList) (h4:L2 EA (gL 4 d) ds):EA d (eD kd a n x ds):=fun k=>by
 cases k with
 | zero=>rfl
 | succ k=>
  have:=L2.all2 (f:=seK false k) (fun a b h=>h k) h4;simp [seK,gEe,h0,h2,h3,this]
def dpK:Nat->D->Prop
 | 0,_=>False
 | k+1,d=>∀ a∈gL 4 d,dpK k a
theorem QJ {α:Type} {l:List α} (h:l.length=2):∃ a b,l=[a,b]:=by
 match l,h with
 | [a,b],_=>exact ⟨a,b,rfl⟩
def gdC (ke:Nat):Nat->D->Prop
 | 0,_=>False
 | k+1,s=>CR ke s=false/\(∀ a∈gL 6 s,gdC ke k a)/\∀ a∈gL 7 s,gdC ke k a
theorem E5 (ke kc:Nat) (l:List D) (deep:Int):slK ke kc l deep (-1)=-1:=by
 have h:=EG ke kc l deep (-1) (by omega) (by omega);have b:=Dn ke kc l deep;rw [h,if_neg (by omega)]
theorem EH (ke kc:Nat) (l:List D) (deep left:Int) (h1:-1<=left) (h2:left<=50):-1<=slK ke kc l deep left/\slK ke kc l deep left<=left:=by
 have h:=EG ke kc l deep left h1 h2;have b:=Dn ke kc l deep;rw [h];split <;> omega
theorem GD {ke:Nat}:∀ {kc:Nat} {l:List D} {deep left:Int},-1<=left->left<=50->(∀ s∈l,sfK ke kc s=true)->0<=slK ke kc l deep left->∀ s∈l,deep<=6/\gdC ke (7 - deep).toNat s
 | 0,l,deep,left,_,_,h,_,s,hs=>by have:=h s hs;cases this
 | k+1,l,deep,left,hl1,hl2,h,h0,s,hs=>by
  obtain ⟨F,hF⟩:∃ F,F=slF ke (fun l left=>slK ke k l (deep+1) left) deep:=⟨_,rfl⟩;have h0':0<=(l.foldl F (left,false)).1:=by rw [hF];exact h0
  have b:∀ (m:List D) (x:Int),(m.foldl F (x,true)).1=x:=by
   intro m
   induction m with
   | nil=>intro x;rfl
   | cons a m ih=>intro x;rw [List.foldl_cons,show F (x,true) a=(x,true) by rw [hF];simp [slF]];exact ih x
  have g:∀ (m:List D) (x:Int),(∀ s∈m,sfK ke (k+1) s=true)->-1<=x->x<=50->0<=(m.foldl F (x,false)).1->0<=x/\∀ s∈m,deep<=6/\gdC ke (7 - deep).toNat s:=by
   intro m
   induction m with
   | nil=>intro x _ G E C;exact ⟨C,fun s hs=>by cases hs⟩
   | cons a m ih=>
    intro x u A y f;rw [List.foldl_cons] at f;by_cases hb:x - 1 < 0\/6 < deep\/CR ke a=true
    ·have e:F (x,false) a=(-1,true):=by rw [hF];unfold slF;rw [if_neg (by simp),if_pos hb]
     rw [e,b] at f;omega
    ·have e:F (x,false) a=(slK ke k (gL 7 a) (deep+1) (slK ke k (gL 6 a) (deep+1) (x - 1)),false):=by rw [hF];unfold slF;rw [if_neg (by simp),if_neg hb]
     rw [e] at f;simp only [not_or] at hb;have I:=EH ke k (gL 6 a) (deep+1) (x - 1) (by omega) (by omega);have H:=EH ke k (gL 7 a) (deep+1) (slK ke k (gL 6 a) (deep+1) (x - 1)) (by omega) (by omega);obtain ⟨r,v⟩:=ih _ (fun s hs=>u s (List.mem_cons_of_mem _ hs)) (by omega) (by omega) f;have B:0<=slK ke k (gL 6 a) (deep+1) (x - 1):=by
      rcases Int.lt_or_le (slK ke k (gL 6 a) (deep+1) (x - 1)) 0 with hn | hn
      ·rw [show slK ke k (gL 6 a) (deep+1) (x - 1)=-1 by omega,E5] at r;omega
      ·exact hn
     refine ⟨by omega,fun s hs=>?_⟩;rcases List.mem_cons.1 hs with rfl | hs
     ·obtain ⟨-,-,-,-,-,n,j⟩:=D4 (u s (by simp))
      simp only [lfS,Bool.and_eq_true,List.all_eq_true] at n j;refine ⟨by omega,?_⟩;rw [show (7 - deep).toNat=(7 - (deep+1)).toNat+1 by omega];exact ⟨by simpa using hb.2.2,fun c i=>(GD (by omega) (by omega) n.2 B c i).2,fun c i=>(GD (by omega) (by omega) j.2 r c i).2⟩
     ·exact v s hs
  exact (g l left h hl1 hl2 h0').2 s hs
theorem Sl {d:D} (h:CO d=true):EA d noE:=by
 simp only [CO,Bool.and_eq_true,decide_eq_true_eq,List.isEmpty_iff] at h;obtain ⟨⟨⟨f,c⟩,b⟩,a⟩:=h;exact EA.of f c b (by rw [a];trivial)
theorem Rj {l:List D} {f:D->Bool} (h:lfS l false f=true):l=[]:=by
 simp only [lfS,Bool.and_eq_true,Bool.false_or,List.isEmpty_iff] at h;exact h.1
theorem Cp {l:List D} {q:Bool} {f:D->Bool} (h:lfS l q f=true):∀ a∈l,f a=true:=by
 simp only [lfS,Bool.and_eq_true,List.all_eq_true] at h;exact h.2
theorem QY {x:List UInt8} (h:nfS x false=true):x=noS.data.toList:=by simpa [nfS,noS] using h
theorem OZ:∀ {k m:Nat} {d:D},efK k d=true->dpK m d->efK m d=true
 | 0,m,d,h,_=>by cases h
 | k+1,0,d,_,h=>h.elim
 | k+1,m+1,d,h1,h2=>by
  obtain ⟨p1,p2,p3,p4,p5,p6,p7⟩:=Dz h1;simp only [efK,Bool.and_eq_true,decide_eq_true_eq,List.all_eq_true];exact ⟨⟨⟨⟨⟨⟨p1,p2⟩,p3⟩,p4⟩,p5⟩,p6⟩,fun a ha=>OZ (p7 a ha) (h2 a ha)⟩
theorem QX {m:Nat} {d:D} (h:CO d=true):Cm m d=false:=by
 simp only [CO,Bool.and_eq_true,decide_eq_true_eq,List.isEmpty_iff] at h;unfold Cm
 cases m with
 | zero=>rfl
 | succ m=>simp only [plK,h.2];rfl
theorem PH (ke kc:Nat) (deep left:Int):slK ke kc [] deep left=left:=by cases kc <;> rfl
def Pl (ke kc:Nat) (ds l:List D):Prop:=(∀ d∈ds,dfK ke kc d=true/\CS ke d=false/\∀ s∈gL 7 d,sfK ke kc s=true/\gdC ke 6 s)/\(∀ s∈l,sfK ke kc s=true)/\∀ s∈l,gdC ke 6 s
theorem Md {ke kc:Nat} {d:D} (h:dfK ke kc d=true):∀ s∈gL 7 d,sfK ke kc s=true:=by
 obtain ⟨-,-,-,-,-,a⟩:=Ff h;unfold Ez at a;split at a
 ·simp only [Bool.and_eq_true,List.all_eq_true] at a
  exact a.1.2
 ·simp only [Bool.and_eq_true,List.isEmpty_iff] at a
  rw [a.1.2];intro s b;cases b
theorem Hk {ke kc:Nat} {ds l:List D} (h:ckT ke kc ds l=0):Pl ke kc ds l:=by
 unfold ckT at h;split at h
 ·cases h
 rename_i g;have f:(ds.all (dfK ke kc) && l.all (sfK ke kc))=true:=by
  cases e:(ds.all (dfK ke kc) && l.all (sfK ke kc)) with
  | true=>rfl
  | false=>rw [e] at h;cases h
 simp only [Bool.and_eq_true,List.all_eq_true] at f;simp only [Es,Bool.or_eq_true,decide_eq_true_eq,not_or,Int.not_lt] at g;obtain ⟨⟨-,A⟩,v⟩:=g;have K:∀ (r:List D) (x:Int),-1<=x->x<=50->-1<=r.foldl (fun left d=>slK ke kc (gL 7 d) 1 left) x/\r.foldl (fun left d=>slK ke kc (gL 7 d) 1 left) x<=50:=by
  intro r
  induction r with
  | nil=>intro x u n;exact ⟨u,n⟩
  | cons d r ih=>
   intro x u n;have:=EH ke kc (gL 7 d) 1 x u n;rw [List.foldl_cons];exact ih _ (by omega) (by omega)
 have y:∀ (r:List D),r.foldl (fun left d=>slK ke kc (gL 7 d) 1 left) (-1)=-1:=by
  intro r
  induction r with
  | nil=>rfl
  | cons d r ih=>rw [List.foldl_cons,E5];exact ih
 have E:=K ds 50 (by omega) (by omega);have I:0<=ds.foldl (fun left d=>slK ke kc (gL 7 d) 1 left) 50:=by
  rcases Int.lt_or_le (ds.foldl (fun left d=>slK ke kc (gL 7 d) 1 left) 50) 0 with hn | hn
  ·rw [show ds.foldl (fun left d=>slK ke kc (gL 7 d) 1 left) 50=-1 by omega,E5] at v
   omega
  ·exact hn
 have G:=GD E.1 E.2 f.2 v;have hd:∀ (r:List D) (x:Int),(∀ d∈r,dfK ke kc d=true)->-1<=x->x<=50->0<=r.foldl (fun left d=>slK ke kc (gL 7 d) 1 left) x->∀ d∈r,∀ s∈gL 7 d,gdC ke 6 s:=by
  intro r
  induction r with
  | nil=>intro x _ _ _ _ d hd;cases hd
  | cons a r ih=>
   intro x hr u n C d hd;rw [List.foldl_cons] at C;have b:=EH ke kc (gL 7 a) 1 x u n;have J:0<=slK ke kc (gL 7 a) 1 x:=by
    rcases Int.lt_or_le (slK ke kc (gL 7 a) 1 x) 0 with hn | hn
    ·rw [show slK ke kc (gL 7 a) 1 x=-1 by omega,y] at C
     omega
    ·exact hn
   rcases List.mem_cons.1 hd with rfl | hd
   ·intro s j
    exact (GD u n (Md (hr d (by simp))) J s j).2
   ·exact ih _ (fun c H=>hr c (List.mem_cons_of_mem _ H)) (by omega) (by omega) C d hd
 have B:=hd ds 50 f.1 (by omega) (by omega) I;refine ⟨fun d i=>⟨f.1 d i,?_,fun s j=>⟨Md (f.1 d i) s j,B d i s j⟩⟩,f.2,fun s j=>(G s j).2⟩;have:¬ CS ke d=true:=fun F=>A (List.any_eq_true.2 ⟨d,i,F⟩);simpa using this
theorem Cd (x:List UInt8) (m:Nat):∀ (l:List (List UInt8)),(∀ a∈l,a.length<=m)->(AB x l).length<=l.length*(m+x.length)
 | [],_=>Nat.zero_le _
 | [a],h=>by have:=h a (by simp);simp only [AB,List.length_cons,List.length_nil];omega
 | a::b::l,h=>by
  have h1:=h a (by simp);have h2:=Cd x m (b::l) fun c hc=>h c (List.mem_cons_of_mem _ hc);have e:(a::b::l).length*(m+x.length)=(b::l).length*(m+x.length)+(m+x.length):=by
   rw [List.length_cons (a:=a),Nat.add_mul,Nat.one_mul]
  simp only [AB,List.length_append];omega
theorem OJ {n:Int} (h1:-9999999<=n) (h2:n<=9999999):(Lib.itoa n).length<=8:=by
 unfold Lib.itoa;split
 ·have:=Jr 6 n.natAbs (by omega)
  simp only [List.length_cons];omega
 ·have:=Jr 6 n.toNat (by omega)
  omega
theorem CP {x:List UInt8} (h:nmS x=true):x.length<=12:=by
 have:=(Mq h).1;simp only [wdB,Bool.and_eq_true,decide_eq_true_eq] at this;exact this.1.2
theorem Ir (k:Int):(BP k).length<=4:=by
 unfold BP;split
 ·decide
 split
 ·decide
 split
 ·decide
 split
 ·decide
 ·decide
theorem Jo:∀ {k:Nat} {d:D} {L:Int},efK k d=true->0<=L->0<=plK k d L->((exT k d).length:Int)<=20*(L - plK k d L)
 | 0,d,L,h,_,_=>by cases h
 | k+1,d,L,h,hL,hp=>by
  obtain ⟨h1,h2,h3,h4,h5,h6,h7⟩:=Dz h;unfold exT;by_cases k1:gI 0 d=1
  ·rw [if_pos k1] at h3 h4 ⊢
   rw [if_pos (by omega)] at h6;have h40:gL 4 d=[]:=List.eq_nil_of_length_eq_zero h6;simp only [plK,h40,List.foldl_nil] at hp ⊢;have:=OJ h3 h4;omega
  rw [if_neg k1];by_cases k2:gI 0 d=2
  ·rw [if_pos k2]
   rw [if_pos (by omega)] at h6;have h40:gL 4 d=[]:=List.eq_nil_of_length_eq_zero h6;have hx:nmS (gZ 3 d)=true:=by simpa [nfS,k2] using h5
   simp only [plK,h40,List.foldl_nil] at hp ⊢;have:=CP hx;omega
  rw [if_neg k2];rw [if_neg (by omega)] at h6;obtain ⟨a,b,f⟩:=QJ h6;rw [f] at h7;simp only [plK,f,List.foldl_cons,List.foldl_nil] at hp ⊢;have g:¬ L - 1 < 0:=fun c=>by
   rw [if_pos c,if_pos c] at hp;omega
  rw [if_neg g] at hp ⊢;have r:=N9 k a (L - 1) (by omega);have i:¬ plK k a (L - 1) < 0:=fun c=>by
   rw [if_pos c] at hp;omega
  rw [if_neg i] at hp ⊢;have n:=Jo (h7 a (by simp)) (by omega) (by omega:0<=plK k a (L - 1));have l:=Jo (h7 b (by simp)) (by omega) hp;have j:=Ir (gI 0 d);simp only [List.map_cons,List.map_nil,AB,List.length_append,List.length_cons,List.length_nil];omega
theorem A7 {k:Nat} {d:D} (h:efK k d=true) (hl:Cm k d=false):(exT k d).length<=300:=by
 have a:0<=plK k d 15:=by unfold Cm at hl;simpa using hl
 have:=Jo (L:=15) h (by omega) a;omega
theorem FR (n:Nat):(inT n).length=2*n:=by
 induction n with
 | zero=>rfl
 | succ n ih=>
  have e:inT (n+1)=[32,32]++inT n:=by simp [inT,List.replicate_succ]
  rw [e,List.length_append,ih];simp only [List.length_cons,List.length_nil];omega
theorem Eh {x:List UInt8} {b:Bool} (h:nfS x b=true):x.length<=12:=by
 cases b with
 | true=>exact CP h
 | false=>rw [QY h];decide
theorem Ju {ke:Nat}:∀ {kc:Nat} {l:List D} {deep:Nat} {left:Int},-1<=left->left<=50->(∀ s∈l,sfK ke kc s=true)->0<=slK ke kc l deep left->((AO ke kc deep l).length:Int)<=2000*(left - slK ke kc l deep left)
 | kc,[],deep,left,_,_,_,h0=>by rw [PH];simp [AO]
 | 0,s::l,deep,left,_,_,h,_=>by have:=h s (by simp);cases this
 | k+1,s::l,deep,left,hl1,hl2,h,h0=>by
  obtain ⟨F,hF⟩:∃ F,F=slF ke (fun l left=>slK ke k l ((deep:Int)+1) left) deep:=⟨_,rfl⟩;have e0:∀ (m:List D),slK ke (k+1) m deep left=(m.foldl F (left,false)).1:=fun m=>by rw [hF];rfl
  rw [e0] at h0 ⊢;have stuck:∀ (m:List D) (x:Int),(m.foldl F (x,true)).1=x:=by
   intro m
   induction m with
   | nil=>intro x;rfl
   | cons a m ih=>intro x;rw [List.foldl_cons,show F (x,true) a=(x,true) by rw [hF];simp [slF]];exact ih x
  have n:∀ (m:List D) (x:Int),(∀ s∈m,sfK ke (k+1) s=true)->-1<=x->x<=50->0<=(m.foldl F (x,false)).1->0<=x/\((AO ke (k+1) deep m).length:Int)<=2000*(x - (m.foldl F (x,false)).1):=by
   intro m
   induction m with
   | nil=>intro x _ h1 Z R;exact ⟨R,by simp [AO]⟩
   | cons a m ih=>
    intro x u L K j;rw [List.foldl_cons] at j ⊢;by_cases hb:x - 1 < 0\/6 < (deep:Int)\/CR ke a=true
    ·have e:F (x,false) a=(-1,true):=by rw [hF];unfold slF;rw [if_neg (by simp),if_pos hb]
     rw [e,stuck] at j;omega
    ·have e:F (x,false) a=(slK ke k (gL 7 a) ((deep:Int)+1) (slK ke k (gL 6 a) ((deep:Int)+1) (x - 1)),false):=by rw [hF];unfold slF;rw [if_neg (by simp),if_neg hb]
     rw [e] at j ⊢;simp only [not_or] at hb;have b6:=EH ke k (gL 6 a) ((deep:Int)+1) (x - 1) (by omega) (by omega);have b7:=EH ke k (gL 7 a) ((deep:Int)+1) (slK ke k (gL 6 a) ((deep:Int)+1) (x - 1)) (by omega) (by omega);obtain ⟨B,Y⟩:=ih _ (fun s M=>u s (List.mem_cons_of_mem _ M)) (by omega) (by omega) j;have Q:0<=slK ke k (gL 6 a) ((deep:Int)+1) (x - 1):=by
      rcases Int.lt_or_le (slK ke k (gL 6 a) ((deep:Int)+1) (x - 1)) 0 with hn | hn
      ·rw [show slK ke k (gL 6 a) ((deep:Int)+1) (x - 1)=-1 by omega,E5] at B;omega
      ·exact hn
     refine ⟨by omega,?_⟩;have P:=u a (by simp);obtain ⟨p1,I,H,A,G,E,C⟩:=D4 P;have U:=Ju (deep:=deep+1) (by omega) (by omega) (Cp E) Q;have T:=Ju (deep:=deep+1) (by omega) (by omega) (Cp C) B;have v:((deep+1:Nat):Int)=(deep:Int)+1:=by omega
     rw [v] at U T;have i:CR ke a=false:=by simpa using hb.2.2
     simp only [CR,Bool.or_eq_false_iff,decide_eq_false_iff_not] at i;obtain ⟨⟨g4,gE⟩,S⟩:=i;have c:=FR deep;have W:=Eh I;have V:=Eh H;have le:Ft (gI 0 a)=true->(exT ke (gD 4 a)).length<=300:=fun N=>by
      rw [if_pos N] at A;exact A7 A gE
     have X:(AB [44,32] ((gL 5 a).map (exT ke))).length<=1208:=by
      have:=Cd [44,32] 300 ((gL 5 a).map (exT ke)) fun y g=>by
       obtain ⟨b,hb,rfl⟩:=List.mem_map.1 g;exact A7 (Cp G b hb) (by have:=List.any_eq_false.1 S b hb;simpa using this)
      rw [List.length_map] at this;have u:(gL 5 a).length*(300+2)<=4*(300+2):=Nat.mul_le_mul_right _ (by omega);simp only [List.length_cons,List.length_nil] at this;omega
     have J:((cmT ke (k+1) deep a).length:Int)<=2000+(AO ke k (deep+1) (gL 6 a)).length+(AO ke k (deep+1) (gL 7 a)).length:=by
      have O:deep<=6:=by omega
      unfold cmT;dsimp only;rcases Fe p1 with ek | ek | ek | ek | ek | ek | ek | ek;all_goals rw [ek] at le ⊢
      ·have:=le rfl
       simp only [if_true,List.length_append,List.length_cons,List.length_nil,c];omega
      ·rw [if_neg (by decide),if_pos rfl];simp only [List.length_append,List.length_cons,List.length_nil,c];omega
      ·rw [if_neg (by decide),if_neg (by decide),if_pos rfl];simp only [List.length_append,List.length_cons,List.length_nil,c];omega
      ·have:=le rfl
       rw [if_neg (by decide),if_neg (by decide),if_neg (by decide),if_pos rfl];simp only [List.length_append,List.length_cons,List.length_nil,c];omega
      ·have:=le rfl
       rw [if_neg (by decide),if_neg (by decide),if_neg (by decide),if_neg (by decide),if_pos rfl];simp only [List.length_append,List.length_cons,List.length_nil,c];omega
      ·have:=le rfl
       rw [if_neg (by decide),if_neg (by decide),if_neg (by decide),if_neg (by decide),if_neg (by decide),if_pos rfl];simp only [List.length_append,List.length_cons,List.length_nil,c];omega
      ·have:=le rfl
       rw [if_neg (by decide),if_neg (by decide),if_neg (by decide),if_neg (by decide),if_neg (by decide),if_neg (by decide),if_pos rfl];have r:((if gL 7 a=[] then [] else inT deep++[125,32,101,108,115,101,32,123,10]++((gL 7 a).map (cmT ke k (deep+1))).flatten):List UInt8).length<=2*deep+9+(AO ke k (deep+1) (gL 7 a)).length:=by
        split
        ·exact Nat.zero_le _
        ·simp only [List.length_append,List.length_cons,List.length_nil,c,AO];omega
       have g:((gL 6 a).map (cmT ke k (deep+1))).flatten.length=(AO ke k (deep+1) (gL 6 a)).length:=rfl;simp only [List.length_append,List.length_cons,List.length_nil,c,g];simp only [List.append_assoc] at r ⊢;omega
      ·have:=le rfl
       rw [if_neg (by decide),if_neg (by decide),if_neg (by decide),if_neg (by decide),if_neg (by decide),if_neg (by decide),if_neg (by decide)];have r:((if gL 7 a=[] then [] else inT deep++[125,32,101,108,115,101,32,123,10]++((gL 7 a).map (cmT ke k (deep+1))).flatten):List UInt8).length<=2*deep+9+(AO ke k (deep+1) (gL 7 a)).length:=by
        split
        ·exact Nat.zero_le _
        ·simp only [List.length_append,List.length_cons,List.length_nil,c,AO];omega
       have g:((gL 6 a).map (cmT ke k (deep+1))).flatten.length=(AO ke k (deep+1) (gL 6 a)).length:=rfl;simp only [List.length_append,List.length_cons,List.length_nil,c,g];simp only [List.append_assoc] at r ⊢;omega
     have f:(AO ke (k+1) deep (a::m)).length=(cmT ke (k+1) deep a).length+(AO ke (k+1) deep m).length:=by simp [AO]
     rw [f];omega
  exact (n (s::l) left h hl1 hl2 h0).2
theorem E8 {p:D} (h:DC p=true) (h6:(gL 3 p).length<=6):(poT p).length<=100:=by
 obtain ⟨i,g⟩:=Fr h;have l1:=CP i;have a:=Cd [44,32] 12 ((gL 3 p).map asS) fun y c=>by
  obtain ⟨b,f,rfl⟩:=List.mem_map.1 c;exact CP (g b f)
 rw [List.length_map] at a;have l:(gL 3 p).length*(12+2)<=6*(12+2):=Nat.mul_le_mul_right _ h6;simp only [List.length_cons,List.length_nil] at a;unfold poT;have j:(if gB 2 p=true then ([33]:List UInt8) else [58]).length=1:=by split <;> rfl
 have n:(if gL 3 p=[] then ([]:List UInt8) else [32]++AB [44,32] ((gL 3 p).map asS)).length<=1+(6*14):=by
  split
  ·exact Nat.zero_le _
  ·simp only [List.length_append,List.length_cons,List.length_nil];omega
 simp only [List.length_append,j];omega
theorem Jd {d:D} (h:Ew d=true) (h4:(gL 5 d).length<=4) (h6:∀ p∈gL 5 d,(gL 3 p).length<=6):(laT d).length<=420:=by
 unfold laT;split
 ·rename_i i
  have g:=((CF h).1 i).2;have a:=Cd [59,32] 100 ((gL 5 d).map poT) fun y f=>by
   obtain ⟨b,c,rfl⟩:=List.mem_map.1 f;exact E8 (g b c) (h6 b c)
  rw [List.length_map] at a;have j:(gL 5 d).length*(100+2)<=4*(100+2):=Nat.mul_le_mul_right _ h4;simp only [List.length_append,List.length_cons,List.length_nil] at a ⊢;omega
 ·exact Nat.zero_le _
theorem L5 (k:Int):(wdT k).length<=6:=by
 unfold wdT;split
 ·decide
 split
 ·decide
 split
 ·decide
 split
 ·decide
 split
 ·decide
 split
 ·decide
 ·decide
theorem Rx {ke kc:Nat} {d:D} (h:dfK ke kc d=true) (hm:CS ke d=false):(deT ke kc d).length<=1000+(AO ke kc 1 (gL 7 d)).length:=by
 obtain ⟨H,G,v,u,r,a⟩:=Ff h;simp only [CS,Bool.or_eq_false_iff,decide_eq_false_iff_not] at hm;obtain ⟨⟨⟨A,x⟩,g⟩,f⟩:=hm;have C:=CP v;have B:=Eh u;have E:=L5 (gI 0 d);have i:=L5 7;unfold deT;by_cases k7:gI 0 d=7
 ·rw [if_pos k7]
  simp only [Ez,k7,if_true,Bool.and_eq_true,List.all_eq_true] at a;have le:=A7 a.2 g;have c:=Cd [44,32] 12 ((gL 6 d).map asS) fun y j=>by
   obtain ⟨b,n,rfl⟩:=List.mem_map.1 j;exact CP (a.1.1 b n)
  rw [List.length_map] at c;have hm:(gL 6 d).length*(12+2)<=4*(12+2):=Nat.mul_le_mul_right _ (by omega);simp only [List.length_append,List.length_cons,List.length_nil] at c ⊢;omega
 ·rw [if_neg k7]
  have F:=Jd r (by omega) fun p l=>by
   have:=List.any_eq_false.1 f p l;simp only [decide_eq_true_eq] at this;omega
  have I:(if gI 0 d=2 then [32]++gZ 3 d else ([]:List UInt8)).length<=13:=by
   split
   ·simp only [List.length_append,List.length_cons,List.length_nil];omega
   ·exact Nat.zero_le _
  simp only [List.length_append,List.length_cons,List.length_nil];omega
theorem NC {ke kc:Nat} {ds l:List D} (h:ckT ke kc ds l=0):(trT ke kc ds l).length<=200000:=by
 obtain ⟨J,I,-⟩:=Hk h;unfold ckT at h;split at h
 ·cases h
 rename_i a;simp only [Es,Bool.or_eq_true,decide_eq_true_eq,not_or,Int.not_lt] at a;obtain ⟨⟨hn,-⟩,i⟩:=a;have n:∀ (r:List D),r.foldl (fun left d=>slK ke kc (gL 7 d) 1 left) (-1)=-1:=by
  intro r
  induction r with
  | nil=>rfl
  | cons d r ih=>rw [List.foldl_cons,E5];exact ih
 have u:∀ (r:List D) (x:Int),(∀ d∈r,d∈ds)->-1<=x->x<=50->0<=r.foldl (fun left d=>slK ke kc (gL 7 d) 1 left) x->r.foldl (fun left d=>slK ke kc (gL 7 d) 1 left) x<=50/\(((r.map (deT ke kc)).flatten.length:Nat):Int)<=1000*r.length+2000*(x - r.foldl (fun left d=>slK ke kc (gL 7 d) 1 left) x):=by
  intro r
  induction r with
  | nil=>intro x _ f g j;exact ⟨g,by simp⟩
  | cons d r ih=>
   intro x hr f g j;rw [List.foldl_cons] at j ⊢;have b:=EH ke kc (gL 7 d) 1 x f g;have G:0<=slK ke kc (gL 7 d) 1 x:=by
    rcases Int.lt_or_le (slK ke kc (gL 7 d) 1 x) 0 with hn | hn
    ·rw [show slK ke kc (gL 7 d) 1 x=-1 by omega,n] at j
     omega
    ·exact hn
   obtain ⟨B,L⟩:=ih _ (fun c E=>hr c (List.mem_cons_of_mem _ E)) (by omega) (by omega) j;obtain ⟨p1,A,y⟩:=J d (hr d (by simp));have M:=Rx p1 A;have K:=Ju (deep:=1) f g (fun s C=>(y s C).1) G;have v:((1:Nat):Int)=1:=rfl;rw [v] at K;refine ⟨B,?_⟩;simp only [List.map_cons,List.flatten_cons,List.length_append,List.length_cons];omega
 have H:0<=ds.foldl (fun left d=>slK ke kc (gL 7 d) 1 left) 50:=by
  rcases Int.lt_or_le (ds.foldl (fun left d=>slK ke kc (gL 7 d) 1 left) 50) 0 with hn | hn
  ·have F:∀ (r:List D) (x:Int),-1<=x->x<=50->-1<=r.foldl (fun left d=>slK ke kc (gL 7 d) 1 left) x:=by
    intro r
    induction r with
    | nil=>intro x f _;exact f
    | cons d r ih=>
     intro x f g;have b:=EH ke kc (gL 7 d) 1 x f g;rw [List.foldl_cons];exact ih _ (by omega) (by omega)
   have:=F ds 50 (by omega) (by omega);rw [show ds.foldl (fun left d=>slK ke kc (gL 7 d) 1 left) 50=-1 by omega,E5] at i;omega
  ·exact hn
 obtain ⟨k1,k2⟩:=u ds 50 (fun d h=>h) (by omega) (by omega) H;have k3:=Ju (deep:=1) (by omega) k1 I i;have v:((1:Nat):Int)=1:=rfl;rw [v] at k3;unfold trT;simp only [List.length_append,List.length_cons,List.length_nil];omega
abbrev HT (w:World):Prop:=Lib.TabIs Tryz.prog w "internal/strconv.uint64pow10" .u64 Lib.pow10Tab
theorem Rb:∃ g,Tryz.prog.globalNamed "internal/strconv.uint64pow10" = some g:=Option.isSome_iff_exists.1 (by kernel_rfl)
theorem HT.up {B:Nat} {w w':World} (h:HT w) (hb:Below B w w') (hB:w.heap.size<=B):HT w':=by
 obtain ⟨g,a⟩:=Rb;exact Joins.tab_stays a h hb hB
theorem HT.over {w w':World} (h:HT w) (hb:Ov w w'):HT w':=h.up hb (Nat.le_refl _)
theorem Q7 (n:Int) (h0:-9223372036854775808<=n) (h1:n<=9223372036854775807) (w:World) (h:HT w):Ro 164 #[O zc n] w (.string ⟨(Lib.itoa n).toArray⟩):=
 (Tryz.strconv_Itoa n h0 h1 w h).mono fun e w' hh=>⟨hh.1,by obtain ⟨-,k,os,rfl⟩:=hh;exact Lib.below_grow _ w (Nat.le_refl _) k os⟩
theorem Lx (k:Int) (w:World):Ro 165 #[O zc k] w (.string ⟨(BP k).toArray⟩):=by
 by_cases k3:k=3
 ·subst k3
  go_enter Tryz.func165,Tryz.ntmps165;go_wp2_with fail;go_ret;exact ⟨rfl,Below.refl _ _⟩
 by_cases k4:k=4
 ·subst k4
  go_enter Tryz.func165,Tryz.ntmps165;go_wp2_with fail;go_ret;exact ⟨rfl,Below.refl _ _⟩
 by_cases k5:k=5
 ·subst k5
  go_enter Tryz.func165,Tryz.ntmps165;go_wp2_with fail;go_ret;exact ⟨rfl,Below.refl _ _⟩
 by_cases k6:k=6
 ·subst k6
  go_enter Tryz.func165,Tryz.ntmps165;go_wp2_with fail;go_ret;exact ⟨rfl,Below.refl _ _⟩
 have e:BP k=[32,61,61,32]:=by unfold BP;rw [if_neg k3,if_neg k4,if_neg k5,if_neg k6]
 rw [e];go_enter Tryz.func165,Tryz.ntmps165;go_wp2_with fail;go_ret;exact ⟨rfl,Below.refl _ _⟩
theorem Oy (x:ByteArray) (w:World):Ro 163 #[.string x] w (.string x):=by
 go_enter Tryz.func163,Tryz.ntmps163;go_wp2_with fail;go_ret;exact ⟨rfl,Below.refl _ _⟩
theorem Mr (ns:List ByteArray) (ao:Option Addr) (nn cap:Nat) (w:World) (hnn:nn=ns.length) (hc:LS 1 ZN w (zd ao nn cap) ns) (hn:nn<=100) (hf:∀ x∈ns,x.size<=700):Ro 148 #[zd ao nn cap] w (.string ⟨(AB [44,32] (ns.map (fun y=>y.data.toList))).toArray⟩):=by
 obtain ⟨fin,a⟩:=nm (⟨(AB [44,32] (ns.map (fun y=>y.data.toList))).toArray⟩:ByteArray);rw [<-a];have f:Hx (Ro 162 #[zd ao nn cap,.string ⟨#[44,32]⟩,.func (.func 163) #[] #[]] w (.string fin)):=by
  rw [a];exact LT 163 (fun b w=>by simp [go_sem]) (fun x=>x) ns ⟨#[44,32]⟩ ao nn cap w hnn hc hn hf (by decide) (by decide) fun x _ X _=>Oy x X
 clear a hnn hc hf;go_enter Tryz.func148,Tryz.ntmps148;go_wp2_with fail;refine mo f.o fun g c=>?_;go_wp2_with fail;go_ret;exact ⟨rfl,c⟩
theorem Nh (a n:Int) (x:ByteArray) (ao:Option Addr) (m c:Nat) (T:ByteArray) (w:World) (KD:Hx (∀ X,Ov w X->Ro 164 #[O zc n] X (.string T))):Ro 149 #[zf #[O zc 1,O zc a,O zc n,.string x,zd ao m c]] w (.string T):=by
 go_enter Tryz.func149,Tryz.ntmps149;go_wp2_with fail;refine mo (KD.o _ (bA w (zg #[O zc 1,O zc a,O zc n,.string x,zd ao m c] 49))) fun g b=>?_;have f:=Aa (Ab (bA w (zg #[O zc 1,O zc a,O zc n,.string x,zd ao m c] 49)) b);clear b;go_wp2_with fail;go_ret;exact ⟨rfl,f.o⟩
theorem LI (a n:Int) (x:ByteArray) (ao:Option Addr) (m c:Nat) (w:World):Ro 149 #[zf #[O zc 2,O zc a,O zc n,.string x,zd ao m c]] w (.string x):=by
 go_enter Tryz.func149,Tryz.ntmps149;go_wp2_with fail;go_ret;exact ⟨rfl,bA w (zg #[O zc 2,O zc a,O zc n,.string x,zd ao m c] 49)⟩
theorem OX (kd a n:Int) (x:ByteArray) (ao:Option Addr) (m c:Nat) (sg T:ByteArray) (w:World) (k1:¬ kd=1) (k2:¬ kd=2) (KO:Hx (∀ X,Ro 165 #[O zc kd] X (.string sg))) (KB:Hx (∀ X,Ov w X->Ro 150 #[zd ao m c,.string sg,.func (.func 149) #[] #[]] X (.string T))) (hT:T.size<=1000000) :
  Ro 149 #[zf #[O zc kd,O zc a,O zc n,.string x,zd ao m c]] w (.string (⟨#[40]⟩++T++⟨#[41]⟩)):=by
 obtain ⟨fin,f⟩:=nm ((⟨#[40]⟩:ByteArray)++T++⟨#[41]⟩);rw [<-f];have A:=Aa f;obtain ⟨V,i⟩:=nm (w.alloc (zg #[O zc kd,O zc a,O zc n,.string x,zd ao m c] 49));have l:=aov i;have v:=rc5 (alq i);rw [<-i] at v;have s1:¬ 9223372036854775807 < 1+T.size:=by omega
 have B:¬ 9223372036854775807 < 1+T.size+1:=by omega
 clear f;go_enter Tryz.func149,Tryz.ntmps149;go_wp2_with fail;rw [<-i];clear i;refine Go.Proofs.YtipngnjffjajpaaGreatDoor.gS (fun y=>Below V.heap.size V y) (Below.refl _ _).drew fun b=>?_;generalize V.drew=W at b ⊢;refine kO 0 ?_;refine kO 1 ?_;refine kO 2 ?_;refine kO 3 ?_;refine rdA 4 rfl fun K j=>?_;go_simp;refine mo (KO.o _) fun E g=>?_;have u:=Aa (Ab b g);clear g b KO;go_simp;refine xK j (u.o) fun b=>?_;clear j K;refine rdA 5 rfl fun K j=>?_;go_simp;refine mo (KB.o _ (Ab l.o b)) fun C g=>?_;have r:=Aa (Ab b g);clear g b KB;go_simp;refine xK j (r.o) fun b=>?_;clear j K;refine kO 6 ?_;refine kO 7 ?_;refine kO 8 ?_;refine gE ?_;go_wp2_with fail;go_ret;exact ⟨by rw [A.o];rfl,Ab l.o b⟩
theorem Oi (T:List UInt8):((⟨#[40]⟩:ByteArray)++⟨T.toArray⟩++⟨#[41]⟩)=⟨([40]++T++[41]).toArray⟩:=by
 apply ByteArray.ext;simp
theorem IJ (x a:List UInt8):∀ (l:List (List UInt8)),a∈l->a.length<=(AB x l).length
 | [],h=>by cases h
 | [b],h=>by simp only [List.mem_singleton] at h;subst h;exact Nat.le_refl _
 | b::c::l,h=>by
  simp only [AB,List.length_append];rcases List.mem_cons.1 h with rfl | h
  ·omega
  ·have:=IJ x a (c::l) h
   omega
theorem GH:∀ (k:Nat) (cs:List Value) (d:D) (w:World),HT w->ZE w k cs d->efK k d=true->(exT k d).length<=700->Ro 149 #[.agg cs.toArray] w (.string ⟨(exT k d).toArray⟩)
 | 0,cs,d,w,_,h,_,_=>h.elim
 | k+1,cs,d,w,ht,h,hf,hl=>by
  obtain ⟨kd,a,n,x,ao,c,ds,rfl,rfl,hx,hc⟩:=h;obtain ⟨h1,h2,h3,h4,h5,h6,h7⟩:=Dz hf;simp only [gEe] at h1 h2 h3 h4 h5 h6 h7;have hT:exT (k+1) (eD kd a n x ds)=if kd=1 then Lib.itoa n else if kd=2 then x.data.toList else [40]++AB (BP kd) (ds.map (exT k))++[41]:=by simp only [exT,gEe]
  rw [hT] at hl ⊢;by_cases k1:kd=1
  ·subst k1
   rw [if_pos rfl] at h3 h4 ⊢;exact Nh a n x ao ds.length c _ w fun X g=>Q7 n (by omega) (by omega) X (ht.over g)
  rw [if_neg k1] at hl ⊢;by_cases k2:kd=2
  ·subst k2
   rw [if_pos rfl,GK];exact LI a n x ao ds.length c w
  rw [if_neg k2] at hl ⊢;rw [if_neg (by omega)] at h6;have i:(AB (BP kd) (ds.map (exT k))).length<=700:=by
   simp only [List.length_append,List.length_cons,List.length_nil] at hl;omega
  have f:∀ d∈ds,(exT k d).length<=700:=fun d f=>Nat.le_trans (IJ _ _ _ (List.mem_map_of_mem f)) i;rw [<-Oi];refine OX kd a n x ao ds.length c ⟨(BP kd).toArray⟩ _ w k1 k2 (fun X=>Lx kd X) (fun X g=>?_) (by rw [A8];omega);have v:(BP kd).toArray.size=(BP kd).length:=by simp
  have r:0 < (BP kd).length/\(BP kd).length<=8:=by
   refine ⟨?_,Nat.le_trans (Ir kd) (by decide)⟩;unfold BP;split
   ·decide
   split
   ·decide
   split
   ·decide
   split <;> decide
  have:=Hm (k:=k) 149 (fun j w=>by simp [go_sem]) (fun d=>⟨(exT k d).toArray⟩) ds ⟨(BP kd).toArray⟩ ao ds.length c X rfl (BQ g hc) (by omega) (fun d b=>by rw [A8];exact f d b) (by show 0 < (BP kd).toArray.size;omega) (by show (BP kd).toArray.size<=8;omega) (fun d b cs Y u l=>GH k cs d Y ((ht.over g).over u) l (h7 d b) (f d b));simpa using this
theorem IY (a:Int) (o:ByteArray) (wr:Bool) (an:Option Addr) (c:Nat) (w:World) (ho:o.size<=700):Ro 147 #[zf #[O zc a,.string o,ze wr,zd an 0 c]] w (.string (o++(bif wr then ⟨#[33]⟩ else ⟨#[58]⟩))):=by
 have s1:¬ 9223372036854775807 < o.size+1:=by omega
 cases wr
 ·go_enter Tryz.func147,Tryz.ntmps147
  go_wp2_with fail;go_ret;exact ⟨rfl,bA w (zg #[O zc a,.string o,ze false,zd an 0 c] 53)⟩
 ·go_enter Tryz.func147,Tryz.ntmps147
  go_wp2_with fail;go_ret;exact ⟨rfl,bA w (zg #[O zc a,.string o,ze true,zd an 0 c] 53)⟩
theorem IX (a:Int) (o:ByteArray) (wr:Bool) (an:Option Addr) (m c:Nat) (T:ByteArray) (w:World) (ho:o.size<=700) (hm:0 < m) (hT:T.size<=10000) (KN:Hx (∀ X,Ov w X->Ro 148 #[zd an m c] X (.string T))):Ro 147 #[zf #[O zc a,.string o,ze wr,zd an m c]] w (.string (o++(bif wr then ⟨#[33]⟩ else ⟨#[58]⟩)++⟨#[32]⟩++T)):=by
 have s1:¬ 9223372036854775807 < o.size+1:=by omega
 have n:¬ 9223372036854775807 < o.size+1+1:=by omega
 have l:¬ 9223372036854775807 < o.size+1+1+T.size:=by omega
 have j:¬ (m:Int)=0:=by omega
 have i:¬ m=0:=by omega
 clear hm;cases wr
 ·skip
  go_enter Tryz.func147,Tryz.ntmps147;go_wp2_with fail;refine mo (KN.o _ (bA w (zg #[O zc a,.string o,ze false,zd an m c] 53))) fun g b=>?_;have f:=Aa (Ab (bA w (zg #[O zc a,.string o,ze false,zd an m c] 53)) b);clear b KN;go_wp2_with fail;go_ret;exact ⟨rfl,f.o⟩
 ·skip
  go_enter Tryz.func147,Tryz.ntmps147;go_wp2_with fail;refine mo (KN.o _ (bA w (zg #[O zc a,.string o,ze true,zd an m c] 53))) fun g b=>?_;have f:=Aa (Ab (bA w (zg #[O zc a,.string o,ze true,zd an m c] 53)) b);clear b KN;go_wp2_with fail;go_ret;exact ⟨rfl,f.o⟩
theorem MO (cs:List Value) (d:D) (w:World) (h:ZP w cs d) (hf:DC d=true) (h6:(gL 3 d).length<=6):Ro 147 #[.agg cs.toArray] w (.string ⟨(poT d).toArray⟩):=by
 obtain ⟨a,o,wr,l,j,b,rfl,rfl,F,A⟩:=h;obtain ⟨r,n⟩:=Fr hf;have c:(poT (DD a o wr b)).length<=100:=E8 hf h6;simp only [gPp,List.length_map] at r n h6;have v:o.size<=12:=CP r;have g:∀ x∈b,x.size<=700:=fun x u=>by
  have:=CP (n (dS x) (List.mem_map_of_mem u));rw [Gg] at this;exact Nat.le_trans this (by decide)
 have f:(b.map dS).map asS=b.map (fun y=>y.data.toList):=by rw [List.map_map];rfl
 have E:poT (DD a o wr b)=o.data.toList++(if wr=true then [33] else [58])++(if b=[] then [] else [32]++AB [44,32] (b.map (fun y=>y.data.toList))):=by
  unfold poT;simp only [gPp,f,List.map_eq_nil_iff]
 rw [E] at c ⊢;by_cases h0:b=[]
 ·subst h0
  have:=IY a o wr l j w (by omega);have e:(o++(bif wr then ⟨#[33]⟩ else ⟨#[58]⟩):ByteArray)=⟨(o.data.toList++(if wr=true then ([33]:List UInt8) else [58])++(if ([]:List ByteArray)=[] then ([]:List UInt8) else [32]++AB [44,32] (([]:List ByteArray).map (fun y:ByteArray=>y.data.toList)))).toArray⟩:=by
   apply ByteArray.ext;apply Array.toList_inj.1;cases wr <;> simp
  rw [<-e];exact this
 ·rw [if_neg h0] at c ⊢
  have i:0 < b.length:=List.length_pos_iff.2 h0;have C:(AB [44,32] (b.map (fun y=>y.data.toList))).length<=100:=by
   simp only [List.length_append] at c;omega
  have:=IX a o wr l b.length j ⟨(AB [44,32] (b.map (fun y=>y.data.toList))).toArray⟩ w (by omega) i (by rw [A8];omega) fun X B=>Mr b l b.length j X rfl (Bu B A) (by omega) g;have e:(o++(bif wr then ⟨#[33]⟩ else ⟨#[58]⟩)++⟨#[32]⟩++⟨(AB [44,32] (b.map (fun y=>y.data.toList))).toArray⟩:ByteArray)=⟨(o.data.toList++(if wr=true then ([33]:List UInt8) else [58])++([32]++AB [44,32] (b.map (fun y:ByteArray=>y.data.toList)))).toArray⟩:=by
   apply ByteArray.ext;apply Array.toList_inj.1;cases wr <;> simp
  rw [<-e];exact this
theorem Kf (kd a:Int) (x y:ByteArray) (aL:Option Addr) (nL cL:Nat) (aP:Option Addr) (nP cP:Nat) (aB:Option Addr) (nB cB:Nat) (e0 e1 e2:Int) (e3:ByteArray) (q:Option Addr) (q1 q2:Nat) (w:World):Ro 122 #[zf #[O zc kd,O zc a,.string x,.string y,ze false,zd aL nL cL,zd aP nP cP,zd aB nB cB,O zc e0,O zc e1,O zc e2,.string e3,zd q q1 q2]] w (.string ⟨#[]⟩):=by
 go_enter Tryz.func122,Tryz.ntmps122;go_wp2_with fail;go_ret;exact ⟨rfl,bA w (zg #[O zc kd,O zc a,.string x,.string y,ze false,zd aL nL cL,zd aP nP cP,zd aB nB cB,O zc e0,O zc e1,O zc e2,.string e3,zd q q1 q2] 51)⟩
theorem Ke (kd a:Int) (x y:ByteArray) (aL:Option Addr) (nL cL:Nat) (aP:Option Addr) (nP cP:Nat) (aB:Option Addr) (nB cB:Nat) (e0 e1 e2:Int) (e3:ByteArray) (q:Option Addr) (q1 q2:Nat) (T:ByteArray) (w:World) (hT:T.size<=10000) (KP:Hx (∀ X,Ov w X->Ro 146 #[zd aL nL cL,.string ⟨#[59,32]⟩,.func (.func 147) #[] #[]] X (.string T))):Ro 122 #[zf #[O zc kd,O zc a,.string x,.string y,ze true,zd aL nL cL,zd aP nP cP,zd aB nB cB,O zc e0,O zc e1,O zc e2,.string e3,zd q q1 q2]] w (.string (⟨#[32,123]⟩++T++⟨#[125]⟩)):=by
 have s1:¬ 9223372036854775807 < 2+T.size:=by omega
 have g:¬ 9223372036854775807 < 2+T.size+1:=by omega
 go_enter Tryz.func122,Tryz.ntmps122;go_wp2_with fail;refine mo (KP.o _ (bA w (zg #[O zc kd,O zc a,.string x,.string y,ze true,zd aL nL cL,zd aP nP cP,zd aB nB cB,O zc e0,O zc e1,O zc e2,.string e3,zd q q1 q2] 51))) fun f b=>?_;have c:=Aa (Ab (bA w (zg #[O zc kd,O zc a,.string x,.string y,ze true,zd aL nL cL,zd aP nP cP,zd aB nB cB,O zc e0,O zc e1,O zc e2,.string e3,zd q q1 q2] 51)) b);clear b KP;go_wp2_with fail;go_ret;exact ⟨rfl,c.o⟩
theorem OC (kd a:Int) (x y:ByteArray) (gv:Bool) (aL:Option Addr) (cL:Nat) (lb:List D) (aP:Option Addr) (cP:Nat) (nP:Nat) (aB:Option Addr) (nB cB:Nat) (e0 e1 e2:Int) (e3:ByteArray) (q:Option Addr) (q1 q2:Nat) (d:D) (w:World) (h4:gB 4 d=gv) (h5:gL 5 d=lb) (hf:Ew d=true) (hn:lb.length<=4) (h6:∀ p∈lb,(gL 3 p).length<=6) (hc:LS 4 (ZP w) w (zd aL lb.length cL) lb):Ro 122 #[zf #[O zc kd,O zc a,.string x,.string y,ze gv,zd aL lb.length cL,zd aP nP cP,zd aB nB cB,O zc e0,O zc e1,O zc e2,.string e3,zd q q1 q2]] w (.string ⟨(laT d).toArray⟩):=by
 have b:(laT d).length<=420:=Jd hf (by rw [h5];exact hn) (by rw [h5];exact h6);unfold laT at b ⊢;rw [h4,h5] at b;rw [h4,h5]
 cases gv with
 | false=>exact Kf kd a x y aL lb.length cL aP nP cP aB nB cB e0 e1 e2 e3 q q1 q2 w
 | true=>
  have f:=((CF hf).1 h4).2;rw [h5] at f;rw [if_pos rfl] at b ⊢;have l:(AB [59,32] (lb.map poT)).length<=420:=by
   simp only [List.length_append] at b;omega
  have:=Ke kd a x y aL lb.length cL aP nP cP aB nB cB e0 e1 e2 e3 q q1 q2 ⟨(AB [59,32] (lb.map poT)).toArray⟩ w (by rw [A8];omega) fun X j=>by
   have:=LU 147 (fun g w=>by simp [go_sem]) (fun d=>⟨(poT d).toArray⟩) lb ⟨#[59,32]⟩ aL lb.length cL X rfl (Dj j hc) (by omega) (fun p c=>by rw [A8];exact Nat.le_trans (E8 (f p c) (h6 p c)) (by decide)) (by decide) (by decide) (fun p c n Y r i=>MO n p Y i (f p c) (h6 p c));simpa using this
  have e:(⟨#[32,123]⟩++⟨(AB [59,32] (lb.map poT)).toArray⟩++⟨#[125]⟩:ByteArray)=⟨([32,123]++AB [59,32] (lb.map poT)++[125]).toArray⟩:=by
   apply ByteArray.ext;simp
  rw [<-e];exact this
def AE (B b:Nat) (deep:Int) (l:List UInt8) (w:World) (e:Ending) (w':World):Prop:=e=zi (zj #[])/\Bf B b deep (Lib.byteCells l) w'/\Below B w w'/\Ax w w'
def L4 (g:Nat) (xs:List ByteArray) (w:World):Prop:=w.heap[g]? = some (.cells (xs.map Value.string).toArray 9 (0,0))
theorem L4.keep {g:Nat} {xs:List ByteArray} {w w':World} (h:L4 g xs w) (k:Ax w w'):L4 g xs w':=k g _ 9 _ h (by decide) (by decide)
theorem L4.cell {g:Nat} {xs:List ByteArray} {w:World} (h:L4 g xs w) {j:Nat} {x:ByteArray} (hx:xs[j]? = some x):w.cell? ⟨g,j,none⟩=some (.string x):=by
 rw [Lib.cell_of_heap h];simp [hx]
theorem Kl (n:Nat):inT (n+1)=inT n++[32,32]:=by
 unfold inT;rw [List.replicate_succ',List.flatten_append];rfl
def Gv (xs:List ByteArray):Nat:=(xs.map ByteArray.size).sum
theorem Kn (xs:List ByteArray):((xs.map (fun y=>y.data.toList)).flatten).length=Gv xs:=by
 induction xs with
 | nil=>rfl
 | cons x xs ih=>
  have e:x.data.toList.length=x.size:=rfl;simp only [Gv] at ih;simp only [Gv,List.map_cons,List.flatten_cons,List.length_append,List.sum_cons];omega
theorem NG (xs:List ByteArray) (j:Nat):((xs.take j).map (fun y=>y.data.toList)).flatten.length<=Gv xs:=by
 rw [<-Kn];have e:xs=xs.take j++xs.drop j:=(List.take_append_drop j xs).symm;have h:(xs.map (fun y:ByteArray=>y.data.toList)).flatten=((xs.take j).map (fun y=>y.data.toList)).flatten++((xs.drop j).map (fun y=>y.data.toList)).flatten:=by
  conv=>lhs;rw [e]
  rw [List.map_append,List.flatten_append]
 rw [h,List.length_append];omega
theorem Pt {xs:List ByteArray} {x:ByteArray} (h:x∈xs):x.size<=Gv xs:=by
 induction xs with
 | nil=>cases h
 | cons y xs ih=>
  simp only [Gv,List.map_cons,List.sum_cons];rcases List.mem_cons.1 h with rfl | h
  ·omega
  ·have:=ih h
   simp only [Gv] at this;omega
theorem Q5 (B b g dn nn:Nat) (l:List UInt8) (xs:List ByteArray) (w:World) (hnn:nn=xs.length) (hn:nn<=10) (hd:dn<=10) (hl:l.length<=1000000) (hx:Gv xs<=1000000) (hP:Bf B b dn (Lib.byteCells l) w) (hBw:B<=w.heap.size) (hR:L4 g xs w) :
  Calls Tryz.prog 86 #[zh (some ⟨b,0,none⟩),zd (some ⟨g,0,none⟩) nn nn] w (AE B b dn (l++(inT dn++(xs.map (fun y=>y.data.toList)).flatten++[10])) w):=by
 obtain ⟨fin,r⟩:=nm (l++(inT dn++(xs.map (fun y=>y.data.toList)).flatten++[10]));rw [<-r];have X:=Aa r;have U:=Aa hnn;have W:=Aa hP;have V:=Aa hR;have N:=Aa hBw;have T:=Aa hx;have S:=hP.cells.1;clear r hnn hP hR hBw hx;go_enter Tryz.func86,Tryz.ntmps86;go_wp2_with fail;go_loopw [10] (fun i wr=>∃ (j:Nat),j<=dn/\i=O zc j/\Hx (Bf B b dn (Lib.byteCells (l++inT j)) wr/\Below B w wr/\Ax w wr)) (fun i _=>dn - (intOf i).toNat)
 case atStart=>exact ⟨0,Nat.zero_le _,rfl,by show _/\_;exact ⟨by simpa [inT] using W.o,Below.refl _ _,Ax.refl _⟩⟩
 case round=>
  obtain ⟨j,hj,rfl,H⟩:=hrel;by_cases hjl:j < dn
  ·have L:(j:Int) < (dn:Int):=by omega
   have a:(Lib.byteCells (l++inT j)).length<=100000000:=by rw [Lib.byteCells_length,List.length_append,FR];omega
   have C:=Aa (RU B b dn _ ⟨#[32,32]⟩ wr H.o.1 a (by decide) (Nat.le_trans N.o H.o.2.1.size));clear a S;go_wp2_with fail;refine C.o.mono ?_;rintro e v ⟨rfl,u,f,c⟩;rw [Lib.strCells_eq,<-Lib.byteCells_append,List.append_assoc] at u;have Q:Hx (Bf B b dn (Lib.byteCells (l++inT (j+1))) v/\Below B w v/\Ax w v):=⟨Or.inr (by rw [Kl];exact u),H.o.2.1.trans f,H.o.2.2.trans c⟩;clear u f c C H;go_wp2_with fail;exact ⟨⟨j+1,by omega,by go_num,Q⟩,by simp [intOf];omega⟩
  ·have L:¬ (j:Int) < (dn:Int):=by omega
   obtain rfl:j=dn:=by omega
   clear S hjl;go_wp2_with fail;go_loopw [19] (fun i wr=>∃ (q:Nat),q<=nn/\i=O zc q/\Hx (Bf B b j (Lib.byteCells (l++(inT j++((xs.take q).map (fun y=>y.data.toList)).flatten))) wr/\Below B w wr/\Ax w wr)) (fun i _=>nn - (intOf i).toNat)
   case atStart=>exact ⟨0,Nat.zero_le _,rfl,by show _/\_;exact ⟨by simpa using H.o.1,H.o.2⟩⟩
   case round=>
    obtain ⟨q,Z,rfl,E⟩:=hrel;by_cases hql:q < nn
    ·have K:(q:Int) < (nn:Int):=by omega
     have A:q < xs.length:=by have:=U.o;omega
     have R:=(V.o.keep E.o.2.2).cell (List.getElem?_eq_getElem A);have I:=Pt (List.getElem_mem A);have F:((xs.take (q+1)).map (fun y=>y.data.toList)).flatten=((xs.take q).map (fun y=>y.data.toList)).flatten++xs[q].data.toList:=by
      rw [C8 xs q A,List.map_append,List.flatten_append];simp
     generalize xs[q]=x at R I F;have M:=T.o;have a:(Lib.byteCells (l++(inT j++((xs.take q).map (fun y=>y.data.toList)).flatten))).length<=100000000:=by
      have:=NG xs q;rw [Lib.byteCells_length,List.length_append,List.length_append,FR];omega
     have C:=Aa (RU B b j _ x wr E.o.1 a (by omega) (Nat.le_trans N.o E.o.2.1.size));have HT:=Aa F;clear a I M F A;go_wp2_with fail;refine C.o.mono ?_;rintro e v ⟨rfl,u,f,c⟩;rw [Lib.strCells_eq,<-Lib.byteCells_append,List.append_assoc,List.append_assoc,<-HT.o] at u;have P:Hx (Bf B b j (Lib.byteCells (l++(inT j++((xs.take (q+1)).map (fun y=>y.data.toList)).flatten))) v/\Below B w v/\Ax w v):=⟨Or.inr u,E.o.2.1.trans f,E.o.2.2.trans c⟩;clear u f c C E R HT;go_wp2_with fail;exact ⟨⟨q+1,by omega,by go_num,P⟩,by simp [intOf];omega⟩
    ·have K:¬ (q:Int) < (nn:Int):=by omega
     have n:xs.take q=xs:=List.take_of_length_le (by have:=U.o;omega);have G:=E.o;rw [n] at G;have M:=T.o;have a:(Lib.byteCells (l++(inT j++(xs.map (fun y=>y.data.toList)).flatten))).length<=100000000:=by
      rw [Lib.byteCells_length,List.length_append,List.length_append,FR,Kn];omega
     have C:=Aa (RV B b j _ 10 wr G.1 a (Nat.le_trans N.o G.2.1.size));replace G:=Aa G;clear a M n E;go_wp2_with fail;refine C.o.mono ?_;rintro e v ⟨rfl,u,f,c⟩;have J:Lib.byteCells (l++(inT j++(xs.map (fun y=>y.data.toList)).flatten))++[Value.int .u8 10]=Lib.byteCells fin:=by
      rw [X.o];simp only [Lib.byteCells_append,List.append_assoc];rfl
     rw [J] at u;have Y:Hx (AE B b j fin w (zi (zj #[])) v):=⟨rfl,Or.inr u,G.o.2.1.trans f,G.o.2.2.trans c⟩;clear u f c C J;go_wp2_with fail;go_end0;exact Y.o
theorem AE.trans {B b:Nat} {dn:Int} {l:List UInt8} {w w1 w2:World} (hb:Below B w w1) (hk:Ax w w1) {e:Ending} (h:AE B b dn l w1 e w2):AE B b dn l w e w2:=⟨h.1,h.2.1,hb.trans h.2.2.1,hk.trans h.2.2.2⟩
theorem Bb {B:Nat} {w w':World} (h:Ov w w') (hB:B<=w.heap.size):Below B w w':=h.mono hB
theorem Bg {g:Nat} {cs:Array Value} {T:TypeId} {w w':World} (h:w.heap[g]? = some (.cells cs T (0,0))) (k:Ax w w') (h1:T≠79) (h2:T≠5) (i:Nat):w'.cell? ⟨g,i,none⟩=w.cell? ⟨g,i,none⟩:=by
 rw [Lib.cell_of_heap h,Lib.cell_of_heap (k g cs T _ h h1 h2)]
theorem AU (x:ByteArray) (l:List ByteArray):Gv (x::l)=x.size+Gv l:=rfl
theorem A9:Gv []=0:=rfl
theorem N4 (xs:List ByteArray) (w:World):L4 w.heap.size xs (w.alloc (.cells (xs.map Value.string).toArray 9)):=heap_alloc_new w _
theorem Bc (B b dn:Nat) (l:List UInt8) (xs:List ByteArray) (w:World) (hn:xs.length<=10) (hd:dn<=10) (hl:l.length<=1000000) (hx:Gv xs<=1000000) (hP:Bf B b dn (Lib.byteCells l) w) (hBw:B<=w.heap.size) :
  Calls Tryz.prog 86 #[zh (some ⟨b,0,none⟩),zd (some ⟨w.heap.size,0,none⟩) xs.length xs.length] (w.alloc (.cells (xs.map Value.string).toArray 9)) (AE B b dn (l++(inT dn++(xs.map (fun y=>y.data.toList)).flatten++[10])) w):=
 (Q5 B b w.heap.size dn _ l xs _ rfl hn hd hl hx (hP.alloc _) (by simp;omega) (N4 xs w)).mono fun e w' h=>h.trans ((Below.refl B w).alloc hBw _) (Ax.alloc w _)
theorem PC (B b dn:Nat) (l:List UInt8) (a:Int) (x y:ByteArray) (e0 e1 e2:Int) (e3:ByteArray) (q:Option Addr) (q1 q2:Nat) (aA:Option Addr) (nA cA:Nat) (aT:Option Addr) (nT cT:Nat) (aE:Option Addr) (nE cE:Nat) (w:World) (hP:Bf B b dn (Lib.byteCells l) w) (hBw:B<=w.heap.size) (hd:dn<=10) (hl:l.length<=1000000) (hxs:x.size<=10000) (hys:y.size<=10000) :
  Calls Tryz.prog 124 #[zh (some ⟨b,0,none⟩),zf #[O zc 3,O zc a,.string x,.string y,O zc e0,O zc e1,O zc e2,.string e3,zd q q1 q2,zd aA nA cA,zd aT nT cT,zd aE nE cE]] w (AE B b dn (l++(inT dn++(([⟨#[103,101,116,32]⟩,x,⟨#[32]⟩,y,⟨#[59]⟩]:List ByteArray).map (fun y=>y.data.toList)).flatten++[10])) w):=by
 obtain ⟨V,g⟩:=nm (w.alloc (zg #[O zc 3,O zc a,.string x,.string y,O zc e0,O zc e1,O zc e2,.string e3,zd q q1 q2,zd aA nA cA,zd aT nT cT,zd aE nE cE] 55));have c:=aov g;have n:V.heap[w.heap.size]? = some (zg #[O zc 3,O zc a,.string x,.string y,O zc e0,O zc e1,O zc e2,.string e3,zd q q1 q2,zd aA nA cA,zd aT nT cT,zd aE nE cE] 55 (0,0)):=by rw [g];exact heap_alloc_new w _
 have I:=AR (alq g);have j:B<=V.heap.size:=Nat.le_trans hBw c.o.size;have i:V.heap.size=w.heap.size+1:=by rw [g];simp
 have f:=Bc B b dn l [⟨#[103,101,116,32]⟩,x,⟨#[32]⟩,y,⟨#[59]⟩] V (by simp) hd hl (by have G:(⟨#[103,101,116,32]⟩:ByteArray).size=4:=rfl;have F:(⟨#[32]⟩:ByteArray).size=1:=rfl;have E:(⟨#[59]⟩:ByteArray).size=1:=rfl;simp only [AU,A9];omega) (hP.over c.o) j;rw [i] at f;obtain ⟨U,r⟩:=nm (V.alloc (zg #[.string ⟨#[103,101,116,32]⟩,.string x,.string ⟨#[32]⟩,.string y,.string ⟨#[59]⟩] 9));have A:Hx (Calls Tryz.prog 86 #[zh (some ⟨b,0,none⟩),zd (some ⟨w.heap.size+1,0,none⟩) 5 5] U (AE B b dn (l++(inT dn++(([⟨#[103,101,116,32]⟩,x,⟨#[32]⟩,y,⟨#[59]⟩]:List ByteArray).map (fun y=>y.data.toList)).flatten++[10])) V)):=by rw [r];exact f
 have v:=Aa (And.intro (Bb c.o hBw) (Ax.over c.o));clear n j hP f i;go_enter Tryz.func124,Tryz.ntmps124;go_wp2_with fail;rw [<-g,<-r];clear g r;refine A.o.mono ?_;rintro e H u;have C:=Aa (u.trans v.o.1 v.o.2);obtain rfl:=u.1;clear u A v;go_wp2_with fail;go_end0;exact C.o
end Go.Proofs.YtipngnjffjajpaaGreatDoor.Tx
