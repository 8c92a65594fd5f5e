/- The document's own words on tokens: veilworkref.ScanOf answers the tokens of any text, or where and why there are none. -/
import Derived.Test.YtipngnjffjajpaaGreatDoorK17
import Derived.Test.YtipngnjffjajpaaGreatDoorK07
set_option linter.unusedVariables false
set_option maxHeartbeats 8000000
set_option maxRecDepth 100000
namespace Go.Proofs.YtipngnjffjajpaaGreatDoor
open Go.RowKit
open Go.Value renaming int -> O, slice -> zd, bool -> ze, agg -> zf, pointer -> zh, tuple -> zj
open Go.IntKind renaming i64 -> zc
open Go.Obj renaming cells -> zg
open Go.Ending renaming returned -> zi
theorem EJ {s:ByteArray} {f i j:Nat} {note note':Bool} (h:AI note s.data.toList i=AI note' s.data.toList j):Bv s f note i=Bv s f note' j:=by
 cases f with
 | zero=>rfl
 | succ f=>simp only [Bv,h]
theorem MF {l:List UInt8} {i:Nat} (h:i < l.length):AI true l i=AI (DP l[i]) l (i+1):=by
 unfold AI;rw [List.drop_eq_getElem_cons h];simp only [Cz];omega
theorem MG {l:List UInt8} {i:Nat} (h:i < l.length) (h35:l[i].toNat=35):AI false l i=AI true l (i+1):=by
 unfold AI;rw [List.drop_eq_getElem_cons h];simp only [Cz,h35,if_true];omega
theorem EX (w:World) (a b:Int) (x:ByteArray):∀ (j:Nat) (u:Value),[Value.int zc a,O zc b,.string x][j]? = some u->(w.alloc (zg #[O zc a,O zc b,.string x] 44)).cell? ((⟨w.heap.size,0,none⟩:Addr).add j)=some u:=by
 intro q u c
 match q,c with
 | 0,c=>simp at c;subst c;simp [Addr.add]
 | 1,c=>simp at c;subst c;simp [Addr.add]
 | 2,c=>simp at c;subst c;simp [Addr.add]
theorem GA (a b:Int) (x:ByteArray):∀ u∈[Value.int zc a,O zc b,.string x],u.oneCell'=true:=by
 intro u c;simp at c;rcases c with rfl | rfl | rfl <;> rfl
theorem GB {n i m:Nat} (h1:n<=i) (h2:i<=m) (h3:m<=6000):n+1<=maxLen:=by unfold maxLen;omega
theorem EY {n i m:Nat} (h1:n<=i) (h2:i<=m) (h3:m<=6000):(n+1)*32<=140737488355328:=by omega
theorem Fy {w w':World} {o:Obj} (h:Below w.heap.size w w'):w.heap.size<=(w'.alloc o).heap.size:=by have:=h.size;simp;omega
def N5 (s:ByteArray) (w:World) (o nt vi:Value) (wr:World):Prop:=
 ∃ (note:Bool) (i f:Nat) (ts:List Tok),nt=ze note/\vi=O zc (i:Int)/\i<=s.size/\s.size < f+i/\Hid (Ch s=pre ts (Bv s f note i))/\ts.length<=i /\
  wr.ownsRow w.heap.size 44 3 o ts.length (AF ts)/\Below w.heap.size w wr
theorem FF {s:ByteArray} {w wr w2:World} {i f n:Nat} {ts:List Tok} {kk:Nat} {v':Value} {o:Obj} {v:Value} (HS:Hid (Ch s=pre ts (Bv s f false i))) (hf:s.size < f+i) (htl:ts.length<=i) (hlt:i < s.size)
  (hsk:Hid (AI false s.data.toList i=i)) (hk:Hid (Aw s i=(kk,i+n))) (he:Hid (AA s i=0)) (hown0:wr.ownsRow w.heap.size 44 3 v ts.length (AF ts))
  (hown:w2.ownsRow w.heap.size 44 3 v' (ts.length+1) (AF ts++[O zc (kk:Int),O zc (i:Int),.string (s.extract i (i+n))]))
  (hg:(wr.alloc o).grownBy w2 v.ownBlock) (hb:Below w.heap.size w wr):N5 s w v' (ze false) (O zc ((i:Int)+(n:Int))) w2:=by
 obtain ⟨c,rfl⟩:∃ c,f=c + 1:=⟨f - 1,by omega⟩;have a:=Ca he.out;rw [hk.out] at a;have b:=Iu HS.out (by rw [hsk.out];exact hlt) (by rw [hsk.out];exact he.out);rw [hsk.out] at b;have g:GS s i=⟨kk,i,s.extract i (i+n)⟩:=by unfold GS;rw [hk.out]
 rw [g,hk.out] at b;simp only at b a;refine ⟨false,i+n,c,ts++[⟨kk,i,s.extract i (i+n)⟩],rfl,by go_num,a.2,by omega,Aa b,by simp;omega,?_,?_⟩
 ·rw [EB,List.length_append]
  exact hown
 ·exact (hb.alloc hb.size _).grown hg (by have:=hb.size;simp;omega) (fun k hk=>(hown0.lt k hk).1)
theorem IV (s:ByteArray) (hs:s.size<=6000) (w:World) :
  Calls Tryz.prog 24 #[.string s] w fun e w'=>∃ v,e=zi (zj #[v,O zc (Ci s:Int),O zc (AZ s:Int)]) /\
   w'.ownsRow w.heap.size 44 3 v (Aq s).length (AF (Aq s))/\Below w.heap.size w w':=by
 obtain ⟨i0,hi,Q,P,N⟩:=info_parts Tryz.info34;go_enter Tryz.func24,Tryz.ntmps24;go_wp2_with fail;go_loopw [5,6,7] (fun o nt vi wr=>N5 s w o nt vi wr) (fun _ _ vi _=>s.size - (intOf vi).toNat)
 case atStart=>exact ⟨false,0,s.size+1,[],rfl,rfl,Nat.zero_le _,by omega,(Mk _).symm,Nat.zero_le _,World.ownsRow_nil _ _ _ _,Below.refl _ _⟩
 case round=>
  obtain ⟨Z,i,f,M,rfl,rfl,y,U,F,r,a,b⟩:=hrel;by_cases hlt:i < s.size
  ·have hl:i < s.data.toList.length:=by simpa using hlt
   cases Z with
   | true=>
    have x:Hid (Ch s=pre M (Bv s f (DP s[i]) (i+1))):=by
     show _=_;rw [F.out];exact congrArg _ (EJ (MF hl))
    have ao:Hid (DP s[i]=((s[i].toNat:Int) != 10)):=by
     show _=_;unfold DP;rw [Bool.eq_iff_iff];simp;omega
    clear F;go_wp2_with fail;refine ⟨⟨DP s[i],i+1,f,M,by rw [ao.out],by go_num,by omega,by omega,x,by omega,a,b⟩,by simp [intOf];omega⟩
   | false=>
    by_cases h35:s[i].toNat=35
    ·have av:((s[i].toNat:Int) == 35)=true:=beq_iff_eq.2 (by omega)
     have bn:((s[i].toNat:Int) != 10)=true:=by rw [bne_iff_ne];omega
     have x:Hid (Ch s=pre M (Bv s f true (i+1))):=by
      show _=_;rw [F.out];exact congrArg _ (EJ (MG hl h35))
     clear F h35;go_wp2_with fail;refine ⟨⟨true,i+1,f,M,rfl,by go_num,by omega,by omega,x,by omega,a,b⟩,by simp [intOf];omega⟩
    have av:((s[i].toNat:Int) == 35)=false:=beq_eq_false_iff_ne.2 (by omega);have I:C7 s[i]=true->Hid (Ch s=pre M (Bv s f false (i+1))):=fun hb=>by
     show _=_;rw [F.out];exact congrArg _ (EJ (Gn hl h35 hb))
    have G:=Aa I;clear I;by_cases h32:s[i].toNat=32
    ·have aw:((s[i].toNat:Int) == 32)=true:=beq_iff_eq.2 (by omega)
     have x:=G.out (by simp [C7,h32]);clear F h35 h32 G;go_wp2_with fail;refine ⟨⟨false,i+1,f,M,rfl,by go_num,by omega,by omega,x,by omega,a,b⟩,by simp [intOf];omega⟩
    have aw:((s[i].toNat:Int) == 32)=false:=beq_eq_false_iff_ne.2 (by omega);by_cases h9:s[i].toNat=9
    ·have b9:((s[i].toNat:Int) == 9)=true:=beq_iff_eq.2 (by omega)
     have x:=G.out (by simp [C7,h9]);clear F h35 h32 h9 G;go_wp2_with fail;refine ⟨⟨false,i+1,f,M,rfl,by go_num,by omega,by omega,x,by omega,a,b⟩,by simp [intOf];omega⟩
    have b9:((s[i].toNat:Int) == 9)=false:=beq_eq_false_iff_ne.2 (by omega);by_cases h10:s[i].toNat=10
    ·have ax:((s[i].toNat:Int) == 10)=true:=beq_iff_eq.2 (by omega)
     have x:=G.out (by simp [C7,h10]);clear F h35 h32 h9 h10 G;go_wp2_with fail;refine ⟨⟨false,i+1,f,M,rfl,by go_num,by omega,by omega,x,by omega,a,b⟩,by simp [intOf];omega⟩
    have ax:((s[i].toNat:Int) == 10)=false:=beq_eq_false_iff_ne.2 (by omega);have L:AI false s.data.toList i=i:=Fq hl h35 (by show C7 s[i]=false;simp only [C7];rw [decide_eq_false_iff_not];omega);have ar:i<=(Aw s i).2:=by
     by_cases h0:AA s i=0
     ·have:=(Ca h0).1;omega
     ·exact ND s i
    have af:=GR (s:=s) (j:=i);have ac:=GQ (s:=s) (i:=i) y;have ht:=Gh s i hlt hs;obtain ⟨kk,T⟩:∃ kk,kk=(Aw s i).1:=⟨_,rfl⟩;obtain ⟨n,hn⟩:∃ n,n=DU s i:=⟨_,rfl⟩;rw [<-T,<-hn] at ht;rw [<-T] at af;have hk:Aw s i=(kk,i+n):=by
     rw [T,hn];unfold DU
     ext
     ·rfl
     ·show _=i+((Aw s i).2 - i);omega
    have a1:i+n<=s.size:=by rw [hk] at ac;exact ac
    have aa:AA s i≠0->Aq s=[]/\Ci s=i/\AZ s=AA s i:=fun he=>by
     obtain ⟨f',rfl⟩:∃ f',f=f' + 1:=⟨f - 1,by omega⟩;have ae:=It F.out (by rw [L];exact hlt) (by rw [L];exact he);rw [L] at ae;simp [Aq,Ci,AZ,ae]
    have hq:=P8 hlt;have HT:=Aa ht;have V:=Aa L;have C:=Aa hk;have l:=Aa aa;have HQ:=Aa hq;clear h35 h32 h9 h10 G L ar ac T ht hn hk aa hq;rcases (show kk=0\/kk=1\/kk=2\/kk=3 by omega) with rfl | rfl | rfl | rfl
    ·have u:Hid (AA s i=1):=by show _=_;simp [AA,C.out]
     obtain ⟨K,J,A⟩:=l.out (by rw [u.out];decide);rw [u.out] at A;have Y:=Aa K;have X:=Aa J;have W:=Aa A;clear K J A l;go_wp2_with fail;refine (HT.out _).mono ?_;rintro e w' ⟨rfl,rfl⟩;go_wp2_with fail
     go_ret3
     exact ⟨zd none 0 0,by rw [X.out,W.out];rfl,by rw [Y.out];exact World.ownsRow_nil _ _ _ _,b⟩
    ·by_cases h12:12 < n
     ·have u:Hid (AA s i=2):=by show _=_;simp [AA,C.out,h12]
      obtain ⟨K,J,A⟩:=l.out (by rw [u.out];decide);rw [u.out] at A;have Y:=Aa K;have X:=Aa J;have W:=Aa A;clear K J A l;go_wp2_with fail;refine (HT.out _).mono ?_;rintro e w' ⟨rfl,rfl⟩;go_wp2_with fail
      go_ret3
      exact ⟨zd none 0 0,by rw [X.out,W.out];rfl,by rw [Y.out];exact World.ownsRow_nil _ _ _ _,b⟩
     ·have u:Hid (AA s i=0):=by show _=_;simp [AA,C.out,h12]
      go_wp2_with fail;refine (HT.out _).mono ?_;rintro e w' ⟨rfl,rfl⟩;go_wp2_with (at_builtin;refine wpList_append_own _ rfl _ _ 34 rfl w.heap.size 44 i0 (zf #[O zc 0,O zc 0,.string ⟨#[]⟩]) 3 32 Tryz.underlying34 hi Q P N rfl (by decide) _ _ _ rfl (a.alloc _) ⟨w'.heap.size,0,none⟩ 1 1 [O zc 1,O zc (i:Int),.string (s.extract i (i+n))] rfl rfl (EX w' 1 i _) (GA 1 i _) (GB r y hs) (EY r y hs) (Fy b) ?_)
      ·intro v' w2 c g E
       have ab:0 < n:=by have:=(Ca u.out).1;rw [C.out] at this;simp at this;omega
       have R:=FF (kk:=1) F U r hlt V C u a c g b;have HR:=Aa R;clear R c g E a;go_wp2_with fail;exact ⟨HR.out,by simp [intOf];omega⟩
    ·by_cases h7:7 < n
     ·have u:Hid (AA s i=2):=by show _=_;simp [AA,C.out,h7]
      obtain ⟨K,J,A⟩:=l.out (by rw [u.out];decide);rw [u.out] at A;have Y:=Aa K;have X:=Aa J;have W:=Aa A;clear K J A l;go_wp2_with fail;refine (HT.out _).mono ?_;rintro e w' ⟨rfl,rfl⟩;go_wp2_with fail
      go_ret3
      exact ⟨zd none 0 0,by rw [X.out,W.out];rfl,by rw [Y.out];exact World.ownsRow_nil _ _ _ _,b⟩
     by_cases h1:1 < n
     ·have S:(s.extract i (i+n))[0]'(by simp;omega)=s[i]:=by
       simp [ByteArray.getElem_extract]
      by_cases h48:s[i].toNat=48
      ·have au:(((s.extract i (i+n))[0]'(by simp;omega)).toNat:Int) == 48:=by rw [S];exact beq_iff_eq.2 (by omega)
       have B:s[i]=48:=(Bo _ _).2 h48;have u:Hid (AA s i=1):=by show _=_;simp only [AA,C.out,HQ.out,B];simp [h1,h7]
       clear h48 B S;obtain ⟨K,J,A⟩:=l.out (by rw [u.out];decide);rw [u.out] at A;have Y:=Aa K;have X:=Aa J;have W:=Aa A;clear K J A l;go_wp2_with fail;refine (HT.out _).mono ?_;rintro e w' ⟨rfl,rfl⟩;go_wp2_with fail
       go_ret3
       exact ⟨zd none 0 0,by rw [X.out,W.out];rfl,by rw [Y.out];exact World.ownsRow_nil _ _ _ _,b⟩
      ·have au:((((s.extract i (i+n))[0]'(by simp;omega)).toNat:Int) == 48)=false:=by rw [S];exact beq_eq_false_iff_ne.2 (by omega)
       have B:¬ s[i]=48:=fun h=>h48 (by rw [h];rfl);have u:Hid (AA s i=0):=by show _=_;simp only [AA,C.out,HQ.out];simp [h1,h7,B]
       clear h48 B S;go_wp2_with fail;refine (HT.out _).mono ?_;rintro e w' ⟨rfl,rfl⟩;go_wp2_with (at_builtin;refine wpList_append_own _ rfl _ _ 34 rfl w.heap.size 44 i0 (zf #[O zc 0,O zc 0,.string ⟨#[]⟩]) 3 32 Tryz.underlying34 hi Q P N rfl (by decide) _ _ _ rfl (a.alloc _) ⟨w'.heap.size,0,none⟩ 1 1 [O zc 2,O zc (i:Int),.string (s.extract i (i+n))] rfl rfl (EX w' 2 i _) (GA 2 i _) (GB r y hs) (EY r y hs) (Fy b) ?_)
       ·intro v' w2 c g E
        have ab:0 < n:=by have:=(Ca u.out).1;rw [C.out] at this;simp at this;omega
        have R:=FF (kk:=2) F U r hlt V C u a c g b;have HR:=Aa R;clear R c g E a;go_wp2_with fail;exact ⟨HR.out,by simp [intOf];omega⟩
     ·have u:Hid (AA s i=0):=by show _=_;simp only [AA,C.out];simp [h1,h7]
      go_wp2_with fail;refine (HT.out _).mono ?_;rintro e w' ⟨rfl,rfl⟩;go_wp2_with (at_builtin;refine wpList_append_own _ rfl _ _ 34 rfl w.heap.size 44 i0 (zf #[O zc 0,O zc 0,.string ⟨#[]⟩]) 3 32 Tryz.underlying34 hi Q P N rfl (by decide) _ _ _ rfl (a.alloc _) ⟨w'.heap.size,0,none⟩ 1 1 [O zc 2,O zc (i:Int),.string (s.extract i (i+n))] rfl rfl (EX w' 2 i _) (GA 2 i _) (GB r y hs) (EY r y hs) (Fy b) ?_)
      ·intro v' w2 c g E
       have ab:0 < n:=by have:=(Ca u.out).1;rw [C.out] at this;simp at this;omega
       have R:=FF (kk:=2) F U r hlt V C u a c g b;have HR:=Aa R;clear R c g E a;go_wp2_with fail;exact ⟨HR.out,by simp [intOf];omega⟩
    ·have u:Hid (AA s i=0):=by show _=_;simp [AA,C.out]
     go_wp2_with fail;refine (HT.out _).mono ?_;rintro e w' ⟨rfl,rfl⟩;go_wp2_with (at_builtin;refine wpList_append_own _ rfl _ _ 34 rfl w.heap.size 44 i0 (zf #[O zc 0,O zc 0,.string ⟨#[]⟩]) 3 32 Tryz.underlying34 hi Q P N rfl (by decide) _ _ _ rfl (a.alloc _) ⟨w'.heap.size,0,none⟩ 1 1 [O zc 3,O zc (i:Int),.string (s.extract i (i+n))] rfl rfl (EX w' 3 i _) (GA 3 i _) (GB r y hs) (EY r y hs) (Fy b) ?_)
     ·intro v' w2 c g E
      have ab:0 < n:=by have:=(Ca u.out).1;rw [C.out] at this;simp at this;omega
      have R:=FF (kk:=3) F U r hlt V C u a c g b;have HR:=Aa R;clear R c g E a;go_wp2_with fail;exact ⟨HR.out,by simp [intOf];omega⟩
  ·have H:Ch s=.inl M:=by
    obtain ⟨f',rfl⟩:∃ f',f=f' + 1:=⟨f - 1,by omega⟩;exact JT F.out (by have:=EI Z s.data.toList i;omega)
   have K:Aq s=M:=by simp [Aq,H]
   have J:Ci s=0:=by simp [Ci,H]
   have A:AZ s=0:=by simp [AZ,H]
   have Y:=Aa K;have X:=Aa J;have W:=Aa A;clear K J A H F;go_wp2_with fail
   go_ret3
   exact ⟨_,by rw [X.out,W.out];rfl,by rw [Y.out];exact a,b⟩
theorem Lq (s:ByteArray) (hs:s.size<=maxLen) (w:World):Calls Tryz.prog 24 #[.string s] w (MB s w):=by
 unfold maxLen at hs;by_cases h:s.size<=6000
 ·refine (IV s h w).mono ?_
  rintro e c ⟨v,rfl,a,b⟩;exact ⟨v,Aq s,Ci s,AZ s,rfl,a,b,by rw [if_pos h];exact ⟨rfl,rfl,rfl⟩⟩
 ·go_enter Tryz.func24,Tryz.ntmps24
  go_wp2_with fail
  go_ret3
  exact ⟨zd none 0 0,[],0,2,rfl,World.ownsRow_nil _ _ _ _,Below.refl _ _,by rw [if_neg h];exact ⟨rfl,rfl,rfl⟩⟩
def tk:List UInt8->Nat × Nat
 | []=>(0,0)
 | c::m=>
  if isL c=true then (1,((c::m).takeWhile isN).length)
  else if isD c=true then (2,((c::m).takeWhile isD).length)
  else if (c::m).take 2 == [61,61] then (3,2)
  else if isS c=true then (3,1)
  else (0,0)
def te (m:List UInt8):Nat:=
 if (tk m).1=0 then 1
 else if (tk m).1=1/\12 < (tk m).2\/(tk m).1=2/\7 < (tk m).2 then 2
 else if (tk m).1=2/\1 < (tk m).2/\m[0]? = some 48 then 1
 else 0
theorem FA (s:ByteArray) (i:Nat):Aw s i=((tk (s.data.toList.drop i)).1,i+(tk (s.data.toList.drop i)).2):=by
 unfold Aw;by_cases h:i < s.size
 ·rw [dif_pos h]
  have a:i < s.data.toList.length:=by simpa using h
  have b:s.data.toList[i]=s[i]:=rfl;unfold CG Az;rw [List.drop_eq_getElem_cons a,b];simp only [tk];split
  ·rfl
  ·split
   ·rfl
   ·split
    ·rfl
    ·split <;> rfl
 ·rw [dif_neg h,List.drop_of_length_le (by simp;omega)]
  rfl
theorem Io (s:ByteArray) (i:Nat):AA s i=te (s.data.toList.drop i):=by
 unfold AA te;rw [FA];simp only [Nat.add_sub_cancel_left,List.getElem?_drop,Nat.add_zero]
theorem H7 {p:UInt8->Bool} {l:List UInt8} (h:(l.takeWhile p).length=l.length):l.takeWhile p=l:=
 (List.takeWhile_prefix p).eq_of_length h
theorem ED {p:UInt8->Bool} (l:List UInt8):(l.take (l.takeWhile p).length).takeWhile p=l.take (l.takeWhile p).length:=by
 have h:l.take (l.takeWhile p).length=l.takeWhile p:=(List.prefix_iff_eq_take.1 (List.takeWhile_prefix p)).symm;rw [h]
 induction l with
 | nil=>rfl
 | cons c l ih=>
  rw [List.takeWhile_cons];split
  ·rename_i a
   rw [List.takeWhile_cons,if_pos a];congr 1;exact ih ((List.prefix_iff_eq_take.1 (List.takeWhile_prefix p)).symm)
  ·rfl
theorem L9 {m:List UInt8} (h:te m=0):tk (m.take (tk m).2)=tk m/\te (m.take (tk m).2)=0/\(m.take (tk m).2).length=(tk m).2/\0 < (tk m).2:=by
 have l:tk (m.take (tk m).2)=tk m/\(m.take (tk m).2).length=(tk m).2/\0 < (tk m).2/\(m.take (tk m).2)[0]? = m[0]?:=by
  cases m with
  | nil=>simp [te,tk] at h
  | cons c m=>
   by_cases hL:isL c=true
   ·have e:tk (c::m)=(1,((c::m).takeWhile isN).length):=by simp [tk,hL]
    have hw:(c::m).takeWhile isN=c::m.takeWhile isN:=by rw [List.takeWhile_cons,if_pos (by simp [isN,hL])]
    have f:(c::m).take ((c::m).takeWhile isN).length=c::m.take (m.takeWhile isN).length:=by rw [hw];simp
    rw [e];simp only;refine ⟨?_,?_,by rw [hw];simp,by rw [f];simp⟩
    ·have g:=ED (p:=isN) (c::m)
     rw [f] at g ⊢;simp only [tk,hL,if_true];rw [g,<-f,List.length_take,Nat.min_eq_left (List.takeWhile_prefix _).length_le]
    ·rw [List.length_take,Nat.min_eq_left (List.takeWhile_prefix _).length_le]
   have a:isL c=false:=by simpa using hL
   by_cases hD:isD c=true
   ·have e:tk (c::m)=(2,((c::m).takeWhile isD).length):=by simp [tk,a,hD]
    have hw:(c::m).takeWhile isD=c::m.takeWhile isD:=by rw [List.takeWhile_cons,if_pos hD]
    have f:(c::m).take ((c::m).takeWhile isD).length=c::m.take (m.takeWhile isD).length:=by rw [hw];simp
    rw [e];simp only;refine ⟨?_,?_,by rw [hw];simp,by rw [f];simp⟩
    ·have g:=ED (p:=isD) (c::m)
     rw [f] at g ⊢;simp only [tk,a,hD,if_true];rw [g,<-f,List.length_take,Nat.min_eq_left (List.takeWhile_prefix _).length_le];rfl
    ·rw [List.length_take,Nat.min_eq_left (List.takeWhile_prefix _).length_le]
   have b:isD c=false:=by simpa using hD
   by_cases hE:((c::m).take 2 == [61,61])=true
   ·have e:tk (c::m)=(3,2):=by simp only [tk,a,b,hE];rfl
    rw [e];simp only;have j:=beq_iff_eq.1 hE;rw [j];refine ⟨by rfl,rfl,by decide,?_⟩
    cases m with
    | nil=>simp at j
    | cons d m=>simp at j;simp [j.1]
   have i:((c::m).take 2 == [61,61])=false:=by simpa using hE
   by_cases hS:isS c=true
   ·have e:tk (c::m)=(3,1):=by simp only [tk,a,b,i,hS];rfl
    rw [e];simp only;refine ⟨?_,by simp,by decide,by simp⟩;simp [tk,a,b,hS]
   ·have n:isS c=false:=by simpa using hS
    have e:tk (c::m)=(0,0):=by simp only [tk,a,b,i,n];rfl
    simp [te,e] at h
 obtain ⟨k1,k2,k3,k4⟩:=l;refine ⟨k1,?_,k2,k3⟩;rw [<-h];unfold te;rw [k1,k4]
theorem Dc (k a:Int) (x:ByteArray):Ai ⟨k,a,x⟩=true ↔ x.size<=6000/\te x.data.toList=0/\((tk x.data.toList).1:Int)=k/\(tk x.data.toList).2=x.data.toList.length:=by
 rw [Be,Io,FA,List.drop_zero];simp only [Nat.zero_add];constructor
 ·rintro ⟨_,g,b,f,c⟩
  exact ⟨g,b,f,by rw [c];rfl⟩
 ·rintro ⟨g,b,f,c⟩
  have:=(L9 b).2.2.2;refine ⟨?_,g,b,f,by rw [c];rfl⟩;have e:x.data.toList.length=x.size:=rfl;omega
theorem Ia (s:ByteArray) (hs:s.size<=6000):∀ (f:Nat) (note:Bool) (i:Nat) (ts:List Tok),Bv s f note i=.inl ts->ts.all Ai=true:=by
 intro f
 induction f with
 | zero=>intro note i ts h;simp only [Bv,Sum.inl.injEq] at h;subst h;rfl
 | succ f ih=>
  intro note i ts h;simp only [Bv] at h;split at h
  ·split at h
   ·rename_i c g
    generalize AI note s.data.toList i=j at c g h
    cases hr:Bv s f false (Aw s j).2 with
    | inl u=>
     rw [hr] at h;simp only [Sum.inl.injEq] at h;subst h;rw [List.all_cons,ih _ _ _ hr,Bool.and_true];have b:te (s.data.toList.drop j)=0:=by rw [<-Io];exact g
     obtain ⟨l,r,n,v⟩:=L9 b;have a:(s.extract j (Aw s j).2).data.toList=(s.data.toList.drop j).take (tk (s.data.toList.drop j)).2:=by
      rw [Lib.extract_data,FA];simp only [Nat.add_sub_cancel_left]
     refine (Dc _ _ _).2 ⟨?_,?_,?_,?_⟩
     ·have:=GQ (s:=s) (i:=j) (by omega)
      rw [ByteArray.size_extract];omega
     ·rw [a];exact r
     ·rw [a,l,FA]
     ·rw [a,l,n]
    | inr x=>rw [hr] at h;simp at h
   ·simp at h
  ·simp only [Sum.inl.injEq] at h;subst h;rfl
end Go.Proofs.YtipngnjffjajpaaGreatDoor
namespace Go.Proofs.YtipngnjffjajpaaGreatDoor.Tx
open Go.RowKit
open Go.Value renaming int -> O, slice -> zd, bool -> ze, agg -> zf, pointer -> zh, tuple -> zj
open Go.IntKind renaming i64 -> zc
open Go.Obj renaming cells -> zg
open Go.Ending renaming returned -> zi
theorem JE {w:World} {B:Nat} {v:Value} {ts:List Tok} (h:w.ownsRow B 44 3 v ts.length (AF ts)) (h6:ts.length<=6000):Hr v ts w:=by
 obtain ⟨C,⟨n,c⟩ | ⟨g,b,r,f,y,x,A⟩⟩:=id h
 ·refine ⟨h6,none,0,by rw [n];simp [c],fun a=>?_⟩
  cases ts with
  | nil=>exact absurd rfl a
  | cons t l=>simp at c
 ·subst f
  exact ⟨h6,some ⟨g,0,none⟩,b,rfl,fun _=>⟨g,0,rfl,fun j u i=>by
   have t:=h.cells (g:=g) rfl j u i;rw [Addr.add_lit] at t;exact t⟩⟩
theorem DB (s:ByteArray) (hs:s.size<=6000):(Aq s).all Ai=true:=by
 unfold Aq;split
 ·rename_i a h
  exact Ia s hs _ _ _ _ h
 ·rfl
theorem XE.z {W:World}:∀ {k:Nat} {cs:List Value} {d:D},XE W k cs d->SD d->ZE W k cs d
 | 0,cs,d,h,_=>h.elim
 | k+1,cs,d,h,hs=>by
  obtain ⟨kd,a,n,x,v,ds,h1,rfl,h3⟩:=h;obtain ⟨-,ao,c,rfl,-⟩:=id h3;obtain ⟨-,-,-,hx,hd⟩:=Sq hs.of_agg;exact ⟨kd,a,n,x,ao,c,ds,h1,rfl,C9 hx.of_str,h3.imp fun cs d hm hh=>XE.z hh (hd.of_list d hm)⟩
theorem XC.z {W:World}:∀ {k:Nat} {cs:List Value} {d:D},XC W k cs d->SD d->ZC W 61 k cs d
 | 0,cs,d,h,_=>h.elim
 | k+1,cs,d,h,hs=>by
  obtain ⟨kd,a,x,y,e0,e1,e2,e3,e4,e,vA,args,vT,th,vE,el,h1,rfl,h3,h4,h5,h6⟩:=h;obtain ⟨-,aA,cA,rfl,-⟩:=id h4;obtain ⟨-,aT,cT,rfl,-⟩:=id h5;obtain ⟨-,aE,cE,rfl,-⟩:=id h6;obtain ⟨-,-,hx,hy,he,hA,hT,hE⟩:=Sp hs.of_agg;have hz:=XE.z h3 he;obtain ⟨k0,k1,k2,k3,q,q1,q2,hk⟩:=hz.cells;simp only [List.cons.injEq,and_true] at hk;obtain ⟨rfl,rfl,rfl,rfl,rfl⟩:=hk;exact ⟨kd,a,x,y,k0,k1,k2,k3,q,q1,q2,e,aA,cA,args,aT,cT,th,aE,cE,el,h1,rfl,C9 hx.of_str,C9 hy.of_str,hz,h4.imp fun cs d hm hh=>XE.z hh (hA.of_list d hm),h5.imp fun cs d hm hh=>XC.z hh (hT.of_list d hm),h6.imp fun cs d hm hh=>XC.z hh (hE.of_list d hm)⟩
theorem NH {W:World} {v:Value} {ns:List ByteArray} (h:Hs W v ns) (hs:∀ x∈ns,x.size<=6000):LS 1 ZN W v ns:=h.imp fun cs x hm hh=>⟨hh,C9 (hs x hm)⟩
theorem XD.z {W:World} {f:Nat} {cs:List Value} {d:D} (h:XD W f cs d) (hs:SD d):ZD W 61 f cs d:=by
 obtain ⟨F,a,x,y,Q,vL,E,vP,B,vB,b,r0,r1,r2,r3,r4,r,P,rfl,u,n,l,O⟩:=h;obtain ⟨-,Z,U,rfl,-⟩:=id u;obtain ⟨-,Y,T,rfl,-⟩:=id n;obtain ⟨-,aB,V,rfl,-⟩:=id l;obtain ⟨-,-,I,H,-,M,L,N,hr⟩:=So hs.of_agg;have i:=XE.z O hr;obtain ⟨G,k1,k2,k3,q,q1,A,j⟩:=i.cells;simp only [List.cons.injEq,and_true] at j;obtain ⟨rfl,rfl,rfl,rfl,rfl⟩:=j;refine ⟨F,a,x,y,Q,Z,U,E,Y,T,B,aB,V,b,G,k1,k2,k3,q,q1,A,r,P,rfl,C9 I.of_str,C9 H.of_str,u.imp fun cs d c g=>?_,NH n (SD.of_strs L.of_list),l.imp fun cs d c g=>XC.z g (N.of_list d c),i⟩;obtain ⟨a,o,wr,C,vn,R,rfl,v⟩:=g;obtain ⟨-,X,S,rfl,-⟩:=id v;obtain ⟨-,J,-,K⟩:=Sr (M.of_list _ c).of_agg;exact ⟨a,o,wr,X,S,C,R,rfl,C9 J.of_str,NH v (SD.of_strs K.of_list)⟩
def OkR {α:Type} (P:α->Prop) (r:Res α):Prop:=∀ a n,r=.inl (a,n)->P a
theorem OkR.inl {α:Type} {P:α->Prop} {a:α} {n:Nat} (h:P a):OkR P (.inl (a,n)):=fun b m e=>by
 injection e with e;injection e with e1 e2;exact e1 ▸ h
theorem OkR.inr {α:Type} {P:α->Prop} {m:Nat}:OkR P (.inr m:Res α):=fun b m e=>by cases e
theorem OkR.bind {α β:Type} {P:α->Prop} {Q:β->Prop} {r:Res α} {f:α->Nat->Res β} (h:OkR P r) (hf:∀ a n,P a->OkR Q (f a n)):OkR Q (Ao r f):=by
 cases r with
 | inr m=>exact OkR.inr
 | inl p=>obtain ⟨a,n⟩:=p;exact hf a n (h a n rfl)
theorem OkR.ite {α:Type} {P:α->Prop} {c:Prop} [Decidable c] {r s:Res α} (h1:OkR P r) (h2:OkR P s):OkR P (if c then r else s):=by
 split
 ·exact h1
 ·exact h2
theorem OkR.any {α:Type} (r:Res α):OkR (fun _=>True) r:=fun _ _ _=>trivial
section
variable (ts:List Tok) (en:Nat)
theorem G4 (hall:ts.all Ai=true) (n:Nat):(Ag ts n).text.size<=6000:=by
 by_cases h:n < ts.length
 ·have a:=Db (ts:=ts) h
  exact CX (List.all_eq_true.1 hall _ a)
 ·have:Ag ts n=⟨0,0,⟨#[]⟩⟩:=by unfold Ag;rw [List.getElem?_eq_none (by omega)]
  rw [this];exact Nat.zero_le _
theorem CB (hall:ts.all Ai=true) (n:Nat):OkR (fun x=>x.size<=6000) (AY ts n):=OkR.ite (OkR.inl (G4 ts hall n)) OkR.inr
theorem FJ {α:Type} {P:α->Prop} {sep:List UInt8} {one:Nat->Res α} (h:∀ n,OkR P (one n)):∀ (f:Nat) (sm:Bool) (acc:List α) (n:Nat),(∀ a∈acc,P a)->OkR (fun l=>∀ a∈l,P a) (BB ts sep one f sm acc n)
 | 0,sm,acc,n,ha=>OkR.inl ha
 | f+1,sm,acc,n,ha=>by
  unfold BB;have hs:∀ a,P a->∀ b∈acc++[a],P b:=fun a hp b hb=>by
   rcases List.mem_append.1 hb with h | h
   ·exact ha b h
   ·rw [List.mem_singleton.1 h];exact hp
  refine OkR.ite (OkR.bind (h n) fun a n1 hp=>OkR.ite (FJ h f _ _ _ (hs a hp)) (OkR.inl (hs a hp))) (OkR.inl ha)
theorem Gb (hall:ts.all Ai=true) (sm:Bool) (n:Nat):OkR (fun l=>∀ x∈l,x.size<=6000) (BZ ts sm n):=FJ ts (CB ts hall) _ _ _ _ (by simp)
theorem Lu (hall:ts.all Ai=true) (n:Nat):OkR SD (Bz ts en n):=
 (CB ts hall n).bind fun o n1 ho=>OkR.ite ((Gb ts hall _ _).bind fun ns n2 hn=>OkR.inl (SD.p ho hn)) ((OkR.any _).bind fun _ n2 _=>(Gb ts hall _ _).bind fun ns n3 hn=>OkR.inl (SD.p ho hn))
theorem MT (hall:ts.all Ai=true) (n:Nat):OkR (fun l=>∀ a∈l,SD a) (DF ts en n):=
 (OkR.any _).bind fun _ n1 _=>(FJ ts (Lu ts en hall) _ _ _ _ (by simp)).bind fun l n2 hl=>(OkR.any _).bind fun _ n3 _=>OkR.inl hl
theorem Oe (hall:ts.all Ai=true):∀ (f deep n:Nat),OkR SD (pE ts en f deep n)
 | 0,deep,n=>OkR.inr
 | f+1,deep,n=>by
  have nil:∀ (k a m:Int),SD (eD k a m ⟨#[]⟩ []):=fun k a m=>SD.e (Nat.zero_le _) (by simp);unfold pE;refine OkR.ite (OkR.inl (nil _ _ _)) (OkR.ite (OkR.ite OkR.inr (OkR.ite (OkR.inl (nil _ _ _)) OkR.inr)) (OkR.ite (OkR.inl (SD.e (G4 ts hall n) (by simp))) (OkR.ite ?_ OkR.inr)));have ha:=Oe hall f (deep+1) (n+1)
  cases h:pE ts en f (deep+1) (n+1) with
  | inr m=>exact OkR.inr
  | inl p=>
   obtain ⟨a,n1⟩:=p;have hsa:=ha a n1 h;refine OkR.ite OkR.inr ?_;have hb:=Oe hall f (deep+1) (n1+1)
   cases h2:pE ts en f (deep+1) (n1+1) with
   | inr m=>exact OkR.inr
   | inl p=>
    obtain ⟨b,n2⟩:=p;have hsb:=hb b n2 h2;refine OkR.ite (OkR.inl (SD.e (Nat.zero_le _) fun y hy=>?_)) OkR.inr;simp at hy;rcases hy with rfl | rfl
    ·exact hsa
    ·exact hsb
theorem Gr (hall:ts.all Ai=true) (n:Nat):OkR SD (pX ts en n):=Oe ts en hall 61 0 n
theorem BG:noS.size<=6000:=Nat.zero_le _
theorem I5:SD noE:=SD.e (Nat.zero_le _) (by simp)
theorem Ks:∀ (d:D),SD d->(⟨(Hg d).toArray⟩:ByteArray).size<=6000:=fun d h=>by
 show (Hg d).toArray.size<=6000;rw [List.size_toArray];unfold Hg;split
 ·rename_i a b c x r
  have:=h.of_agg (.lit (.string x)) (by simp) 1;exact this
 ·simp
theorem Lw (hall:ts.all Ai=true) (at_:Int) (n:Nat):OkR SD (Df ts en at_ n):=
 (CB ts hall n).bind fun x n1 hx=>(OkR.any _).bind fun _ n2 _=>(Gr ts en hall n2).bind fun e n3 he=>
  OkR.ite ((FJ ts (Gr ts en hall) _ _ _ _ (by simp)).bind fun l n4 hl=>(OkR.any _).bind fun _ n5 _=>OkR.inl (SD.s hx (Ks e he) I5 hl (by simp) (by simp))) (OkR.inl (SD.s hx BG he (by simp) (by simp) (by simp)))
theorem IB {ss:Nat->Res (List D)} (h:∀ n,OkR (fun l=>∀ a∈l,SD a) (ss n)) (n:Nat):OkR (fun l=>∀ a∈l,SD a) (Bw ts ss n):=
 (OkR.any _).bind fun _ n1 _=>(h n1).bind fun l n2 hl=>(OkR.any _).bind fun _ n3 _=>OkR.inl hl
theorem FH {s:D} (h:SD s) (n:Nat):OkR SD (J5 ts s n):=(OkR.any _).bind fun _ n1 _=>OkR.inl h
theorem MS (hall:ts.all Ai=true) {blk:Nat->Res (List D)} (h:∀ n,OkR (fun l=>∀ a∈l,SD a) (blk n)) (n:Nat):OkR SD (BO ts en blk n):=by
 unfold BO;have z:∀ a∈([]:List D),SD a:=by simp
 refine OkR.ite ((Gr ts en hall _).bind fun e n1 c=>(h n1).bind fun i n2 g=>OkR.ite ((h _).bind fun x v r=>OkR.inl (SD.s BG BG c z g r)) (OkR.inl (SD.s BG BG c z g z))) (OkR.ite ((Gr ts en hall _).bind fun e n1 c=>(h n1).bind fun i n2 g=>OkR.inl (SD.s BG BG c z g z)) (OkR.ite ?_ (OkR.ite ?_ (OkR.ite ?_ (OkR.ite ?_ ?_)))))
 ·exact (CB ts hall _).bind fun a n1 f=>(CB ts hall _).bind fun b n2 u=>FH ts (SD.s f u I5 z z z) _
 ·exact (CB ts hall _).bind fun a n1 f=>(Gr ts en hall _).bind fun e n2 c=>FH ts (SD.s BG f c z z z) _
 ·exact (CB ts hall _).bind fun a n1 f=>(Gr ts en hall _).bind fun e n2 c=>FH ts (SD.s f BG c z z z) _
 ·exact (CB ts hall _).bind fun a n1 f=>(Gr ts en hall _).bind fun e n2 c=>FH ts (SD.s f BG c z z z) _
 ·exact (Lw ts en hall _ _).bind fun s n1 j=>FH ts j _
theorem Mb {acc:List D} {s:D} (h:∀ a∈acc,SD a) (hs:SD s):∀ a∈acc++[s],SD a:=fun b hb=>by
 rcases List.mem_append.1 hb with h1 | h1
 ·exact h b h1
 ·rw [List.mem_singleton.1 h1];exact hs
theorem E9 (hall:ts.all Ai=true):∀ (f:Nat) (acc:List D) (n:Nat),(∀ a∈acc,SD a)->OkR (fun l=>∀ a∈l,SD a) (AQ ts en f acc n)
 | 0,acc,n,h=>OkR.inr
 | 1,acc,n,h=>OkR.ite (OkR.inl h) OkR.inr
 | f+2,acc,n,h=>OkR.ite (OkR.inl h) ((MS ts en hall (IB ts fun n=>E9 hall f [] n (by simp)) n).bind fun s n1 hs=>E9 hall (f+1) (acc++[s]) n1 (Mb h hs))
theorem Oc (hall:ts.all Ai=true) (at_:Int) (name:ByteArray) (hn:name.size<=6000) (n:Nat):OkR SD (Fl ts en at_ name n):=
 (OkR.any _).bind fun _ n1 _=>(Gb ts hall _ _).bind fun ps n2 hp=>(OkR.any _).bind fun _ n3 _=>(OkR.any _).bind fun _ n4 _=>(E9 ts en hall _ _ _ (by simp)).bind fun body n5 hb=>(OkR.any _).bind fun _ n6 _=>(Gr ts en hall _).bind fun r n7 hr=>(OkR.any _).bind fun _ n8 _=>(OkR.any _).bind fun _ n9 _=>OkR.inl (SD.d hn BG (by simp) hp hb hr)
theorem Fa (hall:ts.all Ai=true) (kd at_:Int) (name oth:ByteArray) (hn:name.size<=6000) (ho:oth.size<=6000) (gv:Bool) (n:Nat):OkR SD (Cu ts en kd at_ name oth gv n):=
 OkR.ite ((MT ts en hall _).bind fun lb n1 hl=>(OkR.any _).bind fun _ n2 _=>OkR.inl (SD.d hn ho hl (by simp) (by simp) I5)) ((OkR.any _).bind fun _ n1 _=>OkR.inl (SD.d hn ho (by simp) (by simp) (by simp) I5))
theorem Og (hall:ts.all Ai=true) (n:Nat):OkR SD (Bs ts en n):=by
 unfold Bs;refine OkR.ite OkR.inr ((CB ts hall _).bind fun a n1 c=>OkR.ite ((CB ts hall _).bind fun b n2 f=>Fa ts en hall _ _ _ _ c f _ _) (OkR.ite (Fa ts en hall _ _ _ _ c BG _ _) (OkR.ite (Fa ts en hall _ _ _ _ c BG _ _) (OkR.ite (Oc ts en hall _ _ c _) (Fa ts en hall _ _ _ _ c BG _ _)))))
theorem IA (hall:ts.all Ai=true):∀ (f:Nat) (acc:List D) (n:Nat),(∀ a∈acc,SD a)->OkR (fun l=>∀ a∈l,SD a) (DX ts en f acc n)
 | 0,acc,n,h=>OkR.inr
 | f+1,acc,n,h=>OkR.ite (OkR.inl h) ((Og ts en hall n).bind fun s n1 hs=>IA hall f (acc++[s]) n1 (Mb h hs))
theorem J3 (hall:ts.all Ai=true):OkR (fun t=>(∀ a∈t.1,SD a)/\∀ a∈t.2,SD a) (DQ ts en):=
 (IA ts en hall _ _ _ (by simp)).bind fun ds n hd=>(OkR.any _).bind fun _ n1 _=>(IB ts (fun n=>E9 ts en hall _ _ _ (by simp)) n1).bind fun l n2 hl=>OkR.ite OkR.inr (OkR.inl ⟨hd,hl⟩)
end
def all2 {α:Type} (f:α->α->Bool):List α->List α->Bool
 | [],[]=>true
 | a::l,b::m=>f a b && all2 f l m
 | _,_=>false
def seK (at_:Bool):Nat->D->D->Bool
 | 0,_,_=>true
 | k+1,a,b=>decide (gI 0 a=gI 0 b) && decide (gI 2 a=gI 2 b) && decide (gZ 3 a=gZ 3 b) && (!at_ || decide (gI 1 a=gI 1 b)) && all2 (seK at_ k) (gL 4 a) (gL 4 b)
def ssK (at_:Bool) (ke:Nat):Nat->D->D->Bool
 | 0,_,_=>true
 | k+1,a,b=>decide (gI 0 a=gI 0 b) && (!at_ || decide (gI 1 a=gI 1 b)) && decide (gZ 2 a=gZ 2 b) && decide (gZ 3 a=gZ 3 b) && seK at_ ke (gD 4 a) (gD 4 b) && all2 (seK at_ ke) (gL 5 a) (gL 5 b) && all2 (ssK at_ ke k) (gL 6 a) (gL 6 b) && all2 (ssK at_ ke k) (gL 7 a) (gL 7 b)
def sxS (a b:D):Bool:=decide (asS a=asS b)
def spD (at_:Bool) (a b:D):Bool:=(!at_ || decide (gI 0 a=gI 0 b)) && decide (gZ 1 a=gZ 1 b) && decide (gB 2 a=gB 2 b) && all2 sxS (gL 3 a) (gL 3 b)
def sdK (at_:Bool) (ke kc:Nat) (a b:D):Bool:=decide (gI 0 a=gI 0 b) && (!at_ || decide (gI 1 a=gI 1 b)) && decide (gZ 2 a=gZ 2 b) && decide (gZ 3 a=gZ 3 b) && decide (gB 4 a=gB 4 b) && all2 (spD at_) (gL 5 a) (gL 5 b) && all2 sxS (gL 6 a) (gL 6 b) && all2 (ssK at_ ke kc) (gL 7 a) (gL 7 b) && seK at_ ke (gD 8 a) (gD 8 b)
def stK (at_:Bool) (ke kc:Nat) (ds l ds' l':List D):Bool:=all2 (sdK at_ ke kc) ds ds' && all2 (ssK at_ ke kc) l l'
theorem Ce {α:Type} {f:α->α->Bool} (h:∀ a,f a a=true):∀ l,all2 f l l=true
 | []=>rfl
 | a::l=>by simp [all2,h a,Ce h l]
theorem FD (at_:Bool):∀ (k:Nat) (a:D),seK at_ k a a=true
 | 0,a=>rfl
 | k+1,a=>by simp [seK,Ce (FD at_ k)]
theorem GW (at_:Bool) (ke:Nat):∀ (k:Nat) (a:D),ssK at_ ke k a a=true
 | 0,a=>rfl
 | k+1,a=>by simp [ssK,FD,Ce (FD at_ ke),Ce (GW at_ ke k)]
theorem N2 (at_:Bool) (ke kc:Nat) (a:D):sdK at_ ke kc a a=true:=by
 have b:∀ a,sxS a a=true:=fun a=>by simp [sxS]
 have c:∀ a,spD at_ a a=true:=fun a=>by simp [spD,Ce b]
 simp [sdK,FD,Ce b,Ce c,Ce (GW at_ ke kc)]
theorem JJ (at_:Bool) (ke kc:Nat) (ds l:List D):stK at_ ke kc ds l ds l=true:=by
 simp [stK,Ce (N2 at_ ke kc),Ce (GW at_ ke kc)]
def L2 {α:Type} (P:α->α->Prop):List α->List α->Prop
 | [],[]=>True
 | a::l,b::m=>P a b/\L2 P l m
 | _,_=>False
theorem L2.all2 {α:Type} {P:α->α->Prop} {f:α->α->Bool} (hf:∀ a b,P a b->f a b=true):∀ {l m:List α},L2 P l m->all2 f l m=true
 | [],[],_=>rfl
 | x::l,y::m,h=>by simp [Tx.all2,hf _ _ h.1,L2.all2 hf h.2]
 | [],y::m,h=>h.elim
 | x::l,[],h=>h.elim
def EA (a b:D):Prop:=∀ k,seK false k a b=true
section
variable {α:Type} {f:α->α->Bool}
theorem BM:∀ {l m:List α},all2 f l m=true->l.length=m.length
 | [],[],_=>rfl
 | a::l,b::m,h=>by simp [all2] at h;simp [BM h.2]
 | [],_::_,h=>by cases h
 | _::_,[],h=>by cases h
end
abbrev Sg:=Nat × Bool
def C6:List UInt8->Bool
 | []=>false
 | c::_=>isD c
section
variable (ts:List Tok) (en:Nat)
def tx (s:Sg) (k:Nat):ByteArray:=if s.2=true then noS else (Ag ts (s.1+k)).text
def tl (s:Sg) (k:Nat):List UInt8:=(tx ts s k).data.toList
def Ak (x:List UInt8) (s:Sg):Sg:=if s.2=true then s else if tl ts s 0=x then (s.1+1,false) else (s.1,true)
def CM (s:Sg):Sg:=(s.1,true)
def AD (s:Sg):ByteArray × Sg:=if nmS (tl ts s 0)=true then (tx ts s 0,(s.1+1,s.2)) else (noS,CM s)
def EK (s:Sg):Int × Sg:=if C6 (tl ts s 0)=true then ((Dm (tl ts s 0):Int),(s.1+1,s.2)) else (0,CM s)
def Ba:Nat->Nat->Sg->D × Sg
 | 0,_,s=>(noE,CM s)
 | f+1,deep,s=>
  if tl ts s 0=[40]/\deep < 60 then
   (fun p1:D × Sg=>(fun p2:D × Sg=>(eD (A0 (tl ts p1.2 0)) (Al ts en s.1) 0 noS [p1.1,p2.1],Ak ts [41] p2.2)) (Ba f (deep+1) (if A0 (tl ts p1.2 0)=0 then CM p1.2 else Ak ts (tl ts p1.2 0) p1.2))) (Ba f (deep+1) (Ak ts [40] s))
  else if tl ts s 0=[45] then
   (fun s1:Sg=>(fun p:Int × Sg=>(eD 1 (Al ts en s.1) (-p.1) noS [],p.2)) (EK ts (if tl ts s1 0=[48] then CM s1 else s1))) (Ak ts [45] s)
  else if C6 (tl ts s 0)=true then (fun p:Int × Sg=>(eD 1 (Al ts en s.1) p.1 noS [],p.2)) (EK ts s)
  else (fun p:ByteArray × Sg=>(eD 2 (Al ts en s.1) 0 p.1 [],p.2)) (AD ts s)
def rX (s:Sg):D × Sg:=Ba ts en 61 0 s
def BN:Nat->List D->Sg->List D × Sg
 | 0,acc,s=>(acc,s)
 | g+1,acc,s=>if s.2=false/\tl ts s 0≠[41] then
   (fun p:D × Sg=>BN g (acc++[p.1]) (if tl ts p.2 0≠[44]/\tl ts p.2 0≠[41] then CM p.2 else p.2)) (rX ts en (if 0 < acc.length then Ak ts [44] s else s))
  else (acc,s)
def DW (s:Sg):List D × Sg:=(fun p:List D × Sg=>(p.1,Ak ts [41] p.2)) (BN ts en (ts.length+2) [] (Ak ts [40] s))
def CH:Nat->List ByteArray->Sg->List ByteArray × Sg
 | 0,acc,s=>(acc,s)
 | g+1,acc,s=>if tl ts s 0=[44] then (fun p:ByteArray × Sg=>CH g (acc++[p.1]) p.2) (AD ts (Ak ts [44] s)) else (acc,s)
def Dg (s:Sg):List ByteArray × Sg:=if tl ts s 0≠[59]/\tl ts s 0≠[125] then (fun p:ByteArray × Sg=>CH ts (ts.length+1) [p.1] p.2) (AD ts s) else ([],s)
def FG (s:Sg):D × Sg:=(fun p:ByteArray × Sg=>(fun q:List ByteArray × Sg=>(DD (Al ts en s.1) p.1 (decide (tl ts p.2 0=[33])) q.1,q.2)) (Dg ts (if tl ts p.2 0=[33] then Ak ts [33] p.2 else Ak ts [58] p.2))) (AD ts s)
def C5:Nat->Bool->List D->Sg->List D × Sg
 | 0,_,acc,s=>(acc,s)
 | g+1,more,acc,s=>if more=true/\s.2=false then (fun p:D × Sg=>C5 g (decide (tl ts p.2 0=[59])) (acc++[p.1]) (if tl ts p.2 0=[59] then Ak ts [59] p.2 else p.2)) (FG ts en s) else (acc,s)
def DV (s:Sg):List D × Sg:=(fun s1:Sg=>(fun p:List D × Sg=>(p.1,Ak ts [125] p.2)) (C5 ts en (ts.length+2) (decide (tl ts s1 0≠[125])) [] s1)) (Ak ts [123] s)
def CN (s:Sg):D × Sg:=
 (fun p:ByteArray × Sg=>(fun s2:Sg=>
  if nmS (tl ts s2 0)=true/\tl ts s2 1=[40] then (fun q:ByteArray × Sg=>(fun l:List D × Sg=>(stD 2 (Al ts en s.1) p.1 q.1 noE l.1 [] [],l.2)) (DW ts en q.2)) (AD ts s2)
  else (fun e:D × Sg=>(stD 1 (Al ts en s.1) p.1 noS e.1 [] [] [],e.2)) (rX ts en s2)) (Ak ts [61] p.2)) (AD ts s)
def BF (blk:Sg->List D × Sg) (s:Sg):D × Sg:=
 if tl ts s 0=[103,101,116] then (fun a:ByteArray × Sg=>(fun b:ByteArray × Sg=>(stD 3 (Al ts en s.1) a.1 b.1 noE [] [] [],Ak ts [59] b.2)) (AD ts a.2)) (AD ts (Ak ts [103,101,116] s))
 else if tl ts s 0=[112,117,116] then (fun b:ByteArray × Sg=>(fun e:D × Sg=>(stD 4 (Al ts en s.1) noS b.1 e.1 [] [] [],Ak ts [59] e.2)) (rX ts en b.2)) (AD ts (Ak ts [112,117,116] s))
 else if tl ts s 0=[114,101,118,101,97,108] then (fun a:ByteArray × Sg=>(fun e:D × Sg=>(stD 5 (Al ts en s.1) a.1 noS e.1 [] [] [],Ak ts [59] e.2)) (rX ts en a.2)) (AD ts (Ak ts [114,101,118,101,97,108] s))
 else if tl ts s 0=[116,114,117,115,116] then (fun a:ByteArray × Sg=>(fun e:D × Sg=>(stD 6 (Al ts en s.1) a.1 noS e.1 [] [] [],Ak ts [59] e.2)) (rX ts en a.2)) (AD ts (Ak ts [116,114,117,115,116] s))
 else if tl ts s 0=[105,102] then (fun e:D × Sg=>(fun th:List D × Sg=>if tl ts th.2 0=[101,108,115,101] then (fun el:List D × Sg=>(stD 7 (Al ts en s.1) noS noS e.1 [] th.1 el.1,el.2)) (blk (Ak ts [101,108,115,101] th.2)) else (stD 7 (Al ts en s.1) noS noS e.1 [] th.1 [],th.2)) (blk e.2)) (rX ts en (Ak ts [105,102] s))
 else if tl ts s 0=[119,104,105,108,101] then (fun e:D × Sg=>(fun th:List D × Sg=>(stD 8 (Al ts en s.1) noS noS e.1 [] th.1 [],th.2)) (blk e.2)) (rX ts en (Ak ts [119,104,105,108,101] s))
 else (fun p:D × Sg=>(p.1,Ak ts [59] p.2)) (CN ts en s)
def Bd (ss:Sg->List D × Sg) (s:Sg):List D × Sg:=(fun p:List D × Sg=>(p.1,Ak ts [125] p.2)) (ss (Ak ts [123] s))
def AH:Nat->List UInt8->List D->Sg->List D × Sg
 | 0,_,acc,s=>(acc,s)
 | 1,_,acc,s=>(acc,s)
 | f+2,x,acc,s=>if s.2=false/\tl ts s 0≠x then (fun p:D × Sg=>AH (f+1) x (acc++[p.1]) p.2) (BF ts en (Bd ts (fun s=>AH f [125] [] s)) s) else (acc,s)
def C4:Nat->Sg->D × Sg
 | 0,s=>(noE,CM s)
 | f+1,s=>BF ts en (Bd ts (fun s=>AH ts en f [125] [] s)) s
def CA:Nat->List ByteArray->Sg->List ByteArray × Sg
 | 0,acc,s=>(acc,s)
 | g+1,acc,s=>if s.2=false/\tl ts s 0≠[41] then (fun p:ByteArray × Sg=>CA g (acc++[p.1]) p.2) (AD ts (if 0 < acc.length then Ak ts [44] s else s)) else (acc,s)
def Gq (at_:Int) (name:ByteArray) (s:Sg):D × Sg:=
 (fun ps:List ByteArray × Sg=>(fun bd:List D × Sg=>(fun r:D × Sg=>(deD 7 at_ name noS false [] ps.1 bd.1 r.1,Ak ts [125] (Ak ts [59] r.2)))
  (rX ts en (Ak ts [114,101,116,117,114,110] bd.2)))
  (AH ts en (2*ts.length+3) [114,101,116,117,114,110] [] (Ak ts [123] (Ak ts [41] ps.2))))
  (CA ts (ts.length+2) [] (Ak ts [40] s))
def Ck (kd at_:Int) (name oth:ByteArray) (gv:Bool) (s:Sg):D × Sg:=
 if gv=true then (fun l:List D × Sg=>(deD kd at_ name oth true l.1 [] [] noE,Ak ts [59] l.2)) (DV ts en s) else (deD kd at_ name oth false [] [] [] noE,Ak ts [59] s)
def Ep (s:Sg):D × Sg:=
 (fun a:ByteArray × Sg=>
  if AN (tl ts s 0)=7 then Gq ts en (Al ts en s.1) a.1 a.2
  else if AN (tl ts s 0)=2 then (fun b:ByteArray × Sg=>Ck ts en 2 (Al ts en s.1) a.1 b.1 false b.2) (AD ts a.2)
  else Ck ts en (AN (tl ts s 0)) (Al ts en s.1) a.1 noS (decide (AN (tl ts s 0)=4) || decide (AN (tl ts s 0)=5) || (decide (AN (tl ts s 0)=6) && decide (tl ts a.2 0=[123]))) a.2) (AD ts (Ak ts (tl ts s 0) s))
def CD:Nat->List D->Sg->List D × Sg
 | 0,acc,s=>(acc,s)
 | g+1,acc,s=>if s.2=false/\AN (tl ts s 0)≠0 then (fun p:D × Sg=>CD g (acc++[p.1]) p.2) (Ep ts en s) else (acc,s)
def Mj:(List D × List D) × Sg:=(fun ds:List D × Sg=>(fun m:List D × Sg=>((ds.1,m.1),m.2)) (Bd ts (AH ts en (2*ts.length+3) [125] []) (Ak ts [109,97,105,110] ds.2))) (CD ts en (ts.length+2) [] (0,false))
end
def Sim {α:Type} (r:Res α) (s:α × Sg):Prop:=match r with
 | .inl (a,n)=>s=(a,(n,false))
 | .inr m=>s.2=(m,true)
section
variable {α β:Type}
theorem Sim.bind {r:Res α} {s:α × Sg} {f:α->Nat->Res β} {g:α × Sg->β × Sg} (h:Sim r s) (hf:∀ a n,r=.inl (a,n)->Sim (f a n) (g (a,(n,false)))) (hg:∀ a m,(g (a,(m,true))).2=(m,true)):Sim (Ao r f) (g s):=by
 rcases r with ⟨a,n⟩ | m
 ·have e:s=(a,(n,false)):=h
  rw [e];exact hf a n rfl
 ·obtain ⟨a,q⟩:=s
  have e:q=(m,true):=h;subst e;exact hg a m
def Fg (ts:List Tok) (x:List UInt8) (r:Res α) (s:α × Sg):Prop:=match r with
 | .inl (a,n)=>(isT ts n x=true->s=(a,(n,false)))/\(isT ts n x=false->s.2=(n,true)\/s.2=(n,false))
 | .inr m=>s.2=(m,true)
end
section
variable (ts:List Tok) (en:Nat)
theorem FB (m k:Nat):tl ts (m,true) k=[]:=rfl
theorem RK (n k:Nat):tl ts (n,false) k=(Ag ts (n+k)).text.data.toList:=rfl
theorem Hz (n:Nat):tl ts (n,false) 0=(Ag ts n).text.data.toList:=rfl
theorem A6 (n:Nat) (x:List UInt8):(tl ts (n,false) 0=x) ↔ isT ts n x=true:=by
 rw [RK];unfold isT;simp
theorem NE (n:Nat) (x:List UInt8):(tl ts (n,false) 1=x) ↔ isT ts (n+1) x=true:=by
 rw [RK];unfold isT;simp
theorem B0 (x:List UInt8) (m:Nat):Ak ts x (m,true)=(m,true):=rfl
theorem BI (x:List UInt8) (n:Nat):Ak ts x (n,false)=if isT ts n x=true then (n+1,false) else (n,true):=by
 unfold Ak;rw [if_neg (by simp)];by_cases h:isT ts n x=true
 ·rw [if_pos h,if_pos ((A6 ts n x).2 h)]
 ·rw [if_neg h,if_neg (fun e=>h ((A6 ts n x).1 e))]
theorem FM:nmS []=false:=by decide
theorem G9 (m:Nat):AD ts (m,true)=(noS,(m,true)):=by
 unfold AD;rw [FB,FM];rfl
theorem LH:∀ (f deep m:Nat),(Ba ts en f deep (m,true)).2=(m,true)
 | 0,deep,m=>rfl
 | f+1,deep,m=>by
  unfold Ba;rw [FB,if_neg (by simp),if_neg (by simp),if_neg (by simp [C6]),G9]
theorem x_f (m:Nat):(rX ts en (m,true)).2=(m,true):=LH ts en 61 0 m
theorem Kq (g:Nat) (acc:List D) (m:Nat):BN ts en g acc (m,true)=(acc,(m,true)):=by
 cases g with
 | zero=>rfl
 | succ g=>unfold BN;rw [if_neg (by simp)]
theorem I8 (g:Nat) (acc:List ByteArray) (m:Nat):CH ts g acc (m,true)=(acc,(m,true)):=by
 cases g with
 | zero=>rfl
 | succ g=>unfold CH;rw [FB,if_neg (by simp)]
theorem Ls (m:Nat):(Dg ts (m,true)).2=(m,true):=by
 unfold Dg;rw [FB,if_pos (by simp),G9];dsimp only;rw [I8]
theorem Jc (g:Nat) (mo:Bool) (acc:List D) (m:Nat):C5 ts en g mo acc (m,true)=(acc,(m,true)):=by
 cases g with
 | zero=>rfl
 | succ g=>unfold C5;rw [if_neg (by simp)]
theorem P5 (m:Nat):(DV ts en (m,true)).2=(m,true):=by
 unfold DV;rw [B0];dsimp only;rw [Jc];rfl
theorem De (g:Nat) (x:List UInt8) (acc:List D) (m:Nat):AH ts en g x acc (m,true)=(acc,(m,true)):=by
 match g with
 | 0=>rfl
 | 1=>rfl
 | g+2=>unfold AH;rw [if_neg (by simp)]
theorem Mx {ss:Sg->List D × Sg} (h:∀ m,(ss (m,true)).2=(m,true)) (m:Nat):(Bd ts ss (m,true)).2=(m,true):=by
 unfold Bd;rw [B0];dsimp only;rw [h];rfl
theorem I2 (g:Nat) (acc:List ByteArray) (m:Nat):CA ts g acc (m,true)=(acc,(m,true)):=by
 cases g with
 | zero=>rfl
 | succ g=>unfold CA;rw [if_neg (by simp)]
theorem Rc (a:Int) (x:ByteArray) (m:Nat):(Gq ts en a x (m,true)).2=(m,true):=by
 unfold Gq;rw [B0,I2];dsimp only;rw [B0,B0,De];dsimp only;rw [B0,x_f];rfl
theorem Jh (kd a:Int) (x y:ByteArray) (gv:Bool) (m:Nat):(Ck ts en kd a x y gv (m,true)).2=(m,true):=by
 unfold Ck;split
 ·dsimp only
  rw [P5];rfl
 ·rfl
theorem Sim.take {β:Type} {x:List UInt8} {n:Nat} {F:Unit->Nat->Res β} {G:Sg->β × Sg} (hf:isT ts n x=true->Sim (F () (n+1)) (G (n+1,false))) (hg:∀ m,(G (m,true)).2=(m,true)):Sim (Ao (AG ts x n) F) (G (Ak ts x (n,false))):=by
 rw [BI];unfold AG;by_cases h:isT ts n x=true
 ·rw [if_pos h,if_pos h];exact hf h
 ·rw [if_neg h,if_neg h];exact hg n
theorem Fg.take {α β:Type} {x:List UInt8} {r:Res α} {s:α × Sg} {F:α->Nat->Res β} {G:α->Sg->β × Sg} (h:Fg ts x r s) (hf:∀ a n,r=.inl (a,n)->Sim (F a (n+1)) (G a (n+1,false))) (hg:∀ a m,(G a (m,true)).2=(m,true)):Sim (Ao r fun a n1=>Ao (AG ts x n1) fun _ n2=>F a n2) (G s.1 (Ak ts x s.2)):=by
 rcases r with ⟨a,n⟩ | m
 ·rw [AK]
  unfold AG;by_cases hx:isT ts n x=true
  ·have e:s=(a,(n,false)):=h.1 hx
   rw [e,if_pos hx,BI,if_pos hx];exact hf a n rfl
  ·have b:isT ts n x=false:=by simpa using hx
   rcases h.2 b with e | e
   ·rw [e,if_neg hx,B0]
    exact hg _ n
   ·rw [e,if_neg hx,BI,if_neg hx]
    exact hg _ n
 ·have e:s.2=(m,true):=h
  rw [e,B0];exact hg _ m
structure Dp:Prop where
 nm:∀ n,nmS (Ag ts n).text.data.toList=AJ (Ag ts n)
 nu:∀ n,C6 (Ag ts n).text.data.toList=decide ((Ag ts n).kind=2)
theorem B6 (hT:Dp ts) (n:Nat):Sim (AY ts n) (AD ts (n,false)):=by
 unfold AY AD;rw [Hz,hT.nm];split
 ·rfl
 ·rfl
theorem FL (hT:Dp ts) {n:Nat} {x:List UInt8} (h:isT ts n x=true) (hx:nmS x=false):AJ (Ag ts n)=false:=by
 rw [<-hT.nm,show (Ag ts n).text.data.toList=x from (A6 ts n x).2 h,hx]
theorem Mp (hT:Dp ts) {n:Nat} {x:List UInt8} (h:isT ts n x=true) (hx:C6 x=false):¬ (Ag ts n).kind=2:=by
 have:=hT.nu n;rw [show (Ag ts n).text.data.toList=x from (A6 ts n x).2 h,hx] at this;simpa using this.symm
theorem Jf {n:Nat} {x y:List UInt8} (h:isT ts n x=true) (hxy:x≠y):isT ts n y=false:=by
 unfold isT at *;have:(Ag ts n).text.data.toList=x:=by simpa using h
 rw [this];simpa using hxy
theorem N7 (hT:Dp ts) (n:Nat):EK ts (n,false)=if (Ag ts n).kind=2 then ((Dm (Ag ts n).text.data.toList:Int),(n+1,false)) else (0,(n,true)):=by
 unfold EK;rw [Hz,hT.nu];by_cases h:(Ag ts n).kind=2
 ·rw [if_pos h,if_pos (by simpa using h)]
 ·rw [if_neg h,if_neg (by simpa using h)];rfl
theorem NT (hT:Dp ts):∀ (f deep n:Nat),61<=f+deep->deep<=60->Sim (pE ts en f deep n) (Ba ts en f deep (n,false))
 | 0,deep,n,h1,h2=>absurd h1 (by omega)
 | f+1,deep,n,h1,h2=>by
  unfold pE Ba;by_cases h40:isT ts n [40]=true/\deep < 60
  ·have e:tl ts (n,false) 0=[40]/\deep < 60:=⟨(A6 ts n _).2 h40.1,h40.2⟩
   rw [if_pos e,if_neg (Mp ts hT h40.1 rfl),if_neg (by rw [Jf ts h40.1 (by decide)];simp),if_neg (by rw [FL ts hT h40.1 (by decide)];simp),if_pos ⟨h40.2,h40.1⟩,BI,if_pos h40.1];have ha:=NT hT f (deep+1) (n+1) (by omega) (by omega);revert ha;generalize pE ts en f (deep+1) (n+1)=r;generalize Ba ts en f (deep+1) (n+1,false)=p1;intro ha;rcases r with ⟨a,n1⟩ | m
   ·have e1:p1=(a,(n1,false)):=ha
    subst e1;dsimp only;rw [Hz];by_cases hk:A0 (Ag ts n1).text.data.toList=0
    ·rw [if_pos hk,if_pos hk]
     show (Ak ts [41] (Ba ts en f (deep+1) (n1,true)).2)=(n1,true);rw [LH];rfl
    ·rw [if_neg hk,if_neg hk,BI,if_pos (by unfold isT;simp)]
     have hb:=NT hT f (deep+1) (n1+1) (by omega) (by omega);revert hb;generalize pE ts en f (deep+1) (n1+1)=r;generalize Ba ts en f (deep+1) (n1+1,false)=p2;intro hb;rcases r with ⟨b,n2⟩ | m
     ·have e2:p2=(b,(n2,false)):=hb
      subst e2;dsimp only;rw [BI];by_cases h41:isT ts n2 [41]=true
      ·rw [if_pos h41,if_pos h41];rfl
      ·rw [if_neg h41,if_neg h41];rfl
     ·have e2:p2.2=(m,true):=hb
      show Ak ts [41] p2.2=(m,true);rw [e2];rfl
   ·have e1:p1.2=(m,true):=ha
    dsimp only;rw [e1,FB,if_pos (by decide)];show Ak ts [41] (Ba ts en f (deep+1) (m,true)).2=(m,true);rw [LH];rfl
  ·have e40:¬ (tl ts (n,false) 0=[40]/\deep < 60):=fun e=>h40 ⟨(A6 ts n _).1 e.1,e.2⟩
   rw [if_neg e40];by_cases h45:isT ts n [45]=true
   ·rw [if_pos ((A6 ts n _).2 h45),if_neg (Mp ts hT h45 rfl),if_pos h45,BI,if_pos h45]
    dsimp only;by_cases h48:isT ts (n+1) [48]=true
    ·rw [if_pos h48,if_pos ((A6 ts _ _).2 h48)]
     rfl
    ·rw [if_neg h48,if_neg (fun e=>h48 ((A6 ts _ _).1 e)),N7 ts hT]
     by_cases hn:(Ag ts (n+1)).kind=2
     ·rw [if_pos hn,if_pos hn];rfl
     ·rw [if_neg hn,if_neg hn];rfl
   ·have e45:¬ tl ts (n,false) 0=[45]:=fun e=>h45 ((A6 ts n _).1 e)
    rw [if_neg e45,Hz,hT.nu,N7 ts hT];by_cases hn:(Ag ts n).kind=2
    ·rw [if_pos hn,if_pos (decide_eq_true hn),if_pos hn];rfl
    ·rw [if_neg hn,if_neg h45,if_neg (show ¬ decide ((Ag ts n).kind=2)=true by simpa using hn)]
     unfold AD;rw [Hz,hT.nm];by_cases hnm:AJ (Ag ts n)=true
     ·rw [if_pos hnm,if_pos hnm];rfl
     ·rw [if_neg hnm,if_neg hnm,if_neg (show ¬ (deep < 60/\isT ts n [40]=true) from fun e=>h40 ⟨e.2,e.1⟩)];rfl
theorem Fk (hT:Dp ts) (n:Nat):Sim (pX ts en n) (rX ts en (n,false)):=NT ts en hT 61 0 n (by omega) (by omega)
theorem GZ {α:Type} {one:Nat->Res α} {rOne:Sg->α × Sg} {L:Nat->List α->Sg->List α × Sg} (h1:∀ n,Sim (one n) (rOne (n,false))) (hm:∀ n a n1,one n=.inl (a,n1)->n<=n1)
  (Lf:∀ g acc m,L g acc (m,true)=(acc,(m,true)))
  (Lend:∀ g acc n,isT ts n [41]=true->L (g+1) acc (n,false)=(acc,(n,false)))
  (Lgo:∀ g acc n n0,(acc=[]/\n0=n/\isT ts n0 [41]=false\/acc≠[]/\isT ts n0 [44]=true/\n=n0+1)->∃ fx:Sg->Sg,(∀ m,fx (m,true)=(m,true))/\(∀ m,isT ts m [44]=true\/isT ts m [41]=true->fx (m,false)=(m,false))/\(∀ m,isT ts m [44]=false->isT ts m [41]=false->(∀ g' acc',acc'≠[]->(L (g' + 1) acc' (fx (m,false))).2=(m,true)))/\L (g+1) acc (n0,false)=L g (acc++[(rOne (n,false)).1]) (fx (rOne (n,false)).2)) :
  ∀ (f g:Nat) (acc:List α) (n n0:Nat),(acc=[]/\n0=n/\isT ts n0 [41]=false\/acc≠[]/\isT ts n0 [44]=true/\n=n0+1)->ts.length - n < f->f+1<=g->Fg ts [41] (BB ts [44] one f true acc n) (L g acc (n0,false))
 | 0,g,acc,n,n0,h0,hf,hg=>absurd hf (by omega)
 | f+1,g,acc,n,n0,h0,hf,hg=>by
  obtain ⟨g,rfl⟩:∃ q,g=q+1:=⟨g - 1,by omega⟩;obtain ⟨fx,x1,x2,x3,x4⟩:=Lgo g acc n n0 h0;rw [x4];unfold BB;rw [if_pos rfl];have ho:=h1 n;have hmn:=hm n;revert ho hmn;generalize one n=r;generalize rOne (n,false)=p;intro ho hmn;rcases r with ⟨a,n1⟩ | m
  ·have e:p=(a,(n1,false)):=ho
   subst e;have hn1:=hmn a n1 rfl;rw [AK];dsimp only;by_cases hc:isT ts n1 [44]=true
   ·rw [if_pos hc,x2 n1 (Or.inl hc)]
    have hlt:n1 < ts.length:=Cf hc (by decide);exact GZ h1 hm Lf Lend Lgo f g (acc++[a]) (n1+1) n1 (Or.inr ⟨by simp,hc,rfl⟩) (by omega) (by omega)
   ·have hc':isT ts n1 [44]=false:=by simpa using hc
    rw [if_neg hc];obtain ⟨g,rfl⟩:∃ q,g=q+1:=⟨g - 1,by omega⟩;refine ⟨fun b=>?_,fun b=>?_⟩
    ·rw [x2 n1 (Or.inr b),Lend _ _ _ b]
    ·exact Or.inl (x3 n1 hc' b g _ (by simp))
  ·have e:p.2=(m,true):=ho
   rw [e,x1,Lf];rfl
theorem Cr {n:Nat} {x:List UInt8} (h:¬ isT ts n x=true):isT ts n x=false:=by simpa using h
theorem Lp (hT:Dp ts) (f g n:Nat) (hn:isT ts n [41]=false) (hf:ts.length - n < f) (hg:f+1<=g):Fg ts [41] (BB ts [44] (pX ts en) f true [] n) (BN ts en g [] (n,false)):=by
 refine GZ ts (L:=BN ts en) (Fk ts en hT) (fun n a n1 h=>by have:=(EO _ _ _ _ _ h).2;omega) (Kq ts en) (fun g i n h=>?_) (fun g i n x l=>?_) f g [] n n (Or.inl ⟨rfl,rfl,hn⟩) hf hg
 ·rw [BN,if_neg (fun e=>e.2 ((A6 ts n _).2 h))]
 ·refine ⟨fun s=>if tl ts s 0≠[44]/\tl ts s 0≠[41] then CM s else s,fun m=>?_,fun m h=>?_,fun m j c r b _=>?_,?_⟩
  ·dsimp only;rw [FB,if_pos (by simp)];rfl
  ·dsimp only
   rw [if_neg];rintro ⟨v,u⟩;rcases h with h | h
   ·exact v ((A6 ts m _).2 h)
   ·exact u ((A6 ts m _).2 h)
  ·dsimp only
   rw [if_pos ⟨fun e=>absurd ((A6 ts m _).1 e) (by rw [j];simp),fun e=>absurd ((A6 ts m _).1 e) (by rw [c];simp)⟩];show (BN ts en (r + 1) b (m,true)).2=_;rw [Kq]
  ·rcases l with ⟨rfl,rfl,h⟩ | ⟨h,c,rfl⟩
   ·rw [BN,if_pos ⟨rfl,fun e=>by rw [(A6 ts _ _).1 e] at h;cases h⟩,if_neg (by simp)]
   ·rw [BN,if_pos ⟨rfl,fun e=>by have:=(A6 ts _ _).1 e;rw [Jf ts c (by decide)] at this;cases this⟩,if_pos (List.length_pos_iff.2 h),BI,if_pos c]
theorem NQ (hT:Dp ts) (f g n:Nat) (hn:isT ts n [41]=false) (hf:ts.length - n < f) (hg:f+1<=g):Fg ts [41] (BB ts [44] (AY ts) f true [] n) (CA ts g [] (n,false)):=by
 refine GZ ts (L:=CA ts) (B6 ts hT) (fun n a n1 h=>by have:=Bm h;omega) (I2 ts) (fun g c n h=>?_) (fun g c n u r=>?_) f g [] n n (Or.inl ⟨rfl,rfl,hn⟩) hf hg
 ·rw [CA,if_neg (fun e=>e.2 ((A6 ts n _).2 h))]
 ·refine ⟨fun s=>s,fun m=>rfl,fun m h=>rfl,fun m l b v i j=>?_,?_⟩
  ·dsimp only
   rw [CA,if_pos ⟨rfl,fun e=>by rw [(A6 ts m _).1 e] at b;cases b⟩,if_pos (List.length_pos_iff.2 j),BI,if_neg (by rw [l];simp),G9];dsimp only;rw [I2]
  ·rcases r with ⟨rfl,rfl,h⟩ | ⟨h,b,rfl⟩
   ·rw [CA,if_pos ⟨rfl,fun e=>by rw [(A6 ts _ _).1 e] at h;cases h⟩,if_neg (by simp)]
   ·rw [CA,if_pos ⟨rfl,fun e=>by have:=(A6 ts _ _).1 e;rw [Jf ts b (by decide)] at this;cases this⟩,if_pos (List.length_pos_iff.2 h),BI,if_pos b]
end
end Go.Proofs.YtipngnjffjajpaaGreatDoor.Tx
