/- token.Join answers what it must, whatever tokens it is handed. -/
import Derived.Test.YtipngnjffjajpaaGreatDoorH17
set_option linter.unusedVariables false
set_option maxHeartbeats 8000000
set_option maxRecDepth 100000
namespace Go.Proofs.YtipngnjffjajpaaGreatDoor
open Go.RowKit
open Go.Value renaming int -> M, slice -> U, bool -> zc, pointer -> zd, agg -> zf, tuple -> zh
open Go.IntKind renaming i64 -> O
open Go.Obj renaming cells -> ze
open Go.Ending renaming returned -> zg
def CP (ts:List Tok):Int:=if ts.all An=true then (if BL ts<=6001 then 0 else 2) else 1
def Dy (ts:List Tok):ByteArray:=if CP ts=0 then ⟨(CB ts).toArray⟩ else ⟨#[]⟩
theorem CA {t:Tok} (h:An t=true):t.text.size<=6000:=by
 simp only [An,Bool.and_eq_true,decide_eq_true_eq] at h;exact h.1.1
theorem GR {w w':World} {b off:Nat} {ts:List Tok} (h:∀ j u,(AQ ts)[j]? = some u->w.cell? ⟨b,off+j,none⟩=some u) (hb:Below w.heap.size w w') :
  ∀ j u,(AQ ts)[j]? = some u->w'.cell? ⟨b,off+j,none⟩=some u:=fun j u hu=>by
 have h1:=h j u hu;rw [hb.cell (p:=⟨b,off+j,none⟩) (World.block_lt_of_cell? w _ h1)];exact h1
theorem Hc (ts:List Tok) (h:ts.all An=true):BL ts<=6001*ts.length:=by
 induction ts with
 | nil=>simp [BL]
 | cons t ts ih=>
  simp only [List.all_cons,Bool.and_eq_true] at h;have b:=CA h.1;have a:=ih h.2;simp [BL] at a ⊢;omega
theorem LW (v:Value) (ts:List Tok) (w:World) (hv:F3 w v ts) (hn:ts.length*32<=140737488355328) (hx:∀ t∈ts,t.text.size<=maxLen) :
  Calls Tryz.prog 18 #[v] w fun e w'=>e=zg (zh #[.string (Dy ts),M O (CP ts)])/\Below w.heap.size w w':=by
 have r:=hv;obtain ⟨ao,aa,rfl,y⟩:=hv;go_enter Tryz.func18,Tryz.ntmps18;go_wp2_with fail;go_loopw [4,9] (fun l i wr=>∃ k:Nat,k<=ts.length/\i=M O k/\l=M O (BL (ts.take k):Nat)/\(ts.take k).all An=true/\Below w.heap.size w wr) (fun _ i _=>ts.length - (intOf i).toNat)
 case atStart=>exact ⟨0,Nat.zero_le _,rfl,rfl,rfl,Below.refl _ w⟩
 case round=>
  obtain ⟨k,hk,rfl,rfl,m,a⟩:=hrel;have H:=Hc _ m;have N:BL (ts.take k)<=6001*k:=by rw [List.length_take] at H;exact Nat.le_trans H (Nat.mul_le_mul_left _ (Nat.min_le_left _ _))
  clear H;by_cases hkl:k < ts.length
  ·obtain ⟨b,ag,rfl,T⟩:=y (by rintro rfl;simp at hkl)
   obtain ⟨q0,q1,Y⟩:=D9 (GR T a) hkl;have B:=hx _ (List.getElem_mem hkl);have F:ts.take (k+1)=ts.take k++[ts[k]]:=List.take_succ_eq_append_getElem hkl;have c:=Ku ts[k].kind ts[k].pos ts[k].text B;have S:ts[k]=⟨ts[k].kind,ts[k].pos,ts[k].text⟩:=rfl;obtain ⟨K,j⟩:∃ K,K=An ts[k]:=⟨_,rfl⟩;have G:BL (ts.take (k+1))=BL (ts.take k)+(ts[k].text.size+1):=by rw [F,FG]
   have E:(ts.take (k+1)).all An=K:=by rw [F,List.all_append,m,j];simp
   have A:K=true->ts[k].text.size<=6000:=fun h=>CA (by rw [<-j];exact h);have C:K=false->CP ts=1:=fun h=>by
    unfold CP;rw [if_neg];intro hh;have:=List.all_eq_true.1 hh ts[k] (List.getElem_mem hkl);rw [<-j,h] at this;cases this
   rw [<-S,<-j] at c;unfold AI at c;obtain ⟨kk,Q⟩:∃ x,x=ts[k].kind:=⟨_,rfl⟩;obtain ⟨pp,P⟩:∃ x,x=ts[k].pos:=⟨_,rfl⟩;obtain ⟨tx,L⟩:∃ x,x=ts[k].text:=⟨_,rfl⟩;rw [<-Q] at q0 c;rw [<-P] at q1 c;rw [<-L] at Y c G A B;have W:=Aa c;have ab:=Aa G;have ad:=Aa E;have HB:=Aa C;clear Q P L c G E C j S F T y hx r
   cases K with
   | true=>
    have X:=A rfl;clear A;go_wp2_with fail;refine (W.out _).mono ?_;rintro e J ⟨rfl,g⟩;obtain ⟨V,Z⟩:=DI g;have t2:J.cell? ⟨wr.heap.size,2,none⟩=some (.string tx):=by rw [V _ _ (by simp)];simp [go_sem]
    have f:Below w.heap.size w J:=(a.alloc (by have:=a.size;omega) _).trans (g.mono (by have:=a.size;simp;omega));clear V Z g q0 q1 Y;go_wp2_with fail;refine ⟨⟨k+1,by omega,by go_num,?_,ad.out,f⟩,by simp [intOf];omega⟩;rw [ab.out];go_num
   | false=>
    clear A;go_wp2_with fail;refine (W.out _).mono ?_;rintro e J ⟨rfl,g⟩;have f:Below w.heap.size w J:=(a.alloc (by have:=a.size;omega) _).trans (g.mono (by have:=a.size;simp;omega));clear g q0 q1 Y;go_wp2_with fail
    go_ret2
    have u:=HB.out (by first | rfl | trivial);exact ⟨by simp [Dy,u],f⟩
  ·have R:k=ts.length:=by omega
   have hz:BL (ts.take k)=BL ts:=by rw [R,List.take_length]
   have c:ts.all An=true:=by rw [R,List.take_length] at m;exact m
   rw [hz] at N ⊢;clear hz m;by_cases X:BL ts<=6001
   ·have u:CP ts=0:=by simp [CP,c,X]
    have n:Dy ts=⟨(CB ts).toArray⟩:=by simp [Dy,u]
    have hg:=LH (U ao ts.length aa) ts wr (H8 r a) X;have HJ:=Aa u;have I:=Aa n;have HG:=Aa hg;clear u n hg y r c hx;go_wp2_with fail;refine (HG.out).mono ?_;rintro e J ⟨rfl,g⟩;have f:Below w.heap.size w J:=a.trans (g.mono a.size);go_wp2_with fail
    go_ret2
    exact ⟨by rw [HJ.out,I.out];rfl,f⟩
   ·have u:CP ts=2:=by simp [CP,c,X]
    have n:Dy ts=⟨#[]⟩:=by simp [Dy,u]
    have HJ:=Aa u;have I:=Aa n;clear u n y r c hx;go_wp2_with fail
    go_ret2
    exact ⟨by rw [HJ.out,I.out];rfl,a⟩
theorem DP {s:ByteArray} {f i j:Nat} {note note':Bool} (h:AR note s.data.toList i=AR note' s.data.toList j):Bl s f note i=Bl s f note' j:=by
 cases f with
 | zero=>rfl
 | succ f=>simp only [Bl,h]
theorem JF {l:List UInt8} {i:Nat} (h:i < l.length):AR true l i=AR (Dc l[i]) l (i+1):=by
 unfold AR;rw [List.drop_eq_getElem_cons h];simp only [Cn];omega
theorem JG {l:List UInt8} {i:Nat} (h:i < l.length) (h35:l[i].toNat=35):AR false l i=AR true l (i+1):=by
 unfold AR;rw [List.drop_eq_getElem_cons h];simp only [Cn,h35,if_true];omega
theorem DZ (w:World) (a b:Int) (x:ByteArray):∀ (j:Nat) (u:Value),[Value.int O a,M O b,.string x][j]? = some u->(w.alloc (ze #[M O a,M O b,.string x] 44)).cell? ((⟨w.heap.size,0,none⟩:Addr).add j)=some u:=by
 intro q u c
 match q,c with
 | 0,c=>simp at c;subst c;simp [Addr.add]
 | 1,c=>simp at c;subst c;simp [Addr.add]
 | 2,c=>simp at c;subst c;simp [Addr.add]
theorem Fq (a b:Int) (x:ByteArray):∀ u∈[Value.int O a,M O b,.string x],u.oneCell'=true:=by
 intro u c;simp at c;rcases c with rfl | rfl | rfl <;> rfl
theorem Fr {n i m:Nat} (h1:n<=i) (h2:i<=m) (h3:m<=6000):n+1<=maxLen:=by unfold maxLen;omega
theorem D0 {n i m:Nat} (h1:n<=i) (h2:i<=m) (h3:m<=6000):(n+1)*32<=140737488355328:=by omega
theorem Er {w w':World} {o:Obj} (h:Below w.heap.size w w'):w.heap.size<=(w'.alloc o).heap.size:=by have:=h.size;simp;omega
def Ln (s:ByteArray) (w:World) (o nt vi:Value) (wr:World):Prop:=
 ∃ (note:Bool) (i f:Nat) (ts:List Tok),nt=zc note/\vi=M O (i:Int)/\i<=s.size/\s.size < f+i/\Hid (Cc s=pre ts (Bl s f note i))/\ts.length<=i /\
  wr.ownsRow w.heap.size 44 3 o ts.length (AQ ts)/\Below w.heap.size w wr
theorem Ew {s:ByteArray} {w wr w2:World} {i f n:Nat} {ts:List Tok} {kk:Nat} {v':Value} {o:Obj} {v:Value} (HS:Hid (Cc s=pre ts (Bl s f false i))) (hf:s.size < f+i) (htl:ts.length<=i) (hlt:i < s.size)
  (hsk:Hid (AR false s.data.toList i=i)) (hk:Hid (AA s i=(kk,i+n))) (he:Hid (AH s i=0)) (hown0:wr.ownsRow w.heap.size 44 3 v ts.length (AQ ts))
  (hown:w2.ownsRow w.heap.size 44 3 v' (ts.length+1) (AQ ts++[M O (kk:Int),M O (i:Int),.string (s.extract i (i+n))]))
  (hg:(wr.alloc o).grownBy w2 v.ownBlock) (hb:Below w.heap.size w wr):Ln s w v' (zc false) (M O ((i:Int)+(n:Int))) w2:=by
 obtain ⟨c,rfl⟩:∃ c,f=c + 1:=⟨f - 1,by omega⟩;have a:=B5 he.out;rw [hk.out] at a;have b:=Gi HS.out (by rw [hsk.out];exact hlt) (by rw [hsk.out];exact he.out);rw [hsk.out] at b;have g:FA s i=⟨kk,i,s.extract i (i+n)⟩:=by unfold FA;rw [hk.out]
 rw [g,hk.out] at b;simp only at b a;refine ⟨false,i+n,c,ts++[⟨kk,i,s.extract i (i+n)⟩],rfl,by go_num,a.2,by omega,Aa b,by simp;omega,?_,?_⟩
 ·rw [DK,List.length_append]
  exact hown
 ·exact (hb.alloc hb.size _).grown hg (by have:=hb.size;simp;omega) (fun k hk=>(hown0.lt k hk).1)
theorem GA (s:ByteArray) (hs:s.size<=6000) (w:World) :
  Calls Tryz.prog 24 #[.string s] w fun e w'=>∃ v,e=zg (zh #[v,M O (Ca s:Int),M O (A8 s:Int)]) /\
   w'.ownsRow w.heap.size 44 3 v (AB s).length (AQ (AB s))/\Below w.heap.size w w':=by
 obtain ⟨i0,hi,P,N,L⟩:=info_parts Tryz.info34;go_enter Tryz.func24,Tryz.ntmps24;go_wp2_with fail;go_loopw [5,6,7] (fun o nt vi wr=>Ln s w o nt vi wr) (fun _ _ vi _=>s.size - (intOf vi).toNat)
 case atStart=>exact ⟨false,0,s.size+1,[],rfl,rfl,Nat.zero_le _,by omega,(Jl _).symm,Nat.zero_le _,World.ownsRow_nil _ _ _ _,Below.refl _ _⟩
 case round=>
  obtain ⟨Z,i,f,K,rfl,rfl,u,T,C,l,a,b⟩:=hrel;by_cases hlt:i < s.size
  ·have hl:i < s.data.toList.length:=by simpa using hlt
   cases Z with
   | true=>
    have r:Hid (Cc s=pre K (Bl s f (Dc s[i]) (i+1))):=by
     show _=_;rw [C.out];exact congrArg _ (DP (JF hl))
    have ap:Hid (Dc s[i]=((s[i].toNat:Int) != 10)):=by
     show _=_;unfold Dc;rw [Bool.eq_iff_iff];simp;omega
    clear C;go_wp2_with fail;refine ⟨⟨Dc s[i],i+1,f,K,by rw [ap.out],by go_num,by omega,by omega,r,by omega,a,b⟩,by simp [intOf];omega⟩
   | false=>
    by_cases h35:s[i].toNat=35
    ·have aw:((s[i].toNat:Int) == 35)=true:=beq_iff_eq.2 (by omega)
     have bn:((s[i].toNat:Int) != 10)=true:=by rw [bne_iff_ne];omega
     have r:Hid (Cc s=pre K (Bl s f true (i+1))):=by
      show _=_;rw [C.out];exact congrArg _ (DP (JG hl h35))
     clear C h35;go_wp2_with fail;refine ⟨⟨true,i+1,f,K,rfl,by go_num,by omega,by omega,r,by omega,a,b⟩,by simp [intOf];omega⟩
    have aw:((s[i].toNat:Int) == 35)=false:=beq_eq_false_iff_ne.2 (by omega);have G:CI s[i]=true->Hid (Cc s=pre K (Bl s f false (i+1))):=fun hb=>by
     show _=_;rw [C.out];exact congrArg _ (DP (Fh hl h35 hb))
    have E:=Aa G;clear G;by_cases h32:s[i].toNat=32
    ·have ax:((s[i].toNat:Int) == 32)=true:=beq_iff_eq.2 (by omega)
     have r:=E.out (by simp [CI,h32]);clear C h35 h32 E;go_wp2_with fail;refine ⟨⟨false,i+1,f,K,rfl,by go_num,by omega,by omega,r,by omega,a,b⟩,by simp [intOf];omega⟩
    have ax:((s[i].toNat:Int) == 32)=false:=beq_eq_false_iff_ne.2 (by omega);by_cases h9:s[i].toNat=9
    ·have b9:((s[i].toNat:Int) == 9)=true:=beq_iff_eq.2 (by omega)
     have r:=E.out (by simp [CI,h9]);clear C h35 h32 h9 E;go_wp2_with fail;refine ⟨⟨false,i+1,f,K,rfl,by go_num,by omega,by omega,r,by omega,a,b⟩,by simp [intOf];omega⟩
    have b9:((s[i].toNat:Int) == 9)=false:=beq_eq_false_iff_ne.2 (by omega);by_cases h10:s[i].toNat=10
    ·have ay:((s[i].toNat:Int) == 10)=true:=beq_iff_eq.2 (by omega)
     have r:=E.out (by simp [CI,h10]);clear C h35 h32 h9 h10 E;go_wp2_with fail;refine ⟨⟨false,i+1,f,K,rfl,by go_num,by omega,by omega,r,by omega,a,b⟩,by simp [intOf];omega⟩
    have ay:((s[i].toNat:Int) == 10)=false:=beq_eq_false_iff_ne.2 (by omega);have J:AR false s.data.toList i=i:=Ej hl h35 (by show CI s[i]=false;simp only [CI];rw [decide_eq_false_iff_not];omega);have au:i<=(AA s i).2:=by
     by_cases h0:AH s i=0
     ·have:=(B5 h0).1;omega
     ·exact Kw s i
    have ag:=Fy (s:=s) (j:=i);have ad:=Fx (s:=s) (i:=i) u;have ht:=Fe s i hlt hs;obtain ⟨kk,S⟩:∃ kk,kk=(AA s i).1:=⟨_,rfl⟩;obtain ⟨n,hn⟩:∃ n,n=De s i:=⟨_,rfl⟩;rw [<-S,<-hn] at ht;rw [<-S] at ag;have hk:AA s i=(kk,i+n):=by
     rw [S,hn];unfold De
     ext
     ·rfl
     ·show _=i+((AA s i).2 - i);omega
    have a2:i+n<=s.size:=by rw [hk] at ad;exact ad
    have aa:AH s i≠0->AB s=[]/\Ca s=i/\A8 s=AH s i:=fun he=>by
     obtain ⟨f',rfl⟩:∃ f',f=f' + 1:=⟨f - 1,by omega⟩;have af:=Gh C.out (by rw [J];exact hlt) (by rw [J];exact he);rw [J] at af;simp [AB,Ca,A8,af]
    have hq:=Mf hlt;have HT:=Aa ht;have V:=Aa J;have A:=Aa hk;have k:=Aa aa;have HQ:=Aa hq;clear h35 h32 h9 h10 E J au ad S ht hn hk aa hq;rcases (show kk=0\/kk=1\/kk=2\/kk=3 by omega) with rfl | rfl | rfl | rfl
    ·have m:Hid (AH s i=1):=by show _=_;simp [AH,A.out]
     obtain ⟨I,H,x⟩:=k.out (by rw [m.out];decide);rw [m.out] at x;have Y:=Aa I;have X:=Aa H;have W:=Aa x;clear I H x k;go_wp2_with fail;refine (HT.out _).mono ?_;rintro e w' ⟨rfl,rfl⟩;go_wp2_with fail
     go_ret3
     exact ⟨U none 0 0,by rw [X.out,W.out];rfl,by rw [Y.out];exact World.ownsRow_nil _ _ _ _,b⟩
    ·by_cases h12:12 < n
     ·have m:Hid (AH s i=2):=by show _=_;simp [AH,A.out,h12]
      obtain ⟨I,H,x⟩:=k.out (by rw [m.out];decide);rw [m.out] at x;have Y:=Aa I;have X:=Aa H;have W:=Aa x;clear I H x k;go_wp2_with fail;refine (HT.out _).mono ?_;rintro e w' ⟨rfl,rfl⟩;go_wp2_with fail
      go_ret3
      exact ⟨U none 0 0,by rw [X.out,W.out];rfl,by rw [Y.out];exact World.ownsRow_nil _ _ _ _,b⟩
     ·have m:Hid (AH s i=0):=by show _=_;simp [AH,A.out,h12]
      go_wp2_with fail;refine (HT.out _).mono ?_;rintro e w' ⟨rfl,rfl⟩;go_wp2_with (at_builtin;refine wpList_append_own _ rfl _ _ 34 rfl w.heap.size 44 i0 (zf #[M O 0,M O 0,.string ⟨#[]⟩]) 3 32 Tryz.underlying34 hi P N L rfl (by decide) _ _ _ rfl (a.alloc _) ⟨w'.heap.size,0,none⟩ 1 1 [M O 1,M O (i:Int),.string (s.extract i (i+n))] rfl rfl (DZ w' 1 i _) (Fq 1 i _) (Fr l u hs) (D0 l u hs) (Er b) ?_)
      ·intro v' w2 c g B
       have ac:0 < n:=by have:=(B5 m.out).1;rw [A.out] at this;simp at this;omega
       have R:=Ew (kk:=1) C T l hlt V A m a c g b;have HR:=Aa R;clear R c g B a;go_wp2_with fail;exact ⟨HR.out,by simp [intOf];omega⟩
    ·by_cases h7:7 < n
     ·have m:Hid (AH s i=2):=by show _=_;simp [AH,A.out,h7]
      obtain ⟨I,H,x⟩:=k.out (by rw [m.out];decide);rw [m.out] at x;have Y:=Aa I;have X:=Aa H;have W:=Aa x;clear I H x k;go_wp2_with fail;refine (HT.out _).mono ?_;rintro e w' ⟨rfl,rfl⟩;go_wp2_with fail
      go_ret3
      exact ⟨U none 0 0,by rw [X.out,W.out];rfl,by rw [Y.out];exact World.ownsRow_nil _ _ _ _,b⟩
     by_cases h1:1 < n
     ·have Q:(s.extract i (i+n))[0]'(by simp;omega)=s[i]:=by
       simp [ByteArray.getElem_extract]
      by_cases h48:s[i].toNat=48
      ·have av:(((s.extract i (i+n))[0]'(by simp;omega)).toNat:Int) == 48:=by rw [Q];exact beq_iff_eq.2 (by omega)
       have y:s[i]=48:=(Bg _ _).2 h48;have m:Hid (AH s i=1):=by show _=_;simp only [AH,A.out,HQ.out,y];simp [h1,h7]
       clear h48 y Q;obtain ⟨I,H,x⟩:=k.out (by rw [m.out];decide);rw [m.out] at x;have Y:=Aa I;have X:=Aa H;have W:=Aa x;clear I H x k;go_wp2_with fail;refine (HT.out _).mono ?_;rintro e w' ⟨rfl,rfl⟩;go_wp2_with fail
       go_ret3
       exact ⟨U none 0 0,by rw [X.out,W.out];rfl,by rw [Y.out];exact World.ownsRow_nil _ _ _ _,b⟩
      ·have av:((((s.extract i (i+n))[0]'(by simp;omega)).toNat:Int) == 48)=false:=by rw [Q];exact beq_eq_false_iff_ne.2 (by omega)
       have y:¬ s[i]=48:=fun h=>h48 (by rw [h];rfl);have m:Hid (AH s i=0):=by show _=_;simp only [AH,A.out,HQ.out];simp [h1,h7,y]
       clear h48 y Q;go_wp2_with fail;refine (HT.out _).mono ?_;rintro e w' ⟨rfl,rfl⟩;go_wp2_with (at_builtin;refine wpList_append_own _ rfl _ _ 34 rfl w.heap.size 44 i0 (zf #[M O 0,M O 0,.string ⟨#[]⟩]) 3 32 Tryz.underlying34 hi P N L rfl (by decide) _ _ _ rfl (a.alloc _) ⟨w'.heap.size,0,none⟩ 1 1 [M O 2,M O (i:Int),.string (s.extract i (i+n))] rfl rfl (DZ w' 2 i _) (Fq 2 i _) (Fr l u hs) (D0 l u hs) (Er b) ?_)
       ·intro v' w2 c g B
        have ac:0 < n:=by have:=(B5 m.out).1;rw [A.out] at this;simp at this;omega
        have R:=Ew (kk:=2) C T l hlt V A m a c g b;have HR:=Aa R;clear R c g B a;go_wp2_with fail;exact ⟨HR.out,by simp [intOf];omega⟩
     ·have m:Hid (AH s i=0):=by show _=_;simp only [AH,A.out];simp [h1,h7]
      go_wp2_with fail;refine (HT.out _).mono ?_;rintro e w' ⟨rfl,rfl⟩;go_wp2_with (at_builtin;refine wpList_append_own _ rfl _ _ 34 rfl w.heap.size 44 i0 (zf #[M O 0,M O 0,.string ⟨#[]⟩]) 3 32 Tryz.underlying34 hi P N L rfl (by decide) _ _ _ rfl (a.alloc _) ⟨w'.heap.size,0,none⟩ 1 1 [M O 2,M O (i:Int),.string (s.extract i (i+n))] rfl rfl (DZ w' 2 i _) (Fq 2 i _) (Fr l u hs) (D0 l u hs) (Er b) ?_)
      ·intro v' w2 c g B
       have ac:0 < n:=by have:=(B5 m.out).1;rw [A.out] at this;simp at this;omega
       have R:=Ew (kk:=2) C T l hlt V A m a c g b;have HR:=Aa R;clear R c g B a;go_wp2_with fail;exact ⟨HR.out,by simp [intOf];omega⟩
    ·have m:Hid (AH s i=0):=by show _=_;simp [AH,A.out]
     go_wp2_with fail;refine (HT.out _).mono ?_;rintro e w' ⟨rfl,rfl⟩;go_wp2_with (at_builtin;refine wpList_append_own _ rfl _ _ 34 rfl w.heap.size 44 i0 (zf #[M O 0,M O 0,.string ⟨#[]⟩]) 3 32 Tryz.underlying34 hi P N L rfl (by decide) _ _ _ rfl (a.alloc _) ⟨w'.heap.size,0,none⟩ 1 1 [M O 3,M O (i:Int),.string (s.extract i (i+n))] rfl rfl (DZ w' 3 i _) (Fq 3 i _) (Fr l u hs) (D0 l u hs) (Er b) ?_)
     ·intro v' w2 c g B
      have ac:0 < n:=by have:=(B5 m.out).1;rw [A.out] at this;simp at this;omega
      have R:=Ew (kk:=3) C T l hlt V A m a c g b;have HR:=Aa R;clear R c g B a;go_wp2_with fail;exact ⟨HR.out,by simp [intOf];omega⟩
  ·have F:Cc s=.inl K:=by
    obtain ⟨f',rfl⟩:∃ f',f=f' + 1:=⟨f - 1,by omega⟩;exact Hi C.out (by have:=DN Z s.data.toList i;omega)
   have I:AB s=K:=by simp [AB,F]
   have H:Ca s=0:=by simp [Ca,F]
   have x:A8 s=0:=by simp [A8,F]
   have Y:=Aa I;have X:=Aa H;have W:=Aa x;clear I H x F C;go_wp2_with fail
   go_ret3
   exact ⟨_,by rw [X.out,W.out];rfl,by rw [Y.out];exact a,b⟩
theorem IE (s:ByteArray) (hs:s.size<=maxLen) (w:World):Calls Tryz.prog 24 #[.string s] w (JC s w):=by
 unfold maxLen at hs;by_cases h:s.size<=6000
 ·refine (GA s h w).mono ?_
  rintro e c ⟨v,rfl,a,b⟩;exact ⟨v,AB s,Ca s,A8 s,rfl,a,b,by rw [if_pos h];exact ⟨rfl,rfl,rfl⟩⟩
 ·go_enter Tryz.func24,Tryz.ntmps24
  go_wp2_with fail
  go_ret3
  exact ⟨U none 0 0,[],0,2,rfl,World.ownsRow_nil _ _ _ _,Below.refl _ _,by rw [if_neg h];exact ⟨rfl,rfl,rfl⟩⟩
def tk:List UInt8->Nat × Nat
 | []=>(0,0)
 | c::m=>
  if isL c=true then (1,((c::m).takeWhile isN).length)
  else if isD c=true then (2,((c::m).takeWhile isD).length)
  else if (c::m).take 2 == [61,61] then (3,2)
  else if isS c=true then (3,1)
  else (0,0)
def te (m:List UInt8):Nat:=
 if (tk m).1=0 then 1
 else if (tk m).1=1/\12 < (tk m).2\/(tk m).1=2/\7 < (tk m).2 then 2
 else if (tk m).1=2/\1 < (tk m).2/\m[0]? = some 48 then 1
 else 0
theorem Es (s:ByteArray) (i:Nat):AA s i=((tk (s.data.toList.drop i)).1,i+(tk (s.data.toList.drop i)).2):=by
 unfold AA;by_cases h:i < s.size
 ·rw [dif_pos h]
  have a:i < s.data.toList.length:=by simpa using h
  have b:s.data.toList[i]=s[i]:=rfl;unfold Cs AG;rw [List.drop_eq_getElem_cons a,b];simp only [tk];split
  ·rfl
  ·split
   ·rfl
   ·split
    ·rfl
    ·split <;> rfl
 ·rw [dif_neg h,List.drop_of_length_le (by simp;omega)]
  rfl
theorem Ge (s:ByteArray) (i:Nat):AH s i=te (s.data.toList.drop i):=by
 unfold AH te;rw [Es];simp only [Nat.add_sub_cancel_left,List.getElem?_drop,Nat.add_zero]
theorem DM {p:UInt8->Bool} (l:List UInt8):(l.take (l.takeWhile p).length).takeWhile p=l.take (l.takeWhile p).length:=by
 have h:l.take (l.takeWhile p).length=l.takeWhile p:=(List.prefix_iff_eq_take.1 (List.takeWhile_prefix p)).symm;rw [h]
 induction l with
 | nil=>rfl
 | cons c l ih=>
  rw [List.takeWhile_cons];split
  ·rename_i a
   rw [List.takeWhile_cons,if_pos a];congr 1;exact ih ((List.prefix_iff_eq_take.1 (List.takeWhile_prefix p)).symm)
  ·rfl
theorem Je {m:List UInt8} (h:te m=0):tk (m.take (tk m).2)=tk m/\te (m.take (tk m).2)=0/\(m.take (tk m).2).length=(tk m).2/\0 < (tk m).2:=by
 have k:tk (m.take (tk m).2)=tk m/\(m.take (tk m).2).length=(tk m).2/\0 < (tk m).2/\(m.take (tk m).2)[0]? = m[0]?:=by
  cases m with
  | nil=>simp [te,tk] at h
  | cons c m=>
   by_cases hL:isL c=true
   ·have e:tk (c::m)=(1,((c::m).takeWhile isN).length):=by simp [tk,hL]
    have hw:(c::m).takeWhile isN=c::m.takeWhile isN:=by rw [List.takeWhile_cons,if_pos (by simp [isN,hL])]
    have f:(c::m).take ((c::m).takeWhile isN).length=c::m.take (m.takeWhile isN).length:=by rw [hw];simp
    rw [e];simp only;refine ⟨?_,?_,by rw [hw];simp,by rw [f];simp⟩
    ·have g:=DM (p:=isN) (c::m)
     rw [f] at g ⊢;simp only [tk,hL,if_true];rw [g,<-f,List.length_take,Nat.min_eq_left (List.takeWhile_prefix _).length_le]
    ·rw [List.length_take,Nat.min_eq_left (List.takeWhile_prefix _).length_le]
   have a:isL c=false:=by simpa using hL
   by_cases hD:isD c=true
   ·have e:tk (c::m)=(2,((c::m).takeWhile isD).length):=by simp [tk,a,hD]
    have hw:(c::m).takeWhile isD=c::m.takeWhile isD:=by rw [List.takeWhile_cons,if_pos hD]
    have f:(c::m).take ((c::m).takeWhile isD).length=c::m.take (m.takeWhile isD).length:=by rw [hw];simp
    rw [e];simp only;refine ⟨?_,?_,by rw [hw];simp,by rw [f];simp⟩
    ·have g:=DM (p:=isD) (c::m)
     rw [f] at g ⊢;simp only [tk,a,hD,if_true];rw [g,<-f,List.length_take,Nat.min_eq_left (List.takeWhile_prefix _).length_le];rfl
    ·rw [List.length_take,Nat.min_eq_left (List.takeWhile_prefix _).length_le]
   have b:isD c=false:=by simpa using hD
   by_cases hE:((c::m).take 2 == [61,61])=true
   ·have e:tk (c::m)=(3,2):=by simp only [tk,a,b,hE];rfl
    rw [e];simp only;have j:=beq_iff_eq.1 hE;rw [j];refine ⟨by rfl,rfl,by decide,?_⟩
    cases m with
    | nil=>simp at j
    | cons d m=>simp at j;simp [j.1]
   have i:((c::m).take 2 == [61,61])=false:=by simpa using hE
   by_cases hS:isS c=true
   ·have e:tk (c::m)=(3,1):=by simp only [tk,a,b,i,hS];rfl
    rw [e];simp only;refine ⟨?_,by simp,by decide,by simp⟩;simp [tk,a,b,hS]
   ·have l:isS c=false:=by simpa using hS
    have e:tk (c::m)=(0,0):=by simp only [tk,a,b,i,l];rfl
    simp [te,e] at h
 obtain ⟨k1,k2,k3,k4⟩:=k;refine ⟨k1,?_,k2,k3⟩;rw [<-h];unfold te;rw [k1,k4]
theorem C9 (k a:Int) (x:ByteArray):An ⟨k,a,x⟩=true ↔ x.size<=6000/\te x.data.toList=0/\((tk x.data.toList).1:Int)=k/\(tk x.data.toList).2=x.data.toList.length:=by
 rw [A9,Ge,Es,List.drop_zero];simp only [Nat.zero_add];constructor
 ·rintro ⟨_,g,b,f,c⟩
  exact ⟨g,b,f,by rw [c];rfl⟩
 ·rintro ⟨g,b,f,c⟩
  have:=(Je b).2.2.2;refine ⟨?_,g,b,f,by rw [c];rfl⟩;have e:x.data.toList.length=x.size:=rfl;omega
theorem F6 (s:ByteArray) (hs:s.size<=6000):∀ (f:Nat) (note:Bool) (i:Nat) (ts:List Tok),Bl s f note i=.inl ts->ts.all An=true:=by
 intro f
 induction f with
 | zero=>intro note i ts h;simp only [Bl,Sum.inl.injEq] at h;subst h;rfl
 | succ f ih=>
  intro note i ts h;simp only [Bl] at h;split at h
  ·split at h
   ·rename_i c g
    generalize AR note s.data.toList i=j at c g h
    cases hr:Bl s f false (AA s j).2 with
    | inl n=>
     rw [hr] at h;simp only [Sum.inl.injEq] at h;subst h;rw [List.all_cons,ih _ _ _ hr,Bool.and_true];have b:te (s.data.toList.drop j)=0:=by rw [<-Ge];exact g
     obtain ⟨k,m,l,r⟩:=Je b;have a:(s.extract j (AA s j).2).data.toList=(s.data.toList.drop j).take (tk (s.data.toList.drop j)).2:=by
      rw [Lib.extract_data,Es];simp only [Nat.add_sub_cancel_left]
     refine (C9 _ _ _).2 ⟨?_,?_,?_,?_⟩
     ·have:=Fx (s:=s) (i:=j) (by omega)
      rw [ByteArray.size_extract];omega
     ·rw [a];exact m
     ·rw [a,k,Es]
     ·rw [a,k,l]
    | inr x=>rw [hr] at h;simp at h
   ·simp at h
  ·simp only [Sum.inl.injEq] at h;subst h;rfl
end Go.Proofs.YtipngnjffjajpaaGreatDoor
namespace Go.Proofs.YtipngnjffjajpaaGreatDoor.Tx
open Go.RowKit
open Go.Value renaming int -> M, slice -> U, bool -> zc, pointer -> zd, agg -> zf, tuple -> zh
open Go.IntKind renaming i64 -> O
open Go.Obj renaming cells -> ze
open Go.Ending renaming returned -> zg
theorem G5 {w:World} {B:Nat} {v:Value} {ts:List Tok} (h:w.ownsRow B 44 3 v ts.length (AQ ts)) (h6:ts.length<=6000):F1 v ts w:=by
 obtain ⟨y,⟨k,c⟩ | ⟨g,b,m,f,r,n,x⟩⟩:=id h
 ·refine ⟨h6,none,0,by rw [k];simp [c],fun a=>?_⟩
  cases ts with
  | nil=>exact absurd rfl a
  | cons t l=>simp at c
 ·subst f
  exact ⟨h6,some ⟨g,0,none⟩,b,rfl,fun _=>⟨g,0,rfl,fun j u i=>by
   have t:=h.cells (g:=g) rfl j u i;rw [Addr.add_lit] at t;exact t⟩⟩
theorem C4 (s:ByteArray) (hs:s.size<=6000):(AB s).all An=true:=by
 unfold AB;split
 ·rename_i a h
  exact F6 s hs _ _ _ _ h
 ·rfl
end Go.Proofs.YtipngnjffjajpaaGreatDoor.Tx
