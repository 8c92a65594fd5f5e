/- token.Join answers what it must, whatever tokens it is handed. -/
import Derived.Test.YtipngnjffjajpaaGreatDoorJ14
set_option linter.unusedVariables false
set_option maxHeartbeats 8000000
set_option maxRecDepth 100000
namespace Go.Proofs.YtipngnjffjajpaaGreatDoor
open Go.RowKit
open Go.Value renaming int -> I, slice -> zc, bool -> zd, pointer -> zf, agg -> zg, tuple -> zi
open Go.IntKind renaming i64 -> O
open Go.Obj renaming cells -> ze
open Go.Ending renaming returned -> zh
def CZ (ts:List Tok):Int:=if ts.all Ao=true then (if BS ts<=6001 then 0 else 2) else 1
def DY (ts:List Tok):ByteArray:=if CZ ts=0 then ⟨(CJ ts).toArray⟩ else ⟨#[]⟩
theorem CI {t:Tok} (h:Ao t=true):t.text.size<=6000:=by
 simp only [Ao,Bool.and_eq_true,decide_eq_true_eq] at h;exact h.1.1
theorem IR {w w':World} {b off:Nat} {ts:List Tok} (h:∀ j u,(AM ts)[j]? = some u->w.cell? ⟨b,off+j,none⟩=some u) (hb:Below w.heap.size w w') :
  ∀ j u,(AM ts)[j]? = some u->w'.cell? ⟨b,off+j,none⟩=some u:=fun j u hu=>by
 have h1:=h j u hu;rw [hb.cell (p:=⟨b,off+j,none⟩) (World.block_lt_of_cell? w _ h1)];exact h1
theorem Jh (ts:List Tok) (h:ts.all Ao=true):BS ts<=6001*ts.length:=by
 induction ts with
 | nil=>simp [BS]
 | cons t ts ih=>
  simp only [List.all_cons,Bool.and_eq_true] at h;have b:=CI h.1;have a:=ih h.2;simp [BS] at a ⊢;omega
theorem Oq (v:Value) (ts:List Tok) (w:World) (hv:G6 w v ts) (hn:ts.length*32<=140737488355328) (hx:∀ t∈ts,t.text.size<=maxLen) :
  Calls Tryz.prog 18 #[v] w fun e w'=>e=zh (zi #[.string (DY ts),I O (CZ ts)])/\Below w.heap.size w w':=by
 have u:=hv;obtain ⟨ao,aa,rfl,A⟩:=hv;go_enter Tryz.func18,Tryz.ntmps18;go_wp2_with fail;go_loopw [4,9] (fun l i wr=>∃ k:Nat,k<=ts.length/\i=I O k/\l=I O (BS (ts.take k):Nat)/\(ts.take k).all Ao=true/\Below w.heap.size w wr) (fun _ i _=>ts.length - (intOf i).toNat)
 case atStart=>exact ⟨0,Nat.zero_le _,rfl,rfl,rfl,Below.refl _ w⟩
 case round=>
  obtain ⟨k,hk,rfl,rfl,n,a⟩:=hrel;have J:=Jh _ n;have P:BS (ts.take k)<=6001*k:=by rw [List.length_take] at J;exact Nat.le_trans J (Nat.mul_le_mul_left _ (Nat.min_le_left _ _))
  clear J;by_cases hkl:k < ts.length
  ·obtain ⟨b,ag,rfl,U⟩:=A (by rintro rfl;simp at hkl)
   obtain ⟨q0,q1,Y⟩:=ET (IR U a) hkl;have C:=hx _ (List.getElem_mem hkl);have G:ts.take (k+1)=ts.take k++[ts[k]]:=List.take_succ_eq_append_getElem hkl;have c:=MP ts[k].kind ts[k].pos ts[k].text C;have T:ts[k]=⟨ts[k].kind,ts[k].pos,ts[k].text⟩:=rfl;obtain ⟨M,j⟩:∃ M,M=Ao ts[k]:=⟨_,rfl⟩;have H:BS (ts.take (k+1))=BS (ts.take k)+(ts[k].text.size+1):=by rw [G,Gz]
   have F:(ts.take (k+1)).all Ao=M:=by rw [G,List.all_append,n,j];simp
   have B:M=true->ts[k].text.size<=6000:=fun h=>CI (by rw [<-j];exact h);have E:M=false->CZ ts=1:=fun h=>by
    unfold CZ;rw [if_neg];intro hh;have:=List.all_eq_true.1 hh ts[k] (List.getElem_mem hkl);rw [<-j,h] at this;cases this
   rw [<-T,<-j] at c;unfold AG at c;obtain ⟨kk,R⟩:∃ x,x=ts[k].kind:=⟨_,rfl⟩;obtain ⟨pp,Q⟩:∃ x,x=ts[k].pos:=⟨_,rfl⟩;obtain ⟨tx,N⟩:∃ x,x=ts[k].text:=⟨_,rfl⟩;rw [<-R] at q0 c;rw [<-Q] at q1 c;rw [<-N] at Y c H B C;have W:=Aa c;have ab:=Aa H;have ad:=Aa F;have HB:=Aa E;clear R Q N c H F E j T G U A hx u
   cases M with
   | true=>
    have X:=B rfl;clear B;go_wp2_with fail;refine (W.out _).mono ?_;rintro e L ⟨rfl,g⟩;obtain ⟨V,Z⟩:=D9 g;have t2:L.cell? ⟨wr.heap.size,2,none⟩=some (.string tx):=by rw [V _ _ (by simp)];simp [go_sem]
    have f:Below w.heap.size w L:=(a.alloc (by have:=a.size;omega) _).trans (g.mono (by have:=a.size;simp;omega));clear V Z g q0 q1 Y;go_wp2_with fail;refine ⟨⟨k+1,by omega,by go_num,?_,ad.out,f⟩,by simp [intOf];omega⟩;rw [ab.out];go_num
   | false=>
    clear B;go_wp2_with fail;refine (W.out _).mono ?_;rintro e L ⟨rfl,g⟩;have f:Below w.heap.size w L:=(a.alloc (by have:=a.size;omega) _).trans (g.mono (by have:=a.size;simp;omega));clear g q0 q1 Y;go_wp2_with fail
    go_ret2
    have y:=HB.out (by first | rfl | trivial);exact ⟨by simp [DY,y],f⟩
  ·have S:k=ts.length:=by omega
   have hz:BS (ts.take k)=BS ts:=by rw [S,List.take_length]
   have c:ts.all Ao=true:=by rw [S,List.take_length] at n;exact n
   rw [hz] at P ⊢;clear hz n;by_cases X:BS ts<=6001
   ·have y:CZ ts=0:=by simp [CZ,c,X]
    have r:DY ts=⟨(CJ ts).toArray⟩:=by simp [DY,y]
    have hg:=NY (zc ao ts.length aa) ts wr (JI u a) X;have HJ:=Aa y;have K:=Aa r;have HG:=Aa hg;clear y r hg A u c hx;go_wp2_with fail;refine (HG.out).mono ?_;rintro e L ⟨rfl,g⟩;have f:Below w.heap.size w L:=a.trans (g.mono a.size);go_wp2_with fail
    go_ret2
    exact ⟨by rw [HJ.out,K.out];rfl,f⟩
   ·have y:CZ ts=2:=by simp [CZ,c,X]
    have r:DY ts=⟨#[]⟩:=by simp [DY,y]
    have HJ:=Aa y;have K:=Aa r;clear y r A u c hx;go_wp2_with fail
    go_ret2
    exact ⟨by rw [HJ.out,K.out];rfl,a⟩
theorem En {s:ByteArray} {f i j:Nat} {note note':Bool} (h:AJ note s.data.toList i=AJ note' s.data.toList j):Bi s f note i=Bi s f note' j:=by
 cases f with
 | zero=>rfl
 | succ f=>simp only [Bi,h]
theorem Mg {l:List UInt8} {i:Nat} (h:i < l.length):AJ true l i=AJ (Dw l[i]) l (i+1):=by
 unfold AJ;rw [List.drop_eq_getElem_cons h];simp only [BU];omega
theorem Mh {l:List UInt8} {i:Nat} (h:i < l.length) (h35:l[i].toNat=35):AJ false l i=AJ true l (i+1):=by
 unfold AJ;rw [List.drop_eq_getElem_cons h];simp only [BU,h35,if_true];omega
theorem EG (w:World) (a b:Int) (x:ByteArray):∀ (j:Nat) (u:Value),[Value.int O a,I O b,.string x][j]? = some u->(w.alloc (ze #[I O a,I O b,.string x] 44)).cell? ((⟨w.heap.size,0,none⟩:Addr).add j)=some u:=by
 intro q u c
 match q,c with
 | 0,c=>simp at c;subst c;simp [Addr.add]
 | 1,c=>simp at c;subst c;simp [Addr.add]
 | 2,c=>simp at c;subst c;simp [Addr.add]
theorem Gb (a b:Int) (x:ByteArray):∀ u∈[Value.int O a,I O b,.string x],u.oneCell'=true:=by
 intro u c;simp at c;rcases c with rfl | rfl | rfl <;> rfl
theorem Gc {n i m:Nat} (h1:n<=i) (h2:i<=m) (h3:m<=6000):n+1<=maxLen:=by unfold maxLen;omega
theorem EH {n i m:Nat} (h1:n<=i) (h2:i<=m) (h3:m<=6000):(n+1)*32<=140737488355328:=by omega
theorem Fd {w w':World} {o:Obj} (h:Below w.heap.size w w'):w.heap.size<=(w'.alloc o).heap.size:=by have:=h.size;simp;omega
def Nm (s:ByteArray) (w:World) (o nt vi:Value) (wr:World):Prop:=
 ∃ (note:Bool) (i f:Nat) (ts:List Tok),nt=zd note/\vi=I O (i:Int)/\i<=s.size/\s.size < f+i/\Hid (B6 s=pre ts (Bi s f note i))/\ts.length<=i /\
  wr.ownsRow w.heap.size 44 3 o ts.length (AM ts)/\Below w.heap.size w wr
theorem Fo {s:ByteArray} {w wr w2:World} {i f n:Nat} {ts:List Tok} {kk:Nat} {v':Value} {o:Obj} {v:Value} (HS:Hid (B6 s=pre ts (Bi s f false i))) (hf:s.size < f+i) (htl:ts.length<=i) (hlt:i < s.size)
  (hsk:Hid (AJ false s.data.toList i=i)) (hk:Hid (Ay s i=(kk,i+n))) (he:Hid (AE s i=0)) (hown0:wr.ownsRow w.heap.size 44 3 v ts.length (AM ts))
  (hown:w2.ownsRow w.heap.size 44 3 v' (ts.length+1) (AM ts++[I O (kk:Int),I O (i:Int),.string (s.extract i (i+n))]))
  (hg:(wr.alloc o).grownBy w2 v.ownBlock) (hb:Below w.heap.size w wr):Nm s w v' (zd false) (I O ((i:Int)+(n:Int))) w2:=by
 obtain ⟨c,rfl⟩:∃ c,f=c + 1:=⟨f - 1,by omega⟩;have a:=Ca he.out;rw [hk.out] at a;have b:=Ho HS.out (by rw [hsk.out];exact hlt) (by rw [hsk.out];exact he.out);rw [hsk.out] at b;have g:Fe s i=⟨kk,i,s.extract i (i+n)⟩:=by unfold Fe;rw [hk.out]
 rw [g,hk.out] at b;simp only at b a;refine ⟨false,i+n,c,ts++[⟨kk,i,s.extract i (i+n)⟩],rfl,by go_num,a.2,by omega,Aa b,by simp;omega,?_,?_⟩
 ·rw [Ee,List.length_append]
  exact hown
 ·exact (hb.alloc hb.size _).grown hg (by have:=hb.size;simp;omega) (fun k hk=>(hown0.lt k hk).1)
theorem Io (s:ByteArray) (hs:s.size<=6000) (w:World) :
  Calls Tryz.prog 24 #[.string s] w fun e w'=>∃ v,e=zh (zi #[v,I O (Cf s:Int),I O (AZ s:Int)]) /\
   w'.ownsRow w.heap.size 44 3 v (An s).length (AM (An s))/\Below w.heap.size w w':=by
 obtain ⟨i0,hi,S,Q,P⟩:=info_parts Tryz.info34;go_enter Tryz.func24,Tryz.ntmps24;go_wp2_with fail;go_loopw [5,6,7] (fun o nt vi wr=>Nm s w o nt vi wr) (fun _ _ vi _=>s.size - (intOf vi).toNat)
 case atStart=>exact ⟨false,0,s.size+1,[],rfl,rfl,Nat.zero_le _,by omega,(LP _).symm,Nat.zero_le _,World.ownsRow_nil _ _ _ _,Below.refl _ _⟩
 case round=>
  obtain ⟨aa,i,f,N,rfl,rfl,y,V,F,r,a,b⟩:=hrel;by_cases hlt:i < s.size
  ·have hl:i < s.data.toList.length:=by simpa using hlt
   cases aa with
   | true=>
    have x:Hid (B6 s=pre N (Bi s f (Dw s[i]) (i+1))):=by
     show _=_;rw [F.out];exact congrArg _ (En (Mg hl))
    have ap:Hid (Dw s[i]=((s[i].toNat:Int) != 10)):=by
     show _=_;unfold Dw;rw [Bool.eq_iff_iff];simp;omega
    clear F;go_wp2_with fail;refine ⟨⟨Dw s[i],i+1,f,N,by rw [ap.out],by go_num,by omega,by omega,x,by omega,a,b⟩,by simp [intOf];omega⟩
   | false=>
    by_cases h35:s[i].toNat=35
    ·have aw:((s[i].toNat:Int) == 35)=true:=beq_iff_eq.2 (by omega)
     have bn:((s[i].toNat:Int) != 10)=true:=by rw [bne_iff_ne];omega
     have x:Hid (B6 s=pre N (Bi s f true (i+1))):=by
      show _=_;rw [F.out];exact congrArg _ (En (Mh hl h35))
     clear F h35;go_wp2_with fail;refine ⟨⟨true,i+1,f,N,rfl,by go_num,by omega,by omega,x,by omega,a,b⟩,by simp [intOf];omega⟩
    have aw:((s[i].toNat:Int) == 35)=false:=beq_eq_false_iff_ne.2 (by omega);have J:Cw s[i]=true->Hid (B6 s=pre N (Bi s f false (i+1))):=fun hb=>by
     show _=_;rw [F.out];exact congrArg _ (En (F2 hl h35 hb))
    have G:=Aa J;clear J;by_cases h32:s[i].toNat=32
    ·have ax:((s[i].toNat:Int) == 32)=true:=beq_iff_eq.2 (by omega)
     have x:=G.out (by simp [Cw,h32]);clear F h35 h32 G;go_wp2_with fail;refine ⟨⟨false,i+1,f,N,rfl,by go_num,by omega,by omega,x,by omega,a,b⟩,by simp [intOf];omega⟩
    have ax:((s[i].toNat:Int) == 32)=false:=beq_eq_false_iff_ne.2 (by omega);by_cases h9:s[i].toNat=9
    ·have b9:((s[i].toNat:Int) == 9)=true:=beq_iff_eq.2 (by omega)
     have x:=G.out (by simp [Cw,h9]);clear F h35 h32 h9 G;go_wp2_with fail;refine ⟨⟨false,i+1,f,N,rfl,by go_num,by omega,by omega,x,by omega,a,b⟩,by simp [intOf];omega⟩
    have b9:((s[i].toNat:Int) == 9)=false:=beq_eq_false_iff_ne.2 (by omega);by_cases h10:s[i].toNat=10
    ·have ay:((s[i].toNat:Int) == 10)=true:=beq_iff_eq.2 (by omega)
     have x:=G.out (by simp [Cw,h10]);clear F h35 h32 h9 h10 G;go_wp2_with fail;refine ⟨⟨false,i+1,f,N,rfl,by go_num,by omega,by omega,x,by omega,a,b⟩,by simp [intOf];omega⟩
    have ay:((s[i].toNat:Int) == 10)=false:=beq_eq_false_iff_ne.2 (by omega);have M:AJ false s.data.toList i=i:=E6 hl h35 (by show Cw s[i]=false;simp only [Cw];rw [decide_eq_false_iff_not];omega);have au:i<=(Ay s i).2:=by
     by_cases h0:AE s i=0
     ·have:=(Ca h0).1;omega
     ·exact MT s i
    have ag:=Gt (s:=s) (j:=i);have ad:=Gs (s:=s) (i:=i) y;have ht:=FZ s i hlt hs;obtain ⟨kk,U⟩:∃ kk,kk=(Ay s i).1:=⟨_,rfl⟩;obtain ⟨n,hn⟩:∃ n,n=DC s i:=⟨_,rfl⟩;rw [<-U,<-hn] at ht;rw [<-U] at ag;have hk:Ay s i=(kk,i+n):=by
     rw [U,hn];unfold DC
     ext
     ·rfl
     ·show _=i+((Ay s i).2 - i);omega
    have a2:i+n<=s.size:=by rw [hk] at ad;exact ad
    have ab:AE s i≠0->An s=[]/\Cf s=i/\AZ s=AE s i:=fun he=>by
     obtain ⟨f',rfl⟩:∃ f',f=f' + 1:=⟨f - 1,by omega⟩;have af:=Hn F.out (by rw [M];exact hlt) (by rw [M];exact he);rw [M] at af;simp [An,Cf,AZ,af]
    have hq:=Po hlt;have HT:=Aa ht;have W:=Aa M;have C:=Aa hk;have l:=Aa ab;have HQ:=Aa hq;clear h35 h32 h9 h10 G M au ad U ht hn hk ab hq;rcases (show kk=0\/kk=1\/kk=2\/kk=3 by omega) with rfl | rfl | rfl | rfl
    ·have u:Hid (AE s i=1):=by show _=_;simp [AE,C.out]
     obtain ⟨L,K,A⟩:=l.out (by rw [u.out];decide);rw [u.out] at A;have Z:=Aa L;have Y:=Aa K;have X:=Aa A;clear L K A l;go_wp2_with fail;refine (HT.out _).mono ?_;rintro e w' ⟨rfl,rfl⟩;go_wp2_with fail
     go_ret3
     exact ⟨zc none 0 0,by rw [Y.out,X.out];rfl,by rw [Z.out];exact World.ownsRow_nil _ _ _ _,b⟩
    ·by_cases h12:12 < n
     ·have u:Hid (AE s i=2):=by show _=_;simp [AE,C.out,h12]
      obtain ⟨L,K,A⟩:=l.out (by rw [u.out];decide);rw [u.out] at A;have Z:=Aa L;have Y:=Aa K;have X:=Aa A;clear L K A l;go_wp2_with fail;refine (HT.out _).mono ?_;rintro e w' ⟨rfl,rfl⟩;go_wp2_with fail
      go_ret3
      exact ⟨zc none 0 0,by rw [Y.out,X.out];rfl,by rw [Z.out];exact World.ownsRow_nil _ _ _ _,b⟩
     ·have u:Hid (AE s i=0):=by show _=_;simp [AE,C.out,h12]
      go_wp2_with fail;refine (HT.out _).mono ?_;rintro e w' ⟨rfl,rfl⟩;go_wp2_with (at_builtin;refine wpList_append_own _ rfl _ _ 34 rfl w.heap.size 44 i0 (zg #[I O 0,I O 0,.string ⟨#[]⟩]) 3 32 Tryz.underlying34 hi S Q P rfl (by decide) _ _ _ rfl (a.alloc _) ⟨w'.heap.size,0,none⟩ 1 1 [I O 1,I O (i:Int),.string (s.extract i (i+n))] rfl rfl (EG w' 1 i _) (Gb 1 i _) (Gc r y hs) (EH r y hs) (Fd b) ?_)
      ·intro v' w2 c g E
       have ac:0 < n:=by have:=(Ca u.out).1;rw [C.out] at this;simp at this;omega
       have R:=Fo (kk:=1) F V r hlt W C u a c g b;have HR:=Aa R;clear R c g E a;go_wp2_with fail;exact ⟨HR.out,by simp [intOf];omega⟩
    ·by_cases h7:7 < n
     ·have u:Hid (AE s i=2):=by show _=_;simp [AE,C.out,h7]
      obtain ⟨L,K,A⟩:=l.out (by rw [u.out];decide);rw [u.out] at A;have Z:=Aa L;have Y:=Aa K;have X:=Aa A;clear L K A l;go_wp2_with fail;refine (HT.out _).mono ?_;rintro e w' ⟨rfl,rfl⟩;go_wp2_with fail
      go_ret3
      exact ⟨zc none 0 0,by rw [Y.out,X.out];rfl,by rw [Z.out];exact World.ownsRow_nil _ _ _ _,b⟩
     by_cases h1:1 < n
     ·have T:(s.extract i (i+n))[0]'(by simp;omega)=s[i]:=by
       simp [ByteArray.getElem_extract]
      by_cases h48:s[i].toNat=48
      ·have av:(((s.extract i (i+n))[0]'(by simp;omega)).toNat:Int) == 48:=by rw [T];exact beq_iff_eq.2 (by omega)
       have B:s[i]=48:=(Bl _ _).2 h48;have u:Hid (AE s i=1):=by show _=_;simp only [AE,C.out,HQ.out,B];simp [h1,h7]
       clear h48 B T;obtain ⟨L,K,A⟩:=l.out (by rw [u.out];decide);rw [u.out] at A;have Z:=Aa L;have Y:=Aa K;have X:=Aa A;clear L K A l;go_wp2_with fail;refine (HT.out _).mono ?_;rintro e w' ⟨rfl,rfl⟩;go_wp2_with fail
       go_ret3
       exact ⟨zc none 0 0,by rw [Y.out,X.out];rfl,by rw [Z.out];exact World.ownsRow_nil _ _ _ _,b⟩
      ·have av:((((s.extract i (i+n))[0]'(by simp;omega)).toNat:Int) == 48)=false:=by rw [T];exact beq_eq_false_iff_ne.2 (by omega)
       have B:¬ s[i]=48:=fun h=>h48 (by rw [h];rfl);have u:Hid (AE s i=0):=by show _=_;simp only [AE,C.out,HQ.out];simp [h1,h7,B]
       clear h48 B T;go_wp2_with fail;refine (HT.out _).mono ?_;rintro e w' ⟨rfl,rfl⟩;go_wp2_with (at_builtin;refine wpList_append_own _ rfl _ _ 34 rfl w.heap.size 44 i0 (zg #[I O 0,I O 0,.string ⟨#[]⟩]) 3 32 Tryz.underlying34 hi S Q P rfl (by decide) _ _ _ rfl (a.alloc _) ⟨w'.heap.size,0,none⟩ 1 1 [I O 2,I O (i:Int),.string (s.extract i (i+n))] rfl rfl (EG w' 2 i _) (Gb 2 i _) (Gc r y hs) (EH r y hs) (Fd b) ?_)
       ·intro v' w2 c g E
        have ac:0 < n:=by have:=(Ca u.out).1;rw [C.out] at this;simp at this;omega
        have R:=Fo (kk:=2) F V r hlt W C u a c g b;have HR:=Aa R;clear R c g E a;go_wp2_with fail;exact ⟨HR.out,by simp [intOf];omega⟩
     ·have u:Hid (AE s i=0):=by show _=_;simp only [AE,C.out];simp [h1,h7]
      go_wp2_with fail;refine (HT.out _).mono ?_;rintro e w' ⟨rfl,rfl⟩;go_wp2_with (at_builtin;refine wpList_append_own _ rfl _ _ 34 rfl w.heap.size 44 i0 (zg #[I O 0,I O 0,.string ⟨#[]⟩]) 3 32 Tryz.underlying34 hi S Q P rfl (by decide) _ _ _ rfl (a.alloc _) ⟨w'.heap.size,0,none⟩ 1 1 [I O 2,I O (i:Int),.string (s.extract i (i+n))] rfl rfl (EG w' 2 i _) (Gb 2 i _) (Gc r y hs) (EH r y hs) (Fd b) ?_)
      ·intro v' w2 c g E
       have ac:0 < n:=by have:=(Ca u.out).1;rw [C.out] at this;simp at this;omega
       have R:=Fo (kk:=2) F V r hlt W C u a c g b;have HR:=Aa R;clear R c g E a;go_wp2_with fail;exact ⟨HR.out,by simp [intOf];omega⟩
    ·have u:Hid (AE s i=0):=by show _=_;simp [AE,C.out]
     go_wp2_with fail;refine (HT.out _).mono ?_;rintro e w' ⟨rfl,rfl⟩;go_wp2_with (at_builtin;refine wpList_append_own _ rfl _ _ 34 rfl w.heap.size 44 i0 (zg #[I O 0,I O 0,.string ⟨#[]⟩]) 3 32 Tryz.underlying34 hi S Q P rfl (by decide) _ _ _ rfl (a.alloc _) ⟨w'.heap.size,0,none⟩ 1 1 [I O 3,I O (i:Int),.string (s.extract i (i+n))] rfl rfl (EG w' 3 i _) (Gb 3 i _) (Gc r y hs) (EH r y hs) (Fd b) ?_)
     ·intro v' w2 c g E
      have ac:0 < n:=by have:=(Ca u.out).1;rw [C.out] at this;simp at this;omega
      have R:=Fo (kk:=3) F V r hlt W C u a c g b;have HR:=Aa R;clear R c g E a;go_wp2_with fail;exact ⟨HR.out,by simp [intOf];omega⟩
  ·have H:B6 s=.inl N:=by
    obtain ⟨f',rfl⟩:∃ f',f=f' + 1:=⟨f - 1,by omega⟩;exact Jm F.out (by have:=El aa s.data.toList i;omega)
   have L:An s=N:=by simp [An,H]
   have K:Cf s=0:=by simp [Cf,H]
   have A:AZ s=0:=by simp [AZ,H]
   have Z:=Aa L;have Y:=Aa K;have X:=Aa A;clear L K A H F;go_wp2_with fail
   go_ret3
   exact ⟨_,by rw [Y.out,X.out];rfl,by rw [Z.out];exact a,b⟩
theorem Kp (s:ByteArray) (hs:s.size<=maxLen) (w:World):Calls Tryz.prog 24 #[.string s] w (L8 s w):=by
 unfold maxLen at hs;by_cases h:s.size<=6000
 ·refine (Io s h w).mono ?_
  rintro e c ⟨v,rfl,a,b⟩;exact ⟨v,An s,Cf s,AZ s,rfl,a,b,by rw [if_pos h];exact ⟨rfl,rfl,rfl⟩⟩
 ·go_enter Tryz.func24,Tryz.ntmps24
  go_wp2_with fail
  go_ret3
  exact ⟨zc none 0 0,[],0,2,rfl,World.ownsRow_nil _ _ _ _,Below.refl _ _,by rw [if_neg h];exact ⟨rfl,rfl,rfl⟩⟩
def tk:List UInt8->Nat × Nat
 | []=>(0,0)
 | c::m=>
  if isL c=true then (1,((c::m).takeWhile isN).length)
  else if isD c=true then (2,((c::m).takeWhile isD).length)
  else if (c::m).take 2 == [61,61] then (3,2)
  else if isS c=true then (3,1)
  else (0,0)
def te (m:List UInt8):Nat:=
 if (tk m).1=0 then 1
 else if (tk m).1=1/\12 < (tk m).2\/(tk m).1=2/\7 < (tk m).2 then 2
 else if (tk m).1=2/\1 < (tk m).2/\m[0]? = some 48 then 1
 else 0
theorem Ef (s:ByteArray) (i:Nat):Ay s i=((tk (s.data.toList.drop i)).1,i+(tk (s.data.toList.drop i)).2):=by
 unfold Ay;by_cases h:i < s.size
 ·rw [dif_pos h]
  have a:i < s.data.toList.length:=by simpa using h
  have b:s.data.toList[i]=s[i]:=rfl;unfold CB AC;rw [List.drop_eq_getElem_cons a,b];simp only [tk];split
  ·rfl
  ·split
   ·rfl
   ·split
    ·rfl
    ·split <;> rfl
 ·rw [dif_neg h,List.drop_of_length_le (by simp;omega)]
  rfl
theorem FI (s:ByteArray) (i:Nat):AE s i=te (s.data.toList.drop i):=by
 unfold AE te;rw [Ef];simp only [Nat.add_sub_cancel_left,List.getElem?_drop,Nat.add_zero]
theorem G8 {p:UInt8->Bool} {l:List UInt8} (h:(l.takeWhile p).length=l.length):l.takeWhile p=l:=
 (List.takeWhile_prefix p).eq_of_length h
theorem Eh {p:UInt8->Bool} (l:List UInt8):(l.take (l.takeWhile p).length).takeWhile p=l.take (l.takeWhile p).length:=by
 have h:l.take (l.takeWhile p).length=l.takeWhile p:=(List.prefix_iff_eq_take.1 (List.takeWhile_prefix p)).symm;rw [h]
 induction l with
 | nil=>rfl
 | cons c l ih=>
  rw [List.takeWhile_cons];split
  ·rename_i a
   rw [List.takeWhile_cons,if_pos a];congr 1;exact ih ((List.prefix_iff_eq_take.1 (List.takeWhile_prefix p)).symm)
  ·rfl
theorem LF {m:List UInt8} (h:te m=0):tk (m.take (tk m).2)=tk m/\te (m.take (tk m).2)=0/\(m.take (tk m).2).length=(tk m).2/\0 < (tk m).2:=by
 have l:tk (m.take (tk m).2)=tk m/\(m.take (tk m).2).length=(tk m).2/\0 < (tk m).2/\(m.take (tk m).2)[0]? = m[0]?:=by
  cases m with
  | nil=>simp [te,tk] at h
  | cons c m=>
   by_cases hL:isL c=true
   ·have e:tk (c::m)=(1,((c::m).takeWhile isN).length):=by simp [tk,hL]
    have hw:(c::m).takeWhile isN=c::m.takeWhile isN:=by rw [List.takeWhile_cons,if_pos (by simp [isN,hL])]
    have f:(c::m).take ((c::m).takeWhile isN).length=c::m.take (m.takeWhile isN).length:=by rw [hw];simp
    rw [e];simp only;refine ⟨?_,?_,by rw [hw];simp,by rw [f];simp⟩
    ·have g:=Eh (p:=isN) (c::m)
     rw [f] at g ⊢;simp only [tk,hL,if_true];rw [g,<-f,List.length_take,Nat.min_eq_left (List.takeWhile_prefix _).length_le]
    ·rw [List.length_take,Nat.min_eq_left (List.takeWhile_prefix _).length_le]
   have a:isL c=false:=by simpa using hL
   by_cases hD:isD c=true
   ·have e:tk (c::m)=(2,((c::m).takeWhile isD).length):=by simp [tk,a,hD]
    have hw:(c::m).takeWhile isD=c::m.takeWhile isD:=by rw [List.takeWhile_cons,if_pos hD]
    have f:(c::m).take ((c::m).takeWhile isD).length=c::m.take (m.takeWhile isD).length:=by rw [hw];simp
    rw [e];simp only;refine ⟨?_,?_,by rw [hw];simp,by rw [f];simp⟩
    ·have g:=Eh (p:=isD) (c::m)
     rw [f] at g ⊢;simp only [tk,a,hD,if_true];rw [g,<-f,List.length_take,Nat.min_eq_left (List.takeWhile_prefix _).length_le];rfl
    ·rw [List.length_take,Nat.min_eq_left (List.takeWhile_prefix _).length_le]
   have b:isD c=false:=by simpa using hD
   by_cases hE:((c::m).take 2 == [61,61])=true
   ·have e:tk (c::m)=(3,2):=by simp only [tk,a,b,hE];rfl
    rw [e];simp only;have j:=beq_iff_eq.1 hE;rw [j];refine ⟨by rfl,rfl,by decide,?_⟩
    cases m with
    | nil=>simp at j
    | cons d m=>simp at j;simp [j.1]
   have i:((c::m).take 2 == [61,61])=false:=by simpa using hE
   by_cases hS:isS c=true
   ·have e:tk (c::m)=(3,1):=by simp only [tk,a,b,i,hS];rfl
    rw [e];simp only;refine ⟨?_,by simp,by decide,by simp⟩;simp [tk,a,b,hS]
   ·have n:isS c=false:=by simpa using hS
    have e:tk (c::m)=(0,0):=by simp only [tk,a,b,i,n];rfl
    simp [te,e] at h
 obtain ⟨r,x,v,u⟩:=l;refine ⟨r,?_,x,v⟩;rw [<-h];unfold te;rw [r,u]
theorem CU (k a:Int) (x:ByteArray):Ao ⟨k,a,x⟩=true ↔ x.size<=6000/\te x.data.toList=0/\((tk x.data.toList).1:Int)=k/\(tk x.data.toList).2=x.data.toList.length:=by
 rw [Ba,FI,Ef,List.drop_zero];simp only [Nat.zero_add];constructor
 ·rintro ⟨_,g,b,f,c⟩
  exact ⟨g,b,f,by rw [c];rfl⟩
 ·rintro ⟨g,b,f,c⟩
  have:=(LF b).2.2.2;refine ⟨?_,g,b,f,by rw [c];rfl⟩;have e:x.data.toList.length=x.size:=rfl;omega
def MU (t:Tok):Int × ByteArray:=(t.kind,t.text)
theorem Ha (s:ByteArray) (hs:s.size<=6000):∀ (f:Nat) (note:Bool) (i:Nat) (ts:List Tok),Bi s f note i=.inl ts->ts.all Ao=true:=by
 intro f
 induction f with
 | zero=>intro note i ts h;simp only [Bi,Sum.inl.injEq] at h;subst h;rfl
 | succ f ih=>
  intro note i ts h;simp only [Bi] at h;split at h
  ·split at h
   ·rename_i c g
    generalize AJ note s.data.toList i=j at c g h
    cases hr:Bi s f false (Ay s j).2 with
    | inl u=>
     rw [hr] at h;simp only [Sum.inl.injEq] at h;subst h;rw [List.all_cons,ih _ _ _ hr,Bool.and_true];have b:te (s.data.toList.drop j)=0:=by rw [<-FI];exact g
     obtain ⟨l,r,n,v⟩:=LF b;have a:(s.extract j (Ay s j).2).data.toList=(s.data.toList.drop j).take (tk (s.data.toList.drop j)).2:=by
      rw [Lib.extract_data,Ef];simp only [Nat.add_sub_cancel_left]
     refine (CU _ _ _).2 ⟨?_,?_,?_,?_⟩
     ·have:=Gs (s:=s) (i:=j) (by omega)
      rw [ByteArray.size_extract];omega
     ·rw [a];exact r
     ·rw [a,l,Ef]
     ·rw [a,l,n]
    | inr x=>rw [hr] at h;simp at h
   ·simp at h
  ·simp only [Sum.inl.injEq] at h;subst h;rfl
end Go.Proofs.YtipngnjffjajpaaGreatDoor
namespace Go.Proofs.YtipngnjffjajpaaGreatDoor.Tx
open Go.RowKit
open Go.Value renaming int -> I, slice -> zc, bool -> zd, pointer -> zf, agg -> zg, tuple -> zi
open Go.IntKind renaming i64 -> O
open Go.Obj renaming cells -> ze
open Go.Ending renaming returned -> zh
theorem I8 {w:World} {B:Nat} {v:Value} {ts:List Tok} (h:w.ownsRow B 44 3 v ts.length (AM ts)) (h6:ts.length<=6000):G4 v ts w:=by
 obtain ⟨C,⟨n,c⟩ | ⟨g,b,r,f,y,x,A⟩⟩:=id h
 ·refine ⟨h6,none,0,by rw [n];simp [c],fun a=>?_⟩
  cases ts with
  | nil=>exact absurd rfl a
  | cons t l=>simp at c
 ·subst f
  exact ⟨h6,some ⟨g,0,none⟩,b,rfl,fun _=>⟨g,0,rfl,fun j u i=>by
   have t:=h.cells (g:=g) rfl j u i;rw [Addr.add_lit] at t;exact t⟩⟩
theorem Dn (s:ByteArray) (hs:s.size<=6000):(An s).all Ao=true:=by
 unfold An;split
 ·rename_i a h
  exact Ha s hs _ _ _ _ h
 ·rfl
theorem XE.z {W:World}:∀ {k:Nat} {cs:List Value} {d:D},XE W k cs d->SD d->ZE W k cs d
 | 0,cs,d,h,_=>h.elim
 | k+1,cs,d,h,hs=>by
  obtain ⟨kd,a,n,x,v,ds,h1,rfl,h3⟩:=h;obtain ⟨-,ao,c,rfl,-⟩:=id h3;obtain ⟨-,-,-,hx,hd⟩:=Ry hs.of_agg;exact ⟨kd,a,n,x,ao,c,ds,h1,rfl,CP hx.of_str,h3.imp fun cs d hm hh=>XE.z hh (hd.of_list d hm)⟩
theorem XC.z {W:World}:∀ {k:Nat} {cs:List Value} {d:D},XC W k cs d->SD d->ZC W 61 k cs d
 | 0,cs,d,h,_=>h.elim
 | k+1,cs,d,h,hs=>by
  obtain ⟨kd,a,x,y,e0,e1,e2,e3,e4,e,vA,args,vT,th,vE,el,h1,rfl,h3,h4,h5,h6⟩:=h;obtain ⟨-,aA,cA,rfl,-⟩:=id h4;obtain ⟨-,aT,cT,rfl,-⟩:=id h5;obtain ⟨-,aE,cE,rfl,-⟩:=id h6;obtain ⟨-,-,hx,hy,he,hA,hT,hE⟩:=Rx hs.of_agg;have hz:=XE.z h3 he;obtain ⟨k0,k1,k2,k3,q,q1,q2,hk⟩:=hz.cells;simp only [List.cons.injEq,and_true] at hk;obtain ⟨rfl,rfl,rfl,rfl,rfl⟩:=hk;exact ⟨kd,a,x,y,k0,k1,k2,k3,q,q1,q2,e,aA,cA,args,aT,cT,th,aE,cE,el,h1,rfl,CP hx.of_str,CP hy.of_str,hz,h4.imp fun cs d hm hh=>XE.z hh (hA.of_list d hm),h5.imp fun cs d hm hh=>XC.z hh (hT.of_list d hm),h6.imp fun cs d hm hh=>XC.z hh (hE.of_list d hm)⟩
theorem MZ {W:World} {v:Value} {ns:List ByteArray} (h:BR W v ns) (hs:∀ x∈ns,x.size<=6000):LS 1 ZN W v ns:=h.imp fun cs x hm hh=>⟨hh,CP (hs x hm)⟩
theorem XD.z {W:World} {f:Nat} {cs:List Value} {d:D} (h:XD W f cs d) (hs:SD d):ZD W 61 f cs d:=by
 obtain ⟨F,a,x,y,T,vL,E,vP,B,vB,b,r0,r1,r2,r3,r4,r,S,rfl,u,n,l,R⟩:=h;obtain ⟨-,aL,Y,rfl,-⟩:=id u;obtain ⟨-,aP,X,rfl,-⟩:=id n;obtain ⟨-,aB,Z,rfl,-⟩:=id l;obtain ⟨-,-,L,K,-,P,O,Q,hr⟩:=Rv hs.of_agg;have i:=XE.z R hr;obtain ⟨J,I,H,G,q,q1,A,j⟩:=i.cells;simp only [List.cons.injEq,and_true] at j;obtain ⟨rfl,rfl,rfl,rfl,rfl⟩:=j;refine ⟨F,a,x,y,T,aL,Y,E,aP,X,B,aB,Z,b,J,I,H,G,q,q1,A,r,S,rfl,CP L.of_str,CP K.of_str,u.imp fun cs d c g=>?_,MZ n (SD.of_strs O.of_list),l.imp fun cs d c g=>XC.z g (Q.of_list d c),i⟩;obtain ⟨a,o,wr,C,vn,U,rfl,v⟩:=g;obtain ⟨-,an,V,rfl,-⟩:=id v;obtain ⟨-,M,-,N⟩:=Rz (P.of_list _ c).of_agg;exact ⟨a,o,wr,an,V,C,U,rfl,CP M.of_str,MZ v (SD.of_strs N.of_list)⟩
def OkR {α:Type} (P:α->Prop) (r:Res α):Prop:=∀ a n,r=.inl (a,n)->P a
theorem OkR.inl {α:Type} {P:α->Prop} {a:α} {n:Nat} (h:P a):OkR P (.inl (a,n)):=fun b m e=>by
 injection e with e;injection e with e1 e2;exact e1 ▸ h
theorem OkR.inr {α:Type} {P:α->Prop} {m:Nat}:OkR P (.inr m:Res α):=fun b m e=>by cases e
theorem OkR.bind {α β:Type} {P:α->Prop} {Q:β->Prop} {r:Res α} {f:α->Nat->Res β} (h:OkR P r) (hf:∀ a n,P a->OkR Q (f a n)):OkR Q (Ar r f):=by
 cases r with
 | inr m=>exact OkR.inr
 | inl p=>obtain ⟨a,n⟩:=p;exact hf a n (h a n rfl)
theorem OkR.ite {α:Type} {P:α->Prop} {c:Prop} [Decidable c] {r s:Res α} (h1:OkR P r) (h2:OkR P s):OkR P (if c then r else s):=by
 split
 ·exact h1
 ·exact h2
theorem OkR.any {α:Type} (r:Res α):OkR (fun _=>True) r:=fun _ _ _=>trivial
section
variable (ts:List Tok) (en:Nat)
theorem GD (hall:ts.all Ao=true) (n:Nat):(Ag ts n).text.size<=6000:=by
 by_cases h:n < ts.length
 ·have a:=CQ (ts:=ts) h
  exact CI (List.all_eq_true.1 hall _ a)
 ·have:Ag ts n=⟨0,0,⟨#[]⟩⟩:=by unfold Ag;rw [List.getElem?_eq_none (by omega)]
  rw [this];exact Nat.zero_le _
theorem Cv (hall:ts.all Ao=true) (n:Nat):OkR (fun x=>x.size<=6000) (AD ts n):=OkR.ite (OkR.inl (GD ts hall n)) OkR.inr
theorem Ft {α:Type} {P:α->Prop} {sep:List UInt8} {one:Nat->Res α} (h:∀ n,OkR P (one n)):∀ (f:Nat) (sm:Bool) (acc:List α) (n:Nat),(∀ a∈acc,P a)->OkR (fun l=>∀ a∈l,P a) (BW ts sep one f sm acc n)
 | 0,sm,acc,n,ha=>OkR.inl ha
 | f+1,sm,acc,n,ha=>by
  unfold BW;have hs:∀ a,P a->∀ b∈acc++[a],P b:=fun a hp b hb=>by
   rcases List.mem_append.1 hb with h | h
   ·exact ha b h
   ·rw [List.mem_singleton.1 h];exact hp
  refine OkR.ite (OkR.bind (h n) fun a n1 hp=>OkR.ite (Ft h f _ _ _ (hs a hp)) (OkR.inl (hs a hp))) (OkR.inl ha)
theorem FQ (hall:ts.all Ao=true) (sm:Bool) (n:Nat):OkR (fun l=>∀ x∈l,x.size<=6000) (Bp ts sm n):=Ft ts (Cv ts hall) _ _ _ _ (by simp)
theorem Ks (hall:ts.all Ao=true) (n:Nat):OkR SD (BG ts en n):=
 (Cv ts hall n).bind fun o n1 ho=>OkR.ite ((FQ ts hall _ _).bind fun ns n2 hn=>OkR.inl (SD.p ho hn)) ((OkR.any _).bind fun _ n2 _=>(FQ ts hall _ _).bind fun ns n3 hn=>OkR.inl (SD.p ho hn))
theorem Mo (hall:ts.all Ao=true) (n:Nat):OkR (fun l=>∀ a∈l,SD a) (BV ts en n):=
 (OkR.any _).bind fun _ n1 _=>(Ft ts (Ks ts en hall) _ _ _ _ (by simp)).bind fun l n2 hl=>(OkR.any _).bind fun _ n3 _=>OkR.inl hl
theorem Nv (hall:ts.all Ao=true):∀ (f deep n:Nat),OkR SD (pE ts en f deep n)
 | 0,deep,n=>OkR.inr
 | f+1,deep,n=>by
  have nil:∀ (k a m:Int),SD (eD k a m ⟨#[]⟩ []):=fun k a m=>SD.e (Nat.zero_le _) (by simp);unfold pE;refine OkR.ite (OkR.inl (nil _ _ _)) (OkR.ite (OkR.ite OkR.inr (OkR.ite (OkR.inl (nil _ _ _)) OkR.inr)) (OkR.ite (OkR.inl (SD.e (GD ts hall n) (by simp))) (OkR.ite ?_ OkR.inr)));have ha:=Nv hall f (deep+1) (n+1)
  cases h:pE ts en f (deep+1) (n+1) with
  | inr m=>exact OkR.inr
  | inl p=>
   obtain ⟨a,n1⟩:=p;have hsa:=ha a n1 h;refine OkR.ite OkR.inr ?_;have hb:=Nv hall f (deep+1) (n1+1)
   cases h2:pE ts en f (deep+1) (n1+1) with
   | inr m=>exact OkR.inr
   | inl p=>
    obtain ⟨b,n2⟩:=p;have hsb:=hb b n2 h2;refine OkR.ite (OkR.inl (SD.e (Nat.zero_le _) fun y hy=>?_)) OkR.inr;simp at hy;rcases hy with rfl | rfl
    ·exact hsa
    ·exact hsb
theorem F3 (hall:ts.all Ao=true) (n:Nat):OkR SD (pX ts en n):=Nv ts en hall 61 0 n
theorem Bu:noS.size<=6000:=Nat.zero_le _
theorem IG:SD noE:=SD.e (Nat.zero_le _) (by simp)
theorem JT:∀ (d:D),SD d->(⟨(Ia d).toArray⟩:ByteArray).size<=6000:=fun d h=>by
 show (Ia d).toArray.size<=6000;rw [List.size_toArray];unfold Ia;split
 ·rename_i a b c x r
  have:=h.of_agg (.lit (.string x)) (by simp) 1;exact this
 ·simp
theorem Kt (hall:ts.all Ao=true) (at_:Int) (n:Nat):OkR SD (Db ts en at_ n):=
 (Cv ts hall n).bind fun x n1 hx=>(OkR.any _).bind fun _ n2 _=>(F3 ts en hall n2).bind fun e n3 he=>
  OkR.ite ((Ft ts (F3 ts en hall) _ _ _ _ (by simp)).bind fun l n4 hl=>(OkR.any _).bind fun _ n5 _=>OkR.inl (SD.s hx (JT e he) IG hl (by simp) (by simp))) (OkR.inl (SD.s hx Bu he (by simp) (by simp) (by simp)))
theorem Hs {ss:Nat->Res (List D)} (h:∀ n,OkR (fun l=>∀ a∈l,SD a) (ss n)) (n:Nat):OkR (fun l=>∀ a∈l,SD a) (Be ts ss n):=
 (OkR.any _).bind fun _ n1 _=>(h n1).bind fun l n2 hl=>(OkR.any _).bind fun _ n3 _=>OkR.inl hl
theorem Fr {s:D} (h:SD s) (n:Nat):OkR SD (Iy ts s n):=(OkR.any _).bind fun _ n1 _=>OkR.inl h
theorem Mn (hall:ts.all Ao=true) {blk:Nat->Res (List D)} (h:∀ n,OkR (fun l=>∀ a∈l,SD a) (blk n)) (n:Nat):OkR SD (BI ts en blk n):=by
 unfold BI;have z:∀ a∈([]:List D),SD a:=by simp
 refine OkR.ite ((F3 ts en hall _).bind fun e n1 c=>(h n1).bind fun i n2 g=>OkR.ite ((h _).bind fun x v r=>OkR.inl (SD.s Bu Bu c z g r)) (OkR.inl (SD.s Bu Bu c z g z))) (OkR.ite ((F3 ts en hall _).bind fun e n1 c=>(h n1).bind fun i n2 g=>OkR.inl (SD.s Bu Bu c z g z)) (OkR.ite ?_ (OkR.ite ?_ (OkR.ite ?_ (OkR.ite ?_ ?_)))))
 ·exact (Cv ts hall _).bind fun a n1 f=>(Cv ts hall _).bind fun b n2 u=>Fr ts (SD.s f u IG z z z) _
 ·exact (Cv ts hall _).bind fun a n1 f=>(F3 ts en hall _).bind fun e n2 c=>Fr ts (SD.s Bu f c z z z) _
 ·exact (Cv ts hall _).bind fun a n1 f=>(F3 ts en hall _).bind fun e n2 c=>Fr ts (SD.s f Bu c z z z) _
 ·exact (Cv ts hall _).bind fun a n1 f=>(F3 ts en hall _).bind fun e n2 c=>Fr ts (SD.s f Bu c z z z) _
 ·exact (Kt ts en hall _ _).bind fun s n1 j=>Fr ts j _
theorem LH {acc:List D} {s:D} (h:∀ a∈acc,SD a) (hs:SD s):∀ a∈acc++[s],SD a:=fun b hb=>by
 rcases List.mem_append.1 hb with h1 | h1
 ·exact h b h1
 ·rw [List.mem_singleton.1 h1];exact hs
theorem EN (hall:ts.all Ao=true):∀ (f:Nat) (acc:List D) (n:Nat),(∀ a∈acc,SD a)->OkR (fun l=>∀ a∈l,SD a) (AL ts en f acc n)
 | 0,acc,n,h=>OkR.inr
 | 1,acc,n,h=>OkR.ite (OkR.inl h) OkR.inr
 | f+2,acc,n,h=>OkR.ite (OkR.inl h) ((Mn ts en hall (Hs ts fun n=>EN hall f [] n (by simp)) n).bind fun s n1 hs=>EN hall (f+1) (acc++[s]) n1 (LH h hs))
theorem Nt (hall:ts.all Ao=true) (at_:Int) (name:ByteArray) (hn:name.size<=6000) (n:Nat):OkR SD (Fq ts en at_ name n):=
 (OkR.any _).bind fun _ n1 _=>(FQ ts hall _ _).bind fun ps n2 hp=>(OkR.any _).bind fun _ n3 _=>(OkR.any _).bind fun _ n4 _=>(EN ts en hall _ _ _ (by simp)).bind fun body n5 hb=>(OkR.any _).bind fun _ n6 _=>(F3 ts en hall _).bind fun r n7 hr=>(OkR.any _).bind fun _ n8 _=>(OkR.any _).bind fun _ n9 _=>OkR.inl (SD.d hn Bu (by simp) hp hb hr)
theorem EO (hall:ts.all Ao=true) (kd at_:Int) (name oth:ByteArray) (hn:name.size<=6000) (ho:oth.size<=6000) (gv:Bool) (n:Nat):OkR SD (Cp ts en kd at_ name oth gv n):=
 OkR.ite ((Mo ts en hall _).bind fun lb n1 hl=>(OkR.any _).bind fun _ n2 _=>OkR.inl (SD.d hn ho hl (by simp) (by simp) IG)) ((OkR.any _).bind fun _ n1 _=>OkR.inl (SD.d hn ho (by simp) (by simp) (by simp) IG))
theorem Nw (hall:ts.all Ao=true) (n:Nat):OkR SD (Bo ts en n):=by
 unfold Bo;refine OkR.ite OkR.inr ((Cv ts hall _).bind fun a n1 c=>OkR.ite ((Cv ts hall _).bind fun b n2 f=>EO ts en hall _ _ _ _ c f _ _) (OkR.ite (EO ts en hall _ _ _ _ c Bu _ _) (OkR.ite (EO ts en hall _ _ _ _ c Bu _ _) (OkR.ite (Nt ts en hall _ _ c _) (EO ts en hall _ _ _ _ c Bu _ _)))))
theorem Hr (hall:ts.all Ao=true):∀ (f:Nat) (acc:List D) (n:Nat),(∀ a∈acc,SD a)->OkR (fun l=>∀ a∈l,SD a) (DD ts en f acc n)
 | 0,acc,n,h=>OkR.inr
 | f+1,acc,n,h=>OkR.ite (OkR.inl h) ((Nw ts en hall n).bind fun s n1 hs=>Hr hall f (acc++[s]) n1 (LH h hs))
theorem Jw (hall:ts.all Ao=true):OkR (fun t=>(∀ a∈t.1,SD a)/\∀ a∈t.2,SD a) (D5 ts en):=
 (Hr ts en hall _ _ _ (by simp)).bind fun ds n hd=>(OkR.any _).bind fun _ n1 _=>(Hs ts (fun n=>EN ts en hall _ _ _ (by simp)) n1).bind fun l n2 hl=>OkR.ite OkR.inr (OkR.inl ⟨hd,hl⟩)
end
end Go.Proofs.YtipngnjffjajpaaGreatDoor.Tx
