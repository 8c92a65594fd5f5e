/- The document's reader in memory: what stands next, what is needed. -/
import Derived.Test.YtipngnjffjajpaaGreatDoorH20
import Derived.Test.YtipngnjffjajpaaGreatDoorH21
set_option linter.unusedVariables false
set_option maxHeartbeats 8000000
set_option maxRecDepth 100000
namespace Go.Proofs.YtipngnjffjajpaaGreatDoor.Tx
open Go.RowKit
open Go.Value renaming int -> M, slice -> U, bool -> zc, pointer -> zd, agg -> zf, tuple -> zh
open Go.IntKind renaming i64 -> O
open Go.Obj renaming cells -> ze
open Go.Ending renaming returned -> zg
def Sd (rb:Nat) (tv:Value) (ts:List Tok) (en:Nat) (s:Sg) (w:World):Prop:=
 w.heap[rb]? = some (Obj.cells #[tv,M O (s.1:Int),M O (en:Int),zc s.2] 58 (0,0))/\s.1<=ts.length/\ts.length<=6000/\∃ ao cap,tv=U ao ts.length cap /\
  (ts≠[]->∃ b off,ao=some ⟨b,off,none⟩/\b≠rb/\∀ (j:Nat) (u:Value),(AQ ts)[j]? = some u->w.cell? ⟨b,off+j,none⟩=some u)
section
variable {rb:Nat} {tv:Value} {ts:List Tok} {en:Nat} {s s':Sg} {w w' V V':World}
theorem Sd.keep (h:Sd rb tv ts en s w) (hg:w.grownBy w' (some rb)) (hb:w'.heap[rb]? = some (Obj.cells #[tv,M O (s'.1:Int),M O (en:Int),zc s'.2] 58 (0,0))) (hm:s'.1<=ts.length):Sd rb tv ts en s' w':=by
 obtain ⟨_,_,r,v,k,l,n⟩:=h;refine ⟨hb,hm,r,v,k,l,fun f=>?_⟩;obtain ⟨b,c,i,a,g⟩:=n f;exact ⟨b,c,i,a,fun j u m=>hg.cell (g j u m) (by simpa using a)⟩
theorem Sd.below (h:Sd rb tv ts en s w) (hb:Ov w w'):Sd rb tv ts en s w':=by
 obtain ⟨l,x,v,y,k,m,r⟩:=h;refine ⟨by rw [hb.block rb (Array.getElem?_eq_some_iff.1 l).1];exact l,x,v,y,k,m,fun c=>?_⟩;obtain ⟨b,a,i,g,f⟩:=r c;exact ⟨b,a,i,g,fun j u n=>ce1 hb (f j u n)⟩
theorem Sd.lt (h:Sd rb tv ts en s w):rb < w.heap.size:=(Array.getElem?_eq_some_iff.1 h.1).1
theorem Sd.cells (h:Sd rb tv ts en s w):w.cell? ⟨rb,0,none⟩=some tv/\w.cell? ⟨rb,1,none⟩=some (M O (s.1:Int))/\w.cell? ⟨rb,2,none⟩=some (M O (en:Int))/\w.cell? ⟨rb,3,none⟩=some (zc s.2)/\w.frozen? ⟨rb,1,none⟩=false/\w.frozen? ⟨rb,3,none⟩=false:=by
 have:=h.1;refine ⟨?_,?_,?_,?_,?_,?_⟩ <;> simp [World.cell?,World.frozen?,this]
theorem Sd.next (h:Sd rb tv ts en s w) (hn:s.1 < ts.length) :
  Sd rb tv ts en (s.1+1,s.2) (w.setCell ⟨rb,1,none⟩ (M O ((s.1:Int)+1)))/\w.grownBy (w.setCell ⟨rb,1,none⟩ (M O ((s.1:Int)+1))) (some rb):=by
 have a:w.grownBy (w.setCell ⟨rb,1,none⟩ (M O ((s.1:Int)+1))) (some rb):=CM;refine ⟨h.keep a ?_ hn,a⟩;have:=h.1;simp [World.setCell,Array.getElem?_modify,this]
theorem Sd.fail (h:Sd rb tv ts en s w):Sd rb tv ts en (s.1,true) (w.setCell ⟨rb,3,none⟩ (zc true))/\w.grownBy (w.setCell ⟨rb,3,none⟩ (zc true)) (some rb):=by
 have a:w.grownBy (w.setCell ⟨rb,3,none⟩ (zc true)) (some rb):=CM;refine ⟨h.keep a ?_ h.2.1,a⟩;have:=h.1;simp [World.setCell,Array.getElem?_modify,this]
structure Rq (rb:Nat) (tv:Value) (ts:List Tok) (en:Nat) (w:World) (m:Nat) (s:Sg) (V:World):Prop where
 st0:∃ s0,Sd rb tv ts en s0 w
 st:Sd rb tv ts en s V
 gr:w.grownBy V (some rb)
 le:m<=s.1
theorem Rq.start (h:Sd rb tv ts en s w):Rq rb tv ts en w s.1 s w:=⟨⟨s,h⟩,h,Af w _,Nat.le_refl _⟩
variable {m b j:Nat} {u:Value}
theorem Rq.rlt (h:Rq rb tv ts en w m s V):rb < w.heap.size:=by obtain ⟨b,a⟩:=h.st0;exact a.lt
theorem Rq.size (h:Rq rb tv ts en w m s V):w.heap.size<=V.heap.size:=h.gr.size
theorem Rq.call (h:Rq rb tv ts en w m s V) (hg:V.grownBy V' (some rb)) (hs:Sd rb tv ts en s' V') (hl:s.1<=s'.1):Rq rb tv ts en w m s' V':=⟨h.st0,hs,Ac h.gr hg,Nat.le_trans h.le hl⟩
theorem Rq.over (h:Rq rb tv ts en w m s V) (hb:Ov V V'):Rq rb tv ts en w m s V':=⟨h.st0,h.st.below hb,Ac h.gr (Ad hb),h.le⟩
theorem Rq.set (h:Rq rb tv ts en w m s V) (hb:w.heap.size<=b):Rq rb tv ts en w m s (V.setCell ⟨b,j,none⟩ u):=by
 obtain ⟨f,a⟩:=h.st0;have hr:=a.lt;have c:=Aj h.gr (p:=⟨b,j,none⟩) hb u;exact ⟨⟨f,a⟩,a.keep c (by rw [Below.heap_setCell _ _ _ _ (by show rb≠b;omega)];exact h.st.1) h.st.2.1,c,h.le⟩
theorem Rq.row {B T q k:Nat} {v:Value} {xs:List Value} (h:Rq rb tv ts en w m s V) (ho:V.ownsRow B T q v k xs) (hB:w.heap.size<=B) (hg:V.grownBy V' v.ownBlock):Rq rb tv ts en w m s V':=by
 obtain ⟨j,g⟩:=h.st0;have hr:=g.lt;have b:∀ i,i < w.heap.size->some i≠v.ownBlock:=fun i f e=>by have:=(AF ho e.symm).1;omega
 have a:=h.gr;have c:w.grownBy V' (some rb):=⟨hg.os.trans a.os,hg.tape.trans a.tape,hg.output.trans a.output,Nat.le_trans a.size hg.size,fun i f l=>(hg.block i (Nat.lt_of_lt_of_le f a.size) (b i f)).trans (a.block i f l)⟩;exact ⟨⟨j,g⟩,g.keep c (by rw [hg.block rb (Nat.lt_of_lt_of_le hr a.size) (b rb hr)];exact h.st.1) h.st.2.1,c,h.le⟩
theorem Rq.box (h:Rq rb tv ts en w m s V) (hg:V.grownBy V' (some b)) (hb:w.heap.size<=b):Rq rb tv ts en w m s V':=by
 obtain ⟨j,f⟩:=h.st0;have hr:=f.lt;have a:=h.gr;have c:w.grownBy V' (some rb):=⟨hg.os.trans a.os,hg.tape.trans a.tape,hg.output.trans a.output,Nat.le_trans a.size hg.size,fun i g k=>(hg.block i (Nat.lt_of_lt_of_le g a.size) (fun e=>by injection e with e;omega)).trans (a.block i g k)⟩;exact ⟨⟨j,f⟩,f.keep c (by rw [hg.block rb (Nat.lt_of_lt_of_le hr a.size) (fun e=>by injection e with e;omega)];exact h.st.1) h.st.2.1,c,h.le⟩
theorem Gs {x y z:World} {r b:Nat} (h:x.grownBy y (some r)) (hg:y.grownBy z (some b)) (hb:x.heap.size<=b):x.grownBy z (some r):=
 ⟨hg.os.trans h.os,hg.tape.trans h.tape,hg.output.trans h.output,Nat.le_trans h.size hg.size,fun i hi hn=>(hg.block i (Nat.lt_of_lt_of_le hi h.size) (fun e=>by injection e with e;omega)).trans (h.block i hi hn)⟩
def Qo (rb:Nat) (tv:Value) (ts:List Tok) (en:Nat) (w:World) (s s':Sg) (w':World):Prop:=w.grownBy w' (some rb)/\Sd rb tv ts en s' w'/\s.1<=s'.1
theorem Qo.rq (h:Rq rb tv ts en w m s V) (hq:Qo rb tv ts en V s s' V'):Rq rb tv ts en w m s' V':=h.call hq.1 hq.2.1 hq.2.2
theorem Cf (s:Sg) (w:World) (h:Sd rb tv ts en s w):Ro 28 #[zd (some ⟨rb,0,none⟩)] w (M O (Ar ts en s.1)):=by
 obtain ⟨y,x,v,u,-,-⟩:=h.cells;obtain ⟨n,r⟩:=s;obtain ⟨_,l,m,A,k,rfl,f⟩:=h;dsimp only at *;by_cases hlt:n < ts.length
 ·obtain ⟨b,i,rfl,j,c⟩:=f (by rintro rfl;simp at hlt)
  obtain ⟨q0,q1,g⟩:=D9 c hlt;have a:Ar ts en n=ts[n].pos:=by simp [Ar,hlt]
  rw [a];clear a c f q0 g;go_enter Tryz.func28,Tryz.ntmps28
  go_wp2
  go_quiet ((fail))
  go_wp2
  go_quiet ((fail))
  go_wp2
  go_ret;exact ⟨rfl,below_drewN (below_drewN (Below.refl _ w) _) _⟩
 ·have a:Ar ts en n=en:=by simp [Ar,hlt]
  rw [a];clear a f;go_enter Tryz.func28,Tryz.ntmps28
  go_wp2
  go_quiet ((fail))
  go_wp2
  go_ret;exact ⟨rfl,below_drewN (Below.refl _ w) _⟩
theorem AY (k:Nat) (hk:k<=1) (s:Sg) (w:World) (h:Sd rb tv ts en s w):Ro 57 #[zd (some ⟨rb,0,none⟩),M O (k:Int)] w (.string (tx ts s k)):=by
 obtain ⟨E,C,B,A,-,-⟩:=h.cells;obtain ⟨n,u⟩:=s;obtain ⟨_,x,y,F,v,rfl,f⟩:=h;dsimp only at *
 cases u with
 | true=>
  have a:tx ts (n,true) k=⟨#[]⟩:=rfl;rw [a];clear a f;go_enter Tryz.func57,Tryz.ntmps57
  go_wp2
  go_quiet ((fail))
  go_wp2
  go_ret;exact ⟨rfl,below_drewN (Below.refl _ w) _⟩
 | false=>
  by_cases hlt:n+k < ts.length
  ·obtain ⟨b,j,rfl,r,c⟩:=f (by rintro rfl;simp at hlt)
   obtain ⟨q0,q1,i⟩:=D9 c hlt;have a:tx ts (n,false) k=ts[n+k].text:=by simp [tx,Ah,hlt]
   rw [a];generalize ts[n+k].text=tt at i ⊢;clear a c f q0 q1;generalize ts.length=nl at *;have l:(n:Int)+(k:Int) < (nl:Int):=by omega
   have m:decide ((nl:Int)<=(n:Int)+(k:Int))=false:=by simp;omega
   have g:decide (nl<=n+k)=false:=by simp;omega
   go_enter Tryz.func57,Tryz.ntmps57
   go_wp2
   go_quiet ((fail))
   go_wp2
   go_quiet ((fail))
   go_wp2
   go_ret;exact ⟨rfl,below_drewN (below_drewN (Below.refl _ w) _) _⟩
  ·have a:tx ts (n,false) k=⟨#[]⟩:=by simp [tx,Ah,hlt]
   rw [a];clear a f;generalize ts.length=nl at *;have l:¬ (n:Int)+(k:Int) < (nl:Int):=by omega
   have m:decide ((nl:Int)<=(n:Int)+(k:Int))=true:=by simp;omega
   have g:decide (nl<=n+k)=true:=by simp;omega
   go_enter Tryz.func57,Tryz.ntmps57
   go_wp2
   go_quiet ((fail))
   go_wp2
   go_ret;exact ⟨rfl,below_drewN (Below.refl _ w) _⟩
theorem Jz (a b:List UInt8):(a == b)=decide (a=b):=by by_cases h:a=b <;> simp [h]
theorem teq (t x:ByteArray):(t.toList == x.toList)=decide (t.data.toList=x.data.toList):=by
 rw [ByteArray.toList_eq,ByteArray.toList_eq];exact Jz _ _
theorem It (t:ByteArray) (l:List UInt8):(t.toList == l)=decide (t.data.toList=l):=by
 rw [ByteArray.toList_eq];exact Jz _ _
theorem CZ {t:ByteArray} {s:Sg} {k:Nat} {l:List UInt8} (ht:t=tx ts s k) (h:tl ts s k=l):(t.toList == l)=true:=by
 rw [It,ht];exact decide_eq_true h
theorem Bh {t:ByteArray} {s:Sg} {k:Nat} {l:List UInt8} (ht:t=tx ts s k) (h:¬ tl ts s k=l):(t.toList == l)=false:=by
 rw [It,ht];exact decide_eq_false h
theorem G3 {s:Sg} {k:Nat} (h:tl ts s k≠[]):s.2=false/\s.1+k < ts.length:=by
 unfold tl tx at h;split at h
 ·exact absurd rfl h
 ·rename_i a
  exact ⟨by simpa using a,Cb h⟩
theorem MC (x:ByteArray) (hx:x.data.toList≠[]) (s:Sg) (w:World) (h:Sd rb tv ts en s w):Calls Tryz.prog 26 #[zd (some ⟨rb,0,none⟩),.string x] w fun e w'=>e=zg (zh #[])/\Qo rb tv ts en w s (Al ts x.data.toList s) w':=by
 obtain ⟨v,u,m,F,j,i⟩:=h.cells;obtain ⟨n,I⟩:=s;dsimp only at *
 cases I with
 | true=>
  have a:Al ts x.data.toList (n,true)=(n,true):=rfl;rw [a];have A:=Aa h;clear a h hx j i;go_enter Tryz.func26,Tryz.ntmps26;go_wp2_with fail;refine bodyPost_ret (results_none rfl _ _ _) rfl ?_;exact ⟨rfl,Af w _,A.o,Nat.le_refl _⟩
 | false=>
  obtain ⟨t,f⟩:=nm (tx ts (n,false) 0);have y:Hx (Ro 57 #[zd (some ⟨rb,0,none⟩),M O 0] w (.string t)):=by rw [f];exact AY 0 (by omega) (n,false) w h
  have A:=Aa h;have H:n<=6000:=Nat.le_trans h.2.1 h.2.2.1;by_cases hq:t.data.toList=x.data.toList
  ·have a:Al ts x.data.toList (n,false)=(n+1,false):=by unfold Al tl;rw [if_neg (by simp),<-f,if_pos hq]
   have g:n < ts.length:=(G3 (ts:=ts) (s:=(n,false)) (k:=0) (by unfold tl;rw [<-f,hq];exact hx)).2;rw [a];have C:=Aa g;have B:(t.toList == x.toList)=true:=by rw [teq];simpa using hq
   clear a h hx f hq g v u m j i;go_enter Tryz.func26,Tryz.ntmps26;go_wp2_with fail;refine y.o.mono ?_;rintro e G ⟨rfl,b⟩;have c:=A.o.below b;obtain ⟨v,u,m,F,j,i⟩:=c.cells;have l:=Aa (c.next C.o);have E:=Aa (Ad (r:=some rb) b);clear b c y;dsimp only at *;go_wp2_with fail;go_end0;exact ⟨rfl,Ac E.o l.o.2,l.o.1,Nat.le_succ _⟩
  ·have a:Al ts x.data.toList (n,false)=(n,true):=by unfold Al tl;rw [if_neg (by simp),<-f,if_neg hq]
   rw [a];have B:(t.toList == x.toList)=false:=by rw [teq];simpa using hq
   clear a h hx f hq v u m j i;go_enter Tryz.func26,Tryz.ntmps26;go_wp2_with fail;refine y.o.mono ?_;rintro e G ⟨rfl,b⟩;have c:=A.o.below b;obtain ⟨v,u,m,F,j,i⟩:=c.cells;have l:=Aa c.fail;have E:=Aa (Ad (r:=some rb) b);clear b c y;dsimp only at *;go_wp2_with fail;go_end0;exact ⟨rfl,Ac E.o l.o.2,l.o.1,Nat.le_refl _⟩
end
theorem I8 {k:Nat} (F:FuncId) (hC:∀ (args:Array Value) (w:World),(callFunc F args).run Tryz.prog w=.ok (.enter F args) w) (p:D->Bool) (l:List D) (ao:Option Addr) (cap:Nat) (w:World) (hp:∀ (cs:List Value) (d:D) (X:World),d∈l->ZE X k cs d->Ro F #[.agg cs.toArray] X (zc (p d))) (hc:LS 5 (ZE w k) w (U ao l.length cap) l) :
  Ro 111 #[U ao l.length cap,.func (.func F) #[] #[]] w (zc (l.all p)):=by
 have HC:=Aa hc;have E:=Aa hp;have HL:=hc.max;obtain ⟨fin,g⟩:=nm (l.all p);rw [<-g];have HF:=Aa g;obtain ⟨A,u⟩:=nm l.length;rw [<-u] at HL ⊢;have L:=Aa u;clear hc hp g u;go_enter Tryz.func111,Tryz.ntmps111;go_wp2_with fail;go_loopw [9] (fun i wr=>∃ (j:Nat),j<=A/\i=M O j/\(l.drop j).all p=fin/\Ov w wr) (fun i _=>A - (intOf i).toNat)
 case atStart=>exact ⟨0,Nat.zero_le _,rfl,HF.o.symm,Below.refl _ _⟩
 case round=>
  obtain ⟨j,hj,rfl,hp,m⟩:=hrel;by_cases hjl:j < A
  ·have a:j < l.length:=by have:=L.o;omega
   obtain ⟨b,B,rfl,cs,C,c,hr⟩:=HC.o.at a;rw [List.drop_eq_getElem_cons a,List.all_cons] at hp;have f:=List.getElem_mem a;obtain ⟨J,v⟩:=nm l[j];rw [<-v] at hp hr f;obtain ⟨H,r⟩:=nm (p J);rw [<-r] at hp;have K:Hx (∀ X,Ov wr X->Ro F #[.agg cs.toArray] X (zc H)):=fun X Q=>by rw [r];exact E.o cs J X f ((hr.over m).over Q)
   obtain ⟨c0,c1,c2,c3,aa,Y,Z,rfl⟩:=hr.cells;have W:wr.cell? ⟨b,B+j*5,none⟩=_:=ce1 m (c 0 _ rfl);have V:=ce1 m (c 1 _ rfl);have T:=ce1 m (c 2 _ rfl);have S:=ce1 m (c 3 _ rfl);have R:=ce1 m (c 4 _ rfl);have n:=Aa hp;have G:=Aa m;have P:(j:Int) < (A:Int):=by omega
   clear c C hr hp m a r v f;go_wp2_with fail;refine (K.o _ (bA _ _)).mono ?_;rintro e N ⟨rfl,x⟩;have y:Hx (Ov w N):=Ab G.o (Ab (bA _ _) x);clear x W V T S R K
   cases H with
   | true=>
    have hp:=n.o;rw [Bool.true_and] at hp;replace n:=Aa hp;clear hp;go_wp2_with fail;exact ⟨⟨j+1,by omega,by go_num,n.o,y.o⟩,by simp [intOf];omega⟩
   | false=>
    have hp:=n.o;rw [Bool.false_and] at hp;replace n:=Aa hp;clear hp;go_wp2_with fail;go_ret;exact ⟨by rw [<-n.o];rfl,y.o⟩
  ·have I:l.drop j=[]:=List.drop_eq_nil_of_le (by have:=L.o;omega)
   rw [I] at hp;have n:=Aa hp;have G:=Aa m;clear hp m I;go_wp2_with fail;go_ret;exact ⟨by rw [<-n.o];rfl,G.o⟩
theorem I9 {ke k:Nat} (F:FuncId) (hC:∀ (args:Array Value) (w:World),(callFunc F args).run Tryz.prog w=.ok (.enter F args) w) (p:D->Bool) (l:List D) (ao:Option Addr) (cap:Nat) (w:World) (hp:∀ (cs:List Value) (d:D) (X:World),d∈l->ZC X ke k cs d->Ro F #[.agg cs.toArray] X (zc (p d))) (hc:LS 12 (ZC w ke k) w (U ao l.length cap) l) :
  Ro 35 #[U ao l.length cap,.func (.func F) #[] #[]] w (zc (l.all p)):=by
 have HC:=Aa hc;have H:=Aa hp;have HL:=hc.max;obtain ⟨fin,m⟩:=nm (l.all p);rw [<-m];have HF:=Aa m;obtain ⟨A,u⟩:=nm l.length;rw [<-u] at HL ⊢;have W:=Aa u;clear hc hp m u;go_enter Tryz.func35,Tryz.ntmps35;go_wp2_with fail;go_loopw [9] (fun i wr=>∃ (j:Nat),j<=A/\i=M O j/\(l.drop j).all p=fin/\Ov w wr) (fun i _=>A - (intOf i).toNat)
 case atStart=>exact ⟨0,Nat.zero_le _,rfl,HF.o.symm,Below.refl _ _⟩
 case round=>
  obtain ⟨j,hj,rfl,hp,c⟩:=hrel;by_cases hjl:j < A
  ·have f:j < l.length:=by have:=W.o;omega
   obtain ⟨b,B,rfl,cs,C,a,hr⟩:=HC.o.at f;rw [List.drop_eq_getElem_cons f,List.all_cons] at hp;have g:=List.getElem_mem f;obtain ⟨L,v⟩:=nm l[j];rw [<-v] at hp hr g;obtain ⟨J,r⟩:=nm (p L);rw [<-r] at hp;have V:Hx (∀ X,Ov wr X->Ro F #[.agg cs.toArray] X (zc J)):=fun X hX=>by rw [r];exact H.o cs L X g ((hr.over c).over hX)
   obtain ⟨c0,c1,c2,c3,c4,c5,c6,c7,ar,ap,aq,an,al,am,T,R,S,Q,N,P,rfl⟩:=hr.cells;have d0:wr.cell? ⟨b,B+j*12,none⟩=_:=ce1 c (a 0 _ rfl);have d1:=ce1 c (a 1 _ rfl);have d2:=ce1 c (a 2 _ rfl);have d3:=ce1 c (a 3 _ rfl);have d4:=ce1 c (a 4 _ rfl);have d5:=ce1 c (a 5 _ rfl);have d6:=ce1 c (a 6 _ rfl);have d7:=ce1 c (a 7 _ rfl);have d8:=ce1 c (a 8 _ rfl);have d9:=ce1 c (a 9 _ rfl);have G:=ce1 c (a 10 _ rfl);have E:=ce1 c (a 11 _ rfl);have n:=Aa hp;have I:=Aa c;have Z:(j:Int) < (A:Int):=by omega
   clear a C hr hp c f r v g;go_wp2_with fail;refine (V.o _ (bA _ _)).mono ?_;rintro e Y ⟨rfl,x⟩;have y:Hx (Ov w Y):=Ab I.o (Ab (bA _ _) x);clear x d0 d1 d2 d3 d4 d5 d6 d7 d8 d9 G E V
   cases J with
   | true=>
    have hp:=n.o;rw [Bool.true_and] at hp;replace n:=Aa hp;clear hp;go_wp2_with fail;exact ⟨⟨j+1,by omega,by go_num,n.o,y.o⟩,by simp [intOf];omega⟩
   | false=>
    have hp:=n.o;rw [Bool.false_and] at hp;replace n:=Aa hp;clear hp;go_wp2_with fail;go_ret;exact ⟨by rw [<-n.o];rfl,y.o⟩
  ·have K:l.drop j=[]:=List.drop_eq_nil_of_le (by have:=W.o;omega)
   rw [K] at hp;have n:=Aa hp;have I:=Aa c;clear hp c K;go_wp2_with fail;go_ret;exact ⟨by rw [<-n.o];rfl,I.o⟩
theorem LR  (F:FuncId) (hC:∀ (args:Array Value) (w:World),(callFunc F args).run Tryz.prog w=.ok (.enter F args) w) (p:D->Bool) (l:List D) (ao:Option Addr) (cap:Nat) (w:World) (hp:∀ (cs:List Value) (d:D) (X:World),d∈l->ZP X cs d->Ro F #[.agg cs.toArray] X (zc (p d))) (hc:LS 4 (ZP w) w (U ao l.length cap) l) :
  Ro 105 #[U ao l.length cap,.func (.func F) #[] #[]] w (zc (l.all p)):=by
 have HC:=Aa hc;have C:=Aa hp;have Z:=hc.max;obtain ⟨fin,f⟩:=nm (l.all p);rw [<-f];have HF:=Aa f;obtain ⟨y,r⟩:=nm l.length;rw [<-r] at Z ⊢;have K:=Aa r;clear hc hp f r;go_enter Tryz.func105,Tryz.ntmps105;go_wp2_with fail;go_loopw [9] (fun i wr=>∃ (j:Nat),j<=y/\i=M O j/\(l.drop j).all p=fin/\Ov w wr) (fun i _=>y - (intOf i).toNat)
 case atStart=>exact ⟨0,Nat.zero_le _,rfl,HF.o.symm,Below.refl _ _⟩
 case round=>
  obtain ⟨j,hj,rfl,hp,k⟩:=hrel;by_cases hjl:j < y
  ·have a:j < l.length:=by have:=K.o;omega
   obtain ⟨b,A,rfl,cs,B,g,hr⟩:=HC.o.at a;rw [List.drop_eq_getElem_cons a,List.all_cons] at hp;have c:=List.getElem_mem a;obtain ⟨I,u⟩:=nm l[j];rw [<-u] at hp hr c;obtain ⟨G,n⟩:=nm (p I);rw [<-n] at hp;have J:Hx (∀ X,Ov wr X->Ro F #[.agg cs.toArray] X (zc G)):=fun X P=>by rw [n];exact C.o cs I X c ((hr.over k).over P)
   obtain ⟨c0,c1,c2,Y,V,W,rfl⟩:=hr.cells;have T:wr.cell? ⟨b,A+j*4,none⟩=_:=ce1 k (g 0 _ rfl);have S:=ce1 k (g 1 _ rfl);have R:=ce1 k (g 2 _ rfl);have Q:=ce1 k (g 3 _ rfl);have m:=Aa hp;have E:=Aa k;have N:(j:Int) < (y:Int):=by omega
   clear g B hr hp k a n u c;go_wp2_with fail;refine (J.o _ (bA _ _)).mono ?_;rintro e L ⟨rfl,v⟩;have x:Hx (Ov w L):=Ab E.o (Ab (bA _ _) v);clear v T S R Q J
   cases G with
   | true=>
    have hp:=m.o;rw [Bool.true_and] at hp;replace m:=Aa hp;clear hp;go_wp2_with fail;exact ⟨⟨j+1,by omega,by go_num,m.o,x.o⟩,by simp [intOf];omega⟩
   | false=>
    have hp:=m.o;rw [Bool.false_and] at hp;replace m:=Aa hp;clear hp;go_wp2_with fail;go_ret;exact ⟨by rw [<-m.o];rfl,x.o⟩
  ·have H:l.drop j=[]:=List.drop_eq_nil_of_le (by have:=K.o;omega)
   rw [H] at hp;have m:=Aa hp;have E:=Aa k;clear hp k H;go_wp2_with fail;go_ret;exact ⟨by rw [<-m.o];rfl,E.o⟩
theorem M0 {ke k:Nat} (F:FuncId) (hC:∀ (args:Array Value) (w:World),(callFunc F args).run Tryz.prog w=.ok (.enter F args) w) (p:D->Bool) (l:List D) (ao:Option Addr) (cap:Nat) (w:World) (hp:∀ (cs:List Value) (d:D) (X:World),d∈l->ZD X ke k cs d->Ro F #[.agg cs.toArray] X (zc (p d))) (hc:LS 13 (ZD w ke k) w (U ao l.length cap) l) :
  Ro 33 #[U ao l.length cap,.func (.func F) #[] #[]] w (zc (l.all p)):=by
 have HC:=Aa hc;have I:=Aa hp;have HL:=hc.max;obtain ⟨fin,m⟩:=nm (l.all p);rw [<-m];have HF:=Aa m;obtain ⟨A,u⟩:=nm l.length;rw [<-u] at HL ⊢;have T:=Aa u;clear hc hp m u;go_enter Tryz.func33,Tryz.ntmps33;go_wp2_with fail;go_loopw [9] (fun i wr=>∃ (j:Nat),j<=A/\i=M O j/\(l.drop j).all p=fin/\Ov w wr) (fun i _=>A - (intOf i).toNat)
 case atStart=>exact ⟨0,Nat.zero_le _,rfl,HF.o.symm,Below.refl _ _⟩
 case round=>
  obtain ⟨j,hj,rfl,hp,c⟩:=hrel;by_cases hjl:j < A
  ·have f:j < l.length:=by have:=T.o;omega
   obtain ⟨b,B,rfl,cs,C,a,hr⟩:=HC.o.at f;rw [List.drop_eq_getElem_cons f,List.all_cons] at hp;have g:=List.getElem_mem f;obtain ⟨N,v⟩:=nm l[j];rw [<-v] at hp hr g;obtain ⟨K,r⟩:=nm (p N);rw [<-r] at hp;have S:Hx (∀ X,Ov wr X->Ro F #[.agg cs.toArray] X (zc K)):=fun X Y=>by rw [r];exact I.o cs N X g ((hr.over c).over Y)
   obtain ⟨c0,c1,c2,c3,c4,au,aq,ar,ap,am,an,al,aj,ak,c8,c9,aw,av,R,P,Q,rfl⟩:=hr.cells;have d0:wr.cell? ⟨b,B+j*13,none⟩=_:=ce1 c (a 0 _ rfl);have d1:=ce1 c (a 1 _ rfl);have d2:=ce1 c (a 2 _ rfl);have d3:=ce1 c (a 3 _ rfl);have d4:=ce1 c (a 4 _ rfl);have d5:=ce1 c (a 5 _ rfl);have d6:=ce1 c (a 6 _ rfl);have d7:=ce1 c (a 7 _ rfl);have d8:=ce1 c (a 8 _ rfl);have Z:=ce1 c (a 9 _ rfl);have H:=ce1 c (a 10 _ rfl);have G:=ce1 c (a 11 _ rfl);have E:=ce1 c (a 12 _ rfl);have n:=Aa hp;have J:=Aa c;have W:(j:Int) < (A:Int):=by omega
   clear a C hr hp c f r v g;go_wp2_with fail;refine (S.o _ (bA _ _)).mono ?_;rintro e V ⟨rfl,x⟩;have y:Hx (Ov w V):=Ab J.o (Ab (bA _ _) x);clear x d0 d1 d2 d3 d4 d5 d6 d7 d8 Z H G E S
   cases K with
   | true=>
    have hp:=n.o;rw [Bool.true_and] at hp;replace n:=Aa hp;clear hp;go_wp2_with fail;exact ⟨⟨j+1,by omega,by go_num,n.o,y.o⟩,by simp [intOf];omega⟩
   | false=>
    have hp:=n.o;rw [Bool.false_and] at hp;replace n:=Aa hp;clear hp;go_wp2_with fail;go_ret;exact ⟨by rw [<-n.o];rfl,y.o⟩
  ·have L:l.drop j=[]:=List.drop_eq_nil_of_le (by have:=T.o;omega)
   rw [L] at hp;have n:=Aa hp;have J:=Aa c;clear hp c L;go_wp2_with fail;go_ret;exact ⟨by rw [<-n.o];rfl,J.o⟩
theorem LT  (F:FuncId) (hC:∀ (args:Array Value) (w:World),(callFunc F args).run Tryz.prog w=.ok (.enter F args) w) (p:ByteArray->Bool) (l:List ByteArray) (ao:Option Addr) (cap:Nat) (w:World) (hp:∀ (x:ByteArray) (X:World),x.size<=maxLen->Ro F #[.string x] X (zc (p x))) (hc:LS 1 ZN w (U ao l.length cap) l) :
  Ro 110 #[U ao l.length cap,.func (.func F) #[] #[]] w (zc (l.all p)):=by
 have T:=Aa hc;have G:=Aa hp;have R:=hc.max;obtain ⟨fin,c⟩:=nm (l.all p);rw [<-c];have S:=Aa c;obtain ⟨A,m⟩:=nm l.length;rw [<-m] at R ⊢;have L:=Aa m;clear hc hp c m;go_enter Tryz.func110,Tryz.ntmps110;go_wp2_with fail;go_loopw [9] (fun i wr=>∃ (j:Nat),j<=A/\i=M O j/\(l.drop j).all p=fin/\Ov w wr) (fun i _=>A - (intOf i).toNat)
 case atStart=>exact ⟨0,Nat.zero_le _,rfl,S.o.symm,Below.refl _ _⟩
 case round=>
  obtain ⟨j,V,rfl,hp,v⟩:=hrel;by_cases hjl:j < A
  ·have a:j < l.length:=by have:=L.o;omega
   obtain ⟨b,C,rfl,Y,E,n,hr⟩:=T.o.at a;rw [List.drop_eq_getElem_cons a,List.all_cons] at hp;have f:=List.getElem_mem a;obtain ⟨B,r⟩:=nm l[j];rw [<-r] at hp hr f;obtain ⟨I,k⟩:=nm (p B);rw [<-k] at hp;have K:Hx (∀ X,Ov wr X->Ro F #[.string B] X (zc I)):=fun X W=>by rw [k];exact G.o B X hr.2
   rw [hr.1] at n;have Q:wr.cell? ⟨b,C+j,none⟩=some (.string B):=ce1 v (by have:=n 0 _ rfl;simpa using this);have g:=Aa hp;have H:=Aa v;have P:(j:Int) < (A:Int):=by omega
   clear n E hr hp v a k r f;go_wp2_with fail;refine (K.o _ (Below.refl _ _)).mono ?_;rintro e N ⟨rfl,u⟩;have y:Hx (Ov w N):=Ab H.o u;clear u Q K
   cases I with
   | true=>
    have hp:=g.o;rw [Bool.true_and] at hp;replace g:=Aa hp;clear hp;go_wp2_with fail;exact ⟨⟨j+1,by omega,by go_num,g.o,y.o⟩,by simp [intOf];omega⟩
   | false=>
    have hp:=g.o;rw [Bool.false_and] at hp;replace g:=Aa hp;clear hp;go_wp2_with fail;go_ret;exact ⟨by rw [<-g.o];rfl,y.o⟩
  ·have J:l.drop j=[]:=List.drop_eq_nil_of_le (by have:=L.o;omega)
   rw [J] at hp;have g:=Aa hp;have H:=Aa v;clear hp v J;go_wp2_with fail;go_ret;exact ⟨by rw [<-g.o];rfl,H.o⟩
theorem FZ (x:ByteArray):(⟨x.data.toList.toArray⟩:ByteArray)=x:=by simp
theorem M7 (x:ByteArray):CP [⟨1,0,x⟩]=if An ⟨1,0,x⟩=true then 0 else 1:=by
 unfold CP;by_cases h:An ⟨1,0,x⟩=true
 ·have a:x.size<=6000:=CA h
  have:BL [⟨1,0,x⟩]<=6001:=by simp [BL];omega
  simp [h,this]
 ·simp [h]
theorem Dt (x:ByteArray) (w:World) (hx:x.size<=maxLen):Ro 65 #[.string x] w (zc (nmS x.data.toList)):=by
 obtain ⟨fin,a⟩:=nm (nmS x.data.toList);rw [<-a];unfold nmS at a;rw [FZ] at a;obtain ⟨p,l⟩:=nm (An ⟨1,0,x⟩);obtain ⟨q,k⟩:=nm (Cz x);have A:Hx (fin=(p && !q)):=by show _=_;rw [a,l,k];rfl
 have v:Hx (∀ X,Ov w X->Ro 108 #[.string x] X (zc q)):=fun X _=>by rw [k];exact (FT x X).mono fun e n ⟨G,F⟩=>⟨G,F ▸ Below.refl _ _⟩
 obtain ⟨V,i⟩:=nm (w.alloc (ze #[M O 1,M O 0,.string x] 44));obtain ⟨st,c⟩:=nm (Dy [⟨1,0,x⟩]);have y:Hx (Calls Tryz.prog 18 #[U (some ⟨w.heap.size,0,none⟩) 1 1] V fun e n=>e=zg (zh #[.string st,M O (if p=true then 0 else 1)])/\Ov V n):=by
  have h:=LW (U (some ⟨w.heap.size,0,none⟩) 1 1) [⟨1,0,x⟩] V ⟨_,_,rfl,fun _=>⟨_,_,rfl,fun j u E=>?_⟩⟩ (by simp) (fun t r=>by simp at r;subst r;exact hx)
  ·rw [M7,<-l,<-c] at h
   exact h
  ·rw [i,Nat.zero_add]
   exact AW w [M O 1,M O 0,.string x] 44 j u E
 have g:Hx (Ov w V):=by show Ov _ _;rw [i];exact bA _ _
 clear a l k c hx;go_enter Tryz.func65,Tryz.ntmps65;go_wp2_with fail;rw [<-i];clear i;refine y.o.mono ?_;rintro e C ⟨rfl,f⟩;have b:Hx (Ov w C):=Ab g.o f;clear f y g
 cases p with
 | false=>
  rw [if_neg (by simp)];go_wp2_with fail;go_ret;exact ⟨by have h:=A.o;simp at h;rw [h];rfl,b.o⟩
 | true=>
  rw [if_pos rfl];go_wp2_with fail;refine (v.o _ b.o).mono ?_;rintro e B ⟨rfl,f⟩;have m:Hx (Ov w B):=Ab b.o f;clear f v;go_wp2_with fail;go_ret;exact ⟨by have h:=A.o;simp at h;rw [h];rfl,m.o⟩
theorem BC (x:ByteArray) (m:Bool) (w:World) (hx:x.size<=maxLen):Ro 66 #[.string x,zc m] w (zc (nfS x.data.toList m)):=by
 obtain ⟨fin,a⟩:=nm (nfS x.data.toList m);rw [<-a]
 cases m with
 | true=>
  have g:Hx (Ro 65 #[.string x] w (zc fin)):=by rw [a];exact Dt x w hx
  clear a hx;go_enter Tryz.func66,Tryz.ntmps66;go_wp2_with fail;refine g.o.mono ?_;rintro e j ⟨rfl,f⟩;have c:=Aa f;clear f g;go_wp2_with fail;go_ret;exact ⟨rfl,c.o⟩
 | false=>
  by_cases h0:x.data.toList=[]
  ·obtain rfl:=Aq h0
   have b:=Aa a;clear a hx h0;go_enter Tryz.func66,Tryz.ntmps66;go_wp2_with fail;go_ret;exact ⟨by rw [b.o];rfl,Below.refl _ _⟩
  ·have i:=Ax h0
   have b:Hx (fin=false):=by show _=_;rw [a];unfold nfS;simpa using h0
   clear a hx h0;go_enter Tryz.func66,Tryz.ntmps66;go_wp2_with fail;go_ret;exact ⟨by rw [b.o];rfl,Below.refl _ _⟩
theorem Ma (ke k:Nat) (cs:List Value) (d:D) (w:World) (h:ZC w ke k cs d):Ro 107 #[.agg cs.toArray] w (zc (DF ke d)):=by
 cases k with
 | zero=>exact h.elim
 | succ k=>
  obtain ⟨I,a,x,y,P,N,L,K,q,q1,H,e,F,E,b,W,T,G,Y,V,J,rfl,rfl,-,-,he,hA,-,-⟩:=h;obtain ⟨fin,c⟩:=nm (DF ke (stD I a x y e b G J));rw [<-c];unfold DF at c;simp only [gSs] at c;obtain ⟨ql,Q⟩:=nm (CU ke e);obtain ⟨qa,R⟩:=nm (b.all fun x=>!CU ke x);rw [<-JA,<-Q,<-R] at c;have HF:=Aa c;have KL:Hx (∀ X,Ov w X->Ro 104 #[zf #[M O P,M O N,M O L,.string K,U q q1 H]] X (zc ql)):=fun X hX=>by rw [Q];exact EO ke _ e X (he.over hX)
  have KA:Hx (∀ X,Ov w X->Ro 111 #[U F b.length E,.func (.func 140) #[] #[]] X (zc qa)):=fun X hX=>by rw [R];exact I8 140 (fun b w=>by simp [go_sem]) (fun x=>!CU ke x) b F E X (fun cs d X _ h=>JZ ke cs d X h) (B2 hX hA)
  have an:=hA.max;clear c Q R he hA;show Ro 107 #[zf #[M O I,M O a,.string x,.string y,M O P,M O N,M O L,.string K,U q q1 H,U F b.length E,U W G.length T,U Y J.length V]] w _;go_enter Tryz.func107,Tryz.ntmps107;by_cases h4:4 < b.length
  ·have hi:(4:Int) < (b.length:Int):=by omega
   go_wp2_with fail;go_ret;exact ⟨by have h:=HF.o;simp [h4] at h;rw [h];rfl,bA w (ze #[M O I,M O a,.string x,.string y,M O P,M O N,M O L,.string K,U q q1 H,U F b.length E,U W G.length T,U Y J.length V] 55)⟩
  ·have hi:¬ (4:Int) < (b.length:Int):=by omega
   go_wp2_with fail;refine (KL.o _ (bA w (ze #[M O I,M O a,.string x,.string y,M O P,M O N,M O L,.string K,U q q1 H,U F b.length E,U W G.length T,U Y J.length V] 55))).mono ?_;rintro e w1 ⟨rfl,S⟩;have aa:Hx (Ov w w1):=Ab (bA w (ze #[M O I,M O a,.string x,.string y,M O P,M O N,M O L,.string K,U q q1 H,U F b.length E,U W G.length T,U Y J.length V] 55)) S;have i:Hx (Ae [M O I,M O a,.string x,.string y,M O P,M O N,M O L,.string K,U q q1 H,U F b.length E,U W G.length T,U Y J.length V] w1 w.heap.size):=Ae.over (AW w [M O I,M O a,.string x,.string y,M O P,M O N,M O L,.string K,U q q1 H,U F b.length E,U W G.length T,U Y J.length V] 55) S;clear S  KL
   cases ql with
   | true=>
    obtain ⟨C,B,A,v,u,r,n,m,l,j,g,f⟩:=AC i.o;go_wp2_with fail;go_ret;exact ⟨by have h:=HF.o;simp [h4] at h;rw [h];rfl,aa.o⟩
   | false=>
    obtain ⟨C,B,A,v,u,r,n,m,l,j,g,f⟩:=AC i.o;go_wp2_with fail;refine (KA.o _ aa.o).mono ?_;rintro e w2 ⟨rfl,S⟩;have ae:Hx (Ov w w2):=Ab aa.o S;have Z:Hx (Ae [M O I,M O a,.string x,.string y,M O P,M O N,M O L,.string K,U q q1 H,U F b.length E,U W G.length T,U Y J.length V] w2 w.heap.size):=i.o.over S;clear S C B A v u r n m l j g f KA;obtain ⟨C,B,A,v,u,r,n,m,l,j,g,f⟩:=AC Z.o;go_wp2_with fail;go_ret;exact ⟨by have h:=HF.o;simp [h4] at h;rw [h];rfl,ae.o⟩
theorem MG (cs:List Value) (d:D) (w:World) (h:ZP w cs d):Ro 106 #[.agg cs.toArray] w (zc (!decide (6 < (gL 3 d).length))):=by
 obtain ⟨a,o,wr,g,f,c,rfl,rfl,-,i⟩:=h;obtain ⟨fin,b⟩:=nm (!decide (6 < (gL 3 (Dp a o wr c)).length));rw [<-b];simp only [gPp,List.length_map] at b;have j:=Aa b;have l:=i.max;clear b i;show Ro 106 #[zf #[M O a,.string o,zc wr,U g c.length f]] w _;go_enter Tryz.func106,Tryz.ntmps106;by_cases h6:6 < c.length
 ·have k:¬ (c.length:Int)<=6:=by omega
  go_wp2_with fail;go_ret;exact ⟨by have h:=j.o;simp [h6] at h;rw [h];(first | rfl | (simp;done) | (simp;assumption) | (simp;omega)),bA w (ze #[M O a,.string o,zc wr,U g c.length f] 53)⟩
 ·have k:(c.length:Int)<=6:=by omega
  go_wp2_with fail;go_ret;exact ⟨by have h:=j.o;simp [h6] at h;rw [h];(first | rfl | (simp;done) | (simp;assumption) | (simp;omega)),bA w (ze #[M O a,.string o,zc wr,U g c.length f] 53)⟩
theorem Mb (ke kc:Nat) (cs:List Value) (d:D) (w:World) (h:ZD w ke kc cs d):Ro 63 #[.agg cs.toArray] w (zc (DV ke d)):=by
 obtain ⟨K,a,x,y,L,I,H,j,V,S,l,W,T,b,R,Q,P,N,q,q1,J,r,rfl,rfl,-,-,hL,hP,-,hR⟩:=h;obtain ⟨fin,c⟩:=nm (DV ke (deD K a x y L j l b r));rw [<-c];unfold DV at c;simp only [gDd,List.length_map] at c;obtain ⟨ql,Y⟩:=nm (CU ke r);obtain ⟨qa,Z⟩:=nm (j.all fun p=>!decide (6 < (gL 3 p).length));rw [<-JA,<-Y,<-Z] at c;have HF:=Aa c;have KL:Hx (∀ X,Ov w X->Ro 104 #[zf #[M O R,M O Q,M O P,.string N,U q q1 J]] X (zc ql)):=fun X hX=>by rw [Y];exact EO ke _ r X (hR.over hX)
 have KA:Hx (∀ X,Ov w X->Ro 105 #[U I j.length H,.func (.func 106) #[] #[]] X (zc qa)):=fun X hX=>by rw [Z];exact LR 106 (fun an w=>by simp [go_sem]) (fun p=>!decide (6 < (gL 3 p).length)) j I H X (fun cs d X _ h=>MG cs d X h) (FQ hX hL)
 have av:=hL.max;have au:=hP.max;clear c Y Z hL hP hR;show Ro 63 #[zf #[M O K,M O a,.string x,.string y,zc L,U I j.length H,U V l.length S,U W b.length T,M O R,M O Q,M O P,.string N,U q q1 J]] w _;go_enter Tryz.func63,Tryz.ntmps63;by_cases h4:4 < j.length
 ·have hi:(4:Int) < (j.length:Int):=by omega
  go_wp2_with fail;go_ret;exact ⟨by have h:=HF.o;simp [h4] at h;rw [h];rfl,bA w (ze #[M O K,M O a,.string x,.string y,zc L,U I j.length H,U V l.length S,U W b.length T,M O R,M O Q,M O P,.string N,U q q1 J] 51)⟩
 ·have hi:¬ (4:Int) < (j.length:Int):=by omega
  by_cases h5:4 < l.length
  ·have ae:(4:Int) < (l.length:Int):=by omega
   go_wp2_with fail;go_ret;exact ⟨by have h:=HF.o;simp [h4,h5] at h;rw [h];rfl,bA w (ze #[M O K,M O a,.string x,.string y,zc L,U I j.length H,U V l.length S,U W b.length T,M O R,M O Q,M O P,.string N,U q q1 J] 51)⟩
  ·have ae:¬ (4:Int) < (l.length:Int):=by omega
   go_wp2_with fail;refine (KL.o _ (bA w (ze #[M O K,M O a,.string x,.string y,zc L,U I j.length H,U V l.length S,U W b.length T,M O R,M O Q,M O P,.string N,U q q1 J] 51))).mono ?_;rintro e w1 ⟨rfl,hb⟩;have ac:Hx (Ov w w1):=Ab (bA w (ze #[M O K,M O a,.string x,.string y,zc L,U I j.length H,U V l.length S,U W b.length T,M O R,M O Q,M O P,.string N,U q q1 J] 51)) hb;have k:Hx (Ae [M O K,M O a,.string x,.string y,zc L,U I j.length H,U V l.length S,U W b.length T,M O R,M O Q,M O P,.string N,U q q1 J] w1 w.heap.size):=Ae.over (AW w [M O K,M O a,.string x,.string y,zc L,U I j.length H,U V l.length S,U W b.length T,M O R,M O Q,M O P,.string N,U q q1 J] 51) hb;clear hb  KL
   cases ql with
   | true=>
    obtain ⟨G,F,E,C,B,A,v,u,n,m,i,g,f⟩:=Ap k.o;go_wp2_with fail;go_ret;exact ⟨by have h:=HF.o;simp [h4,h5] at h;rw [h];rfl,ac.o⟩
   | false=>
    obtain ⟨G,F,E,C,B,A,v,u,n,m,i,g,f⟩:=Ap k.o;go_wp2_with fail;refine (KA.o _ ac.o).mono ?_;rintro e w2 ⟨rfl,hb⟩;have ah:Hx (Ov w w2):=Ab ac.o hb;have ab:Hx (Ae [M O K,M O a,.string x,.string y,zc L,U I j.length H,U V l.length S,U W b.length T,M O R,M O Q,M O P,.string N,U q q1 J] w2 w.heap.size):=k.o.over hb;clear hb G F E C B A v u n m i g f KA;obtain ⟨G,F,E,C,B,A,v,u,n,m,i,g,f⟩:=Ap ab.o;go_wp2_with fail;go_ret;exact ⟨by have h:=HF.o;simp [h4,h5] at h;rw [h];rfl,ah.o⟩
theorem Ly (k:Nat) (cs:List Value) (d:D) (w:World) (h:ZE w k cs d):Ro 71 #[.agg cs.toArray] w (zc (CT d)):=by
 cases k with
 | zero=>exact h.elim
 | succ k=>
  obtain ⟨i,a,n,x,r,c,g,rfl,rfl,-,l⟩:=h;obtain ⟨fin,b⟩:=nm (CT (eD i a n x g));rw [<-b];unfold CT at b;simp only [gEe] at b;have y:=l.max;clear l;show Ro 71 #[zf #[M O i,M O a,M O n,.string x,U r g.length c]] w _;by_cases h1:i=0
  ·by_cases h2:n=0
   ·by_cases h3:x.data.toList=[]
    ·have j:=Aq h3
     by_cases h4:g=[]
     ·have f:Hx (fin=true):=by show _=_;rw [b,h1,h2,h3,h4];rfl
      clear b;subst h4;subst h1;subst h2;subst j;go_enter Tryz.func71,Tryz.ntmps71;go_wp2_with fail;go_ret;exact ⟨by rw [f.o];(first | rfl | (simp;done) | (simp;assumption) | (simp;omega)),bA _ _⟩
     ·have v:0 < g.length:=List.length_pos_iff.2 h4
      have u:¬ (g.length:Int)=0:=by omega
      have f:Hx (fin=false):=by show _=_;rw [b];simp [h4]
      clear b;subst h1;subst h2;subst j;go_enter Tryz.func71,Tryz.ntmps71;go_wp2_with fail;go_ret;exact ⟨by rw [f.o];(first | rfl | (simp;done) | (simp;assumption) | (simp;omega)),bA _ _⟩
    ·have m:=Ax h3
     have f:Hx (fin=false):=by show _=_;rw [b,show x.data.toList.isEmpty=false by simpa using h3];simp
     clear b;subst h1;subst h2;go_enter Tryz.func71,Tryz.ntmps71;go_wp2_with fail;go_ret;exact ⟨by rw [f.o];(first | rfl | (simp;done) | (simp;assumption) | (simp;omega)),bA _ _⟩
   ·have f:Hx (fin=false):=by show _=_;rw [b];simp [h2]
    clear b;subst h1;go_enter Tryz.func71,Tryz.ntmps71;go_wp2_with fail;go_ret;exact ⟨by rw [f.o];(first | rfl | (simp;done) | (simp;assumption) | (simp;omega)),bA _ _⟩
  ·have f:Hx (fin=false):=by show _=_;rw [b];simp [h1]
   clear b;go_enter Tryz.func71,Tryz.ntmps71;go_wp2_with fail;go_ret;exact ⟨by rw [f.o];(first | rfl | (simp;done) | (simp;assumption) | (simp;omega)),bA _ _⟩
end Go.Proofs.YtipngnjffjajpaaGreatDoor.Tx
