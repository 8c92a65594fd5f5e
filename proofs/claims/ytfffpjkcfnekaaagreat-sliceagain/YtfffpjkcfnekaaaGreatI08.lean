/- Package label: those who may, levels that are right, one list within another. -/
import Derived.Deep.RegionHeld3
import Derived.Deep.DrawnRows
import Derived.Test.YtfffpjkcfnekaaaGreatI04
set_option linter.unusedVariables false
set_option maxHeartbeats 8000000
set_option maxRecDepth 100000
namespace Go.Proofs.YtfffpjkcfnekaaaGreat
open Go.RowKit
open Go.Value renaming slice -> O, int -> zd, bool -> zg, agg -> zh, pointer -> zj, tuple -> zm
open Go.IntKind renaming i64 -> U
open Go.Obj renaming cells -> ze
open Go.Ending renaming returned -> zk
theorem H0 {α:Type} (l:List α) (k:Nat) (x:α) (h:k < l.length):(l.set k x).take (k+1)=l.take k++[x]:=by
 rw [List.take_succ_eq_append_getElem (by simpa using h)];simp only [List.take_set,List.getElem_set_self];rw [List.set_eq_of_length_le (by simp;omega)]
def EA (f:Nat->Bool) (g n k:Nat) (W:World):Prop:=∃ cur:List Value,cur.length=n/\cur.take k=Bb (Cj f k)/\W.heap[g]? = some (.cells cur.toArray 4 (0,0))
theorem Kf {f:Nat->Bool} {g n k:Nat} {W W':World} (h:EA f g n k W) (hb:Ov W W'):EA f g n k W':=by
 obtain ⟨b,i,d,c⟩:=h;exact ⟨b,i,d,by rw [hb.block g (Array.getElem?_eq_some_iff.1 c).1];exact c⟩
theorem LG {f:Nat->Bool} {g n k:Nat} {W:World} (h:EA f g n k W) (hk:k < n):EA f g n (k+1) (W.setCell ⟨g,k,none⟩ (zg (f k))):=by
 obtain ⟨b,i,d,c⟩:=h;refine ⟨b.set k (zg (f k)),by simpa using i,?_,?_⟩
 ·rw [H0 _ _ _ (by omega),d,K8]
  simp [Bb]
 ·have:=heap_setCell_same W g k _ 4 (zg (f k)) c
  simpa using this
theorem Kg {f:Nat->Bool} {g n k j:Nat} {W:World} (h:EA f g n k W) (hj:j < n):(∃ u,W.cell? ⟨g,j,none⟩=some u)/\W.frozen? ⟨g,j,none⟩=false:=by
 obtain ⟨b,d,i,c⟩:=h;refine ⟨⟨b[j]'(by omega),?_⟩,?_⟩
 ·simp [World.cell?,c,d,hj]
 ·simp [World.frozen?,c]
theorem LH {f:Nat->Bool} {g n B:Nat} {W:World} (h:EA f g n n W) (hn:n<=6) (hg:B<=g):W.ownsRow B 4 1 (O (some ⟨g,0,none⟩) n n) n (Bb (Cj f n)):=by
 obtain ⟨b,i,d,c⟩:=h;refine ⟨by simp [Bb,A7],Or.inr ⟨g,n,b.toArray,rfl,hg,c,Nat.le_refl _,by unfold maxLen;omega,by simp [i],?_⟩⟩;rw [Nat.mul_one];exact d
theorem EE (F:FuncId) (c1 c2:Value) (f:Nat->Bool) (n:Nat) (h1:1<=n) (hn:n<=6) (s:Value) (w:World)
  (hF:Hx (∀ (k:Nat),k < n->∀ W:World,Ov w W->Calls Tryz.prog F #[zd U k,c1,c2] W fun e w2=>e=zk (zg (f k))/\Ov W w2))
  (hC:∀ (args:Array Value) (w:World),(callFunc F args).run Tryz.prog w=.ok (.enter F args) w) :
  Calls Tryz.prog 70 #[zh #[zd U n,s],.func (.func F) #[] #[c1,c2]] w fun e w'=>∃ g,e=zk (O (some ⟨g,0,none⟩) n n)/\w.heap.size<=g/\g < w'.heap.size/\w'.ownsRow w.heap.size 4 1 (O (some ⟨g,0,none⟩) n n) n (Bb (Cj f n))/\Ov w w':=by
 have E:=fun w=>DV n hn w;have t:EA f (w.heap.size+1) n 0 ((w.alloc (ze #[zd U n,s] 24)).alloc (.cells (List.replicate n (Value.bool false)).toArray 4)):=by
  refine ⟨List.replicate n (zg false),by simp,by simp [Cj,Bb],?_⟩;have:=heap_alloc_new (w.alloc (ze #[zd U n,s] 24)) (.cells (List.replicate n (Value.bool false)).toArray 4);simpa using this
 have d:Ov w ((w.alloc (ze #[zd U n,s] 24)).alloc (.cells (List.replicate n (Value.bool false)).toArray 4)):=(bA w _).alloc (by simp) _;have C:=Aa t;have L:=Aa d;clear t d;go_enter Tryz.func70,Tryz.ntmps70;go_wp2_with fail;go_loopw [12] (fun i wr=>∃ k:Nat,k<=n/\i=zd U k/\EA f (w.heap.size+1) n k wr/\Ov w wr) (fun i _=>n - (intOf i).toNat)
 case atStart=>exact ⟨0,Nat.zero_le _,rfl,by simpa using C.o,by simpa using L.o⟩
 case round=>
  clear C L E;obtain ⟨k,hk,rfl,b,c⟩:=hrel;by_cases hkn:k < n
  ·have K:=Aa (hF.o k hkn _ c)
   go_wp2_with fail;refine (K.o).mono ?_;rintro e w2 ⟨rfl,q⟩;have l:=Kf b q;have A:=c.trans (q.mono c.size);obtain ⟨⟨u,R⟩,Q⟩:=Kg l hkn;have y:=LG l hkn;have z:=A.setCell (p:=⟨w.heap.size+1,k,none⟩) (by simp) (zg (f k));have I:=Aa y;have J:=Aa z;clear b l q A y z K c;go_wp2_with fail;exact ⟨⟨k+1,by omega,by go_num,I.o,J.o⟩,by simp [intOf];omega⟩
  ·have H:k=n:=by omega
   subst H;have G:w.heap.size+1 < wr.heap.size:=by obtain ⟨N,_,_,M⟩:=b;exact (Array.getElem?_eq_some_iff.1 M).1
   have P:=Aa (LH b hn (B:=w.heap.size) (by omega));clear b hF;go_wp2_with fail;go_ret;exact ⟨w.heap.size+1,rfl,by omega,G,P.o,c⟩
def Cp (w:World) (v:Value) (ls:List Lev):Prop:=
 ∃ ao cap,v=O ao ls.length cap/\(ls≠[]->∃ b off,ao=some ⟨b,off,none⟩/\∀ i (h:i < ls.length),∃ rv wv,w.cell? ⟨b,off+i*2,none⟩=some rv/\w.cell? ⟨b,off+i*2+1,none⟩=some wv/\Bn w (zh #[rv,wv]) ls[i])
theorem CK {w w':World} {v:Value} {ls:List Lev} (h:Cp w v ls) (hb:Ov w w'):Cp w' v ls:=by
 obtain ⟨t,f,rfl,q⟩:=h;refine ⟨t,f,rfl,fun c=>?_⟩;obtain ⟨b,off,rfl,d⟩:=q c;refine ⟨b,off,rfl,fun i p=>?_⟩;obtain ⟨rv,l,k,g,s⟩:=d i p;exact ⟨rv,l,by rw [(Am hb).1 _ _ (bL k)];exact k,by rw [(Am hb).1 _ _ (bL g)];exact g,AW s hb⟩
theorem Ix {w:World} {v:Value} {ls:List Lev} (h:Cp w v ls) {i:Nat} (hi:i < ls.length):∃ b off cap rv wv,v=O (some ⟨b,off,none⟩) ls.length cap/\w.cell? ⟨b,off+i*2,none⟩=some rv/\w.cell? ⟨b,off+i*2+1,none⟩=some wv/\Bn w (zh #[rv,wv]) ls[i]:=by
 obtain ⟨l,cap,rfl,d⟩:=h;obtain ⟨b,off,rfl,c⟩:=d (by rintro rfl;simp at hi);obtain ⟨rv,wv,k,g,f⟩:=c i hi;exact ⟨b,off,cap,rv,wv,rfl,k,g,f⟩
def B3 (m:Int):List Lev->Int
 | []=>0
 | l::ls=>if CV m l=0 then B3 m ls else CV m l
theorem H7 {m:Int} {ls:List Lev} {k:Nat} (hk:k < ls.length):B3 m (ls.drop k)=if CV m ls[k]=0 then B3 m (ls.drop (k+1)) else CV m ls[k]:=by
 rw [List.drop_eq_getElem_cons hk];rfl
def Ga (m:Int) (gs:List (Int × Int)) (ls:List Lev):Int:=if AN m gs=0 then B3 m ls else AN m gs
theorem DW (m:Int) (l:Lev):(CV m l=0/\((l.r.length:Int)=m/\(l.w.length:Int)=m))\/(CV m l=1/\((l.r.length:Int)≠m\/((l.r.length:Int)=m/\(l.w.length:Int)≠m))):=by
 unfold CV;by_cases h:(l.r.length:Int)=m/\(l.w.length:Int)=m
 ·exact Or.inl ⟨if_pos h,h⟩
 ·refine Or.inr ⟨if_neg h,?_⟩
  by_cases h1:(l.r.length:Int)=m
  ·exact Or.inr ⟨h1,fun b=>h ⟨h1,b⟩⟩
  ·exact Or.inl h1
theorem FL (m:Int) (v vs:Value) (gs ls) (w:World) (hv:AB w v gs) (hl:Cp w vs ls) (hn:ls.length<=2) :
  Calls Tryz.prog 59 #[zh #[zd U m,v],vs] w fun e w'=>e=zk (zd U (Ga m gs ls))/\Ov w w':=by
 have g:Ov w (w.alloc (ze #[zd U m,v] 24)):=bA w _;have M:=check_any m v gs (w.alloc (ze #[zd U m,v] 24)) (Aj hv g);have L:Ga m gs ls=if AN m gs=0 then B3 m ls else AN m gs:=rfl;have HL:=Aa hl;obtain ⟨ao,ah,rfl,-⟩:=hl;obtain ⟨r,T⟩:=nm (AN m gs);rw [<-T] at M L;obtain ⟨va,vn,vc,rfl⟩:=CN hv;have HC:=Aa M;have H:=Aa L;clear M L T hv;go_enter Tryz.func59,Tryz.ntmps59;go_wp2_with fail;refine (HC.o).mono ?_;rintro e Q ⟨rfl,u⟩;have c0:Q.cell? ⟨w.heap.size,0,none⟩=some (zd U m):=by rw [(Am u).1 _ _ (by simp)];simp [go_sem]
 have A:Ov w Q:=g.trans (u.mono (by simp));clear HC u g;by_cases hr0:r=0
 ·subst hr0
  go_wp2_with fail;go_loopw [15] (fun i wr=>∃ k:Nat,k<=ls.length/\i=zd U k/\B3 m ls=B3 m (ls.drop k)/\Ov w wr/\wr.cell? ⟨w.heap.size,0,none⟩=some (zd U m)) (fun i _=>ls.length - (intOf i).toNat)
  case atStart=>exact ⟨0,Nat.zero_le _,rfl,rfl,A,c0⟩
  case round=>
   clear A c0;obtain ⟨k,hk,rfl,p,f,c0⟩:=hrel;by_cases hkl:k < ls.length
   ·obtain ⟨b,off,W,rv,wv,J,q0,q1,q2⟩:=Ix (CK HL.o f) hkl
    injection J with P N e3;subst P e3;clear N;have c:=H7 (m:=m) hkl;rw [<-p] at c;have C:=DW m ls[k];obtain ⟨x,y,B,⟨Z,S,P,-⟩,⟨Y,R,N,-⟩⟩:=q2;obtain ⟨rfl,rfl⟩:rv=x/\wv=y:=by simpa using B
    subst P N;obtain ⟨n1,t⟩:=nm (ls[k].r.length);obtain ⟨G,s⟩:=nm (ls[k].w.length);rw [<-t,<-s] at C;rw [<-t] at q0;rw [<-s] at q1;have I:=bL c0;have z:Ov wr (wr.alloc (ze #[O Z n1 S,O Y G R] 50)):=bA wr _;have d:=f.trans (z.mono f.size);have V:(wr.alloc (ze #[O Z n1 S,O Y G R] 50)).cell? ⟨w.heap.size,0,none⟩=some (zd U m):=by rw [(Am z).1 _ _ I];exact c0
    have D0:=Aa V;clear B t s p V z f;rcases C with ⟨l,q,E⟩ | ⟨l,q | ⟨q,E⟩⟩
    ·rw [l] at c
     have F:=Aa c;have X:((n1:Int) != m)=false:=by simp [q]
     have b2:((G:Int) != m)=false:=by simp [E]
     clear l c q E;go_wp2_with fail;exact ⟨⟨k+1,by omega,by go_num,by rw [F.o];simp,d,D0.o⟩,by simp [intOf];omega⟩
    ·rw [l] at c
     have F:=Aa c;have X:((n1:Int) != m)=true:=by simpa using q
     clear l c q;go_wp2_with fail;go_ret;exact ⟨by rw [H.o,F.o];simp,d⟩
    ·rw [l] at c
     have F:=Aa c;have X:((n1:Int) != m)=false:=by simp [q]
     have b2:((G:Int) != m)=true:=by simpa using E
     clear l c q E;go_wp2_with fail;go_ret;exact ⟨by rw [H.o,F.o];simp,d⟩
   ·have K:k=ls.length:=by omega
    have l:B3 m ls=0:=by rw [p,K,List.drop_length];rfl
    have HZ:=Aa l;clear l p c0;go_wp2_with fail;go_ret;exact ⟨by rw [H.o,HZ.o];simp,f⟩
 ·have af:(r != 0)=true:=by simpa using hr0
  go_wp2_with fail;go_ret;exact ⟨by rw [H.o];simp [hr0],A⟩
def C5 (a b:List Bool) (n:Nat):Bool:=(List.range n).all fun i=>!((a[i]?.getD false) && !(b[i]?.getD false))
theorem IU (l m:Lev) (n:Nat):(C5 m.r l.r n && C5 l.w m.w n)=Aw l m n:=by
 rw [Bool.eq_iff_iff,AA];simp only [C5,Bool.and_eq_true,List.all_eq_true,List.mem_range];constructor
 ·rintro ⟨f,d⟩ i c
  have a:=f i c;have b:=d i c;revert a b;cases m.r[i]?.getD false <;> cases l.r[i]?.getD false <;> cases l.w[i]?.getD false <;> cases m.w[i]?.getD false <;> simp
 ·intro h
  refine ⟨fun i c=>?_,fun i c=>?_⟩ <;> have a:=h i c <;> revert a <;> cases m.r[i]?.getD false <;> cases l.r[i]?.getD false <;> cases l.w[i]?.getD false <;> cases m.w[i]?.getD false <;> simp
theorem GD (va vb:Value) (a b:List Bool) (n:Nat) (w:World) (h0:1<=n) (hn:n<=6) (ha:A3 w va a) (hb:A3 w vb b) (hla:a.length=n) (hlb:b.length=n) :
  Calls Tryz.prog 60 #[va,vb] w fun e w'=>e=zk (zg (C5 a b n))/\Ov w w':=by
 obtain ⟨G,C,c1,rfl,l⟩:=CL ha hla h0;obtain ⟨F,B,E,rfl,g⟩:=CL hb hlb h0;have t:=Aa l;have s:=Aa g;clear l g ha hb hla hlb;go_enter Tryz.func60,Tryz.ntmps60;go_wp2_with fail
 go_loop [9] (fun i=>∃ k:Nat,k<=n/\i=zd U k/\(List.range k).all (fun i=>!((a[i]?.getD false) && !(b[i]?.getD false)))=true) (fun i=>n - (intOf i).toNat)
 case atStart=>exact ⟨0,Nat.zero_le _,rfl,rfl⟩
 case round=>
  obtain ⟨k,hk,rfl,f⟩:=hrel;by_cases hkn:k < n
  ·have l:=t.o k hkn
   have g:=s.o k hkn;have d:(!((a[k]?.getD false) && !(b[k]?.getD false)))=true->(List.range (k+1)).all (fun i=>!((a[i]?.getD false) && !(b[i]?.getD false)))=true:=fun h=>by
    rw [List.range_succ,List.all_append,f];simpa using h
   have c:(!((a[k]?.getD false) && !(b[k]?.getD false)))=false->C5 a b n=false:=fun h=>by
    unfold C5;rw [List.all_eq_false];exact ⟨k,List.mem_range.2 hkn,by simpa using h⟩
   generalize a[k]?.getD false=x at l d c;generalize b[k]?.getD false=y at g d c;have z:=Aa d;have u:=Aa c;clear d c f;cases x <;> cases y
   all_goals go_wp2_with fail
   all_goals first
    | exact ⟨⟨k+1,by omega,by go_num,z.o (by first | rfl | trivial)⟩,by simp [intOf];omega⟩
    | (go_ret;exact ⟨by rw [u.o (by first | rfl | trivial)];rfl,Below.refl _ w⟩)
  ·have p:k=n:=by omega
   have q:C5 a b n=true:=by unfold C5;rw [<-p];exact f
   have A:=Aa q;clear q f;go_wp2_with fail;go_ret;exact ⟨by rw [A.o];rfl,Below.refl _ w⟩
theorem Lx {W:World} {b:Nat} {rv wv:Value} {l:Lev} (h0:W.cell? ⟨b,0,none⟩=some rv) (h1:W.cell? ⟨b,1,none⟩=some wv) (hl:Bn W (zh #[rv,wv]) l):Cp W (O (some ⟨b,0,none⟩) 1 1) [l]:=by
 refine ⟨_,1,rfl,fun _=>⟨b,0,rfl,fun i c=>?_⟩⟩;have:i=0:=by simp at c;omega
 subst this;exact ⟨rv,wv,by simpa using h0,by simpa using h1,hl⟩
theorem Lw {W:World} {b:Nat} {rv wv ru wu:Value} {l k:Lev} (h0:W.cell? ⟨b,0,none⟩=some rv) (h1:W.cell? ⟨b,1,none⟩=some wv) (h2:W.cell? ⟨b,2,none⟩=some ru) (h3:W.cell? ⟨b,3,none⟩=some wu) (hl:Bn W (zh #[rv,wv]) l) (hk:Bn W (zh #[ru,wu]) k):Cp W (O (some ⟨b,0,none⟩) 2 2) [l,k]:=by
 refine ⟨_,2,rfl,fun _=>⟨b,0,rfl,fun i c=>?_⟩⟩;have:i=0\/i=1:=by simp at c;omega
 rcases this with rfl | rfl
 ·exact ⟨rv,wv,by simpa using h0,by simpa using h1,hl⟩
 ·exact ⟨ru,wu,by simpa using h2,by simpa using h3,hk⟩
theorem Mb (m:Int) (gs) (l:Lev):Ga m gs [l]=Dp m gs l:=by
 unfold Ga Dp B3 B3;split
 ·split
  ·rename_i h;rw [h]
  ·rfl
 ·rfl
theorem Ma (m:Int) (gs) (l k:Lev):Ga m gs [l,k]=Ff m gs l k:=by
 unfold Ga Ff Dp B3 B3 B3;by_cases hc:AN m gs=0
 ·simp only [if_pos hc]
  by_cases h1:CV m l=0
  ·simp only [if_pos h1]
   by_cases h2:CV m k=0
   ·simp [h2]
   ·simp [h2]
  ·simp [h1]
 ·simp [hc]
theorem Ek {w:World} {v:Value} {l:Lev} (h:Bn w v l):∃ a1 c1 a2 c2,v=zh #[O a1 l.r.length c1,O a2 l.w.length c2]:=by
 obtain ⟨c,b,rfl,⟨a1,f,rfl,-⟩,⟨a2,d,rfl,-⟩⟩:=h;exact ⟨_,_,_,_,rfl⟩
theorem S7:QB:=by
 intro m v q B l w f hl;have z:=Aa hl;obtain ⟨t,k,s,i,rfl⟩:=Ek hl;have y:=Aa f;obtain ⟨va,vn,vc,rfl⟩:=CN f;have c:Ov w (((w.alloc (ze #[zd U m,O va vn vc] 24)).alloc (ze #[O t l.r.length k,O s l.w.length i] 50)).alloc (ze #[O t l.r.length k,O s l.w.length i] 50)):=((bA w _).alloc (by simp) _).alloc (by simp;omega) _;have b:=FL m (O va vn vc) (O (some ⟨w.heap.size+1+1,0,none⟩) 1 1) q [l] _ (Aj y.o c) (Lx (by simp [go_sem]) (by simp [go_sem]) (AW z.o c)) (by simp);rw [Mb] at b;obtain ⟨r,p⟩:=nm (Dp m q l);rw [<-p] at b ⊢;have u:=Aa b;clear hl f b p;go_enter Tryz.func49,Tryz.ntmps49;go_wp2_with fail;refine (u.o).mono ?_;rintro e A ⟨rfl,d⟩;have g:=c.trans (d.mono (by simp;omega));clear u d c;go_wp2_with fail;go_ret;exact ⟨rfl,g⟩
theorem Mt {m:Int} {gs:List (Int × Int)} {l k:Lev} (h:Ff m gs l k=0):∃ n:Nat,m=n/\1<=n/\n<=6/\l.len n/\k.len n/\AN m gs=0:=by
 unfold Ff at h;split at h
 ·rename_i b
  have c:AN m gs=0:=by
   unfold Dp at h;split at h
   ·assumption
   ·exact h
  obtain ⟨n,d,i,f,_⟩:=Fh c;unfold Dp at h b;rw [if_pos c] at h b;rcases DW m l with ⟨_,t,s⟩ | ⟨g,_⟩
  ·rcases DW m k with ⟨_,q,p⟩ | ⟨g,_⟩
   ·exact ⟨n,d,i,f,⟨by omega,by omega⟩,⟨by omega,by omega⟩,c⟩
   ·rw [g] at h;cases h
  ·rw [g] at b;cases b
 ·rename_i b
  exact absurd h b
theorem Pv (w:World) (m:Int) (gs) (v:Value) (x y z u:Value) (l k) (hv:AB w v gs) (hl:Bn w (zh #[x,y]) l) (hk:Bn w (zh #[z,u]) k) (W:World) (b:Nat) (hb:Ov w W)
  (h0:W.cell? ⟨b,0,none⟩=some x) (h1:W.cell? ⟨b,1,none⟩=some y) (h2:W.cell? ⟨b,2,none⟩=some z) (h3:W.cell? ⟨b,3,none⟩=some u) :
  Calls Tryz.prog 59 #[zh #[zd U m,v],O (some ⟨b,0,none⟩) 2 2] W fun e w'=>e=zk (zd U (Ff m gs l k))/\Ov W w':=by
 have c:=FL m v (O (some ⟨b,0,none⟩) 2 2) gs [l,k] W (Aj hv hb) (Lw h0 h1 h2 h3 (AW hl hb) (AW hk hb)) (by simp);rw [Ma] at c;exact c
theorem Qm:QG:=by
 intro m v gs vl vk l k w V hl hk;have HL:=Aa hl;have HK:=Aa hk;have HV:=Aa V;obtain ⟨S,Q,K,H,rfl⟩:=Ek hl;obtain ⟨R,P,J,G,rfl⟩:=Ek hk;obtain ⟨va,vn,vc,rfl⟩:=CN V;have g:Ov w ((((w.alloc (ze #[zd U m,O va vn vc] 24)).alloc (ze #[O S l.r.length Q,O K l.w.length H] 50)).alloc (ze #[O R k.r.length P,O J k.w.length G] 50)).alloc (ze #[O S l.r.length Q,O K l.w.length H,O R k.r.length P,O J k.w.length G] 50)):=(((bA w _).alloc (by simp) _).alloc (by simp;omega) _).alloc (by simp;omega) _;have c:=Pv w m gs (O va vn vc) _ _ _ _ l k HV.o HL.o HK.o _ (w.heap.size+1+1+1) g (by simp [go_sem]) (by simp [go_sem]) (by simp [go_sem]) (by simp [go_sem]);have hW:=fun (n:Nat) (F:1<=n) (E:n<=6) (d:l.len n) (f:k.len n) (W:World) (I:Ov w W)=>GD (O R k.r.length P) (O S l.r.length Q) k.r l.r n W F E (by obtain ⟨_,_,e,h,_⟩:=HK.o;obtain ⟨rfl,rfl⟩:=(by simpa using e:_/\_);exact A4 h I) (by obtain ⟨_,_,e,h,_⟩:=HL.o;obtain ⟨rfl,rfl⟩:=(by simpa using e:_/\_);exact A4 h I) f.1 d.1;have hX:=fun (n:Nat) (F:1<=n) (E:n<=6) (d:l.len n) (f:k.len n) (W:World) (I:Ov w W)=>GD (O K l.w.length H) (O J k.w.length G) l.w k.w n W F E (by obtain ⟨_,_,e,_,h⟩:=HL.o;obtain ⟨rfl,rfl⟩:=(by simpa using e:_/\_);exact A4 h I) (by obtain ⟨_,_,e,_,h⟩:=HK.o;obtain ⟨rfl,rfl⟩:=(by simpa using e:_/\_);exact A4 h I) d.2 f.2;have B:=fun h=>Mt (m:=m) (gs:=gs) (l:=l) (k:=k) h;obtain ⟨r,hr⟩:=nm (Ff m gs l k);rw [<-hr] at c B ⊢;have HC:=Aa c;have KW:=Aa hW;have KX:=Aa hX;have M:=Aa B;clear hl hk V c hW hX B hr;go_enter Tryz.func16,Tryz.ntmps16;go_wp2_with fail;refine (HC.o).mono ?_;rintro e N ⟨rfl,C⟩;have b:=g.trans (C.mono (by simp;omega));obtain ⟨s,X⟩:=Am C;have c0:N.cell? ⟨w.heap.size+1,0,none⟩=some (O S l.r.length Q):=by rw [s _ _ (by simp <;> omega)];simp [go_sem]
 have c1:N.cell? ⟨w.heap.size+1,1,none⟩=some (O K l.w.length H):=by rw [s _ _ (by simp <;> omega)];simp [go_sem]
 have c2:N.cell? ⟨w.heap.size+1+1,0,none⟩=some (O R k.r.length P):=by rw [s _ _ (by simp <;> omega)];simp [go_sem]
 have c3:N.cell? ⟨w.heap.size+1+1,1,none⟩=some (O J k.w.length G):=by rw [s _ _ (by simp <;> omega)];simp [go_sem]
 clear s X C g HC;by_cases hr0:r=0
 ·subst hr0
  obtain ⟨n,hm,F,E,d,f,Y⟩:=M.o (by first | rfl | trivial);subst hm;have A:=KW.o n F E d f;have z:=KX.o n F E d f;have q:=IU l k n;obtain ⟨x,hx⟩:=nm (C5 k.r l.r n);obtain ⟨y,hy⟩:=nm (C5 l.w k.w n);rw [<-hx] at A q;rw [<-hy] at z q;have t:Aw l k n=(x && y):=q.symm;have u:=Aa t;have L:=Aa A;have ab:=Aa z;clear A z q hx hy t KW KX M Y
  cases x with
  | false=>
   go_wp2_with fail;refine (L.o _ b).mono ?_;rintro e T ⟨rfl,i⟩;have p:=b.trans (i.mono b.size);clear i;go_wp2_with fail
   go_ret2
   exact ⟨by rw [u.o];simp,p⟩
  | true=>
   go_wp2_with fail;refine (L.o _ b).mono ?_;rintro e T ⟨rfl,i⟩;have p:=b.trans (i.mono b.size);obtain ⟨s,X⟩:=Am i;have d1:T.cell? ⟨w.heap.size+1,1,none⟩=some (O K l.w.length H):=by rw [s _ _ (bL c1)];exact c1
   have d3:T.cell? ⟨w.heap.size+1+1,1,none⟩=some (O J k.w.length G):=by rw [s _ _ (bL c3)];exact c3
   clear i s X c0 c1 c2 c3 b;go_wp2_with fail;refine (ab.o _ p).mono ?_;rintro e w3 ⟨rfl,g⟩;have Z:=p.trans (g.mono p.size);clear g d1 d3;go_wp2_with fail
   go_ret2
   exact ⟨by rw [u.o];simp,Z⟩
 ·have al:(r != 0)=true:=by simpa using hr0
  go_wp2_with fail
  go_ret2
  exact ⟨by simp [hr0],b⟩
theorem RY (args:Array Value) (w:World):(callFunc 105 args).run Tryz.prog w=.ok (.enter 105 args) w:=by simp [go_sem]
theorem Nj (bl bm n k b1 o1 c1 b2 o2 c2:Nat) (x y:Bool) (W:World) (hk:k < n) (hn:n<=6) (h1:W.cell? ⟨bl,0,none⟩=some (O (some ⟨b1,o1,none⟩) n c1)) (h2:W.cell? ⟨bm,0,none⟩=some (O (some ⟨b2,o2,none⟩) n c2))
  (q1:W.cell? ⟨b1,o1+k,none⟩=some (zg x)) (q2:W.cell? ⟨b2,o2+k,none⟩=some (zg y)) :
  Calls Tryz.prog 105 #[zd U k,zj (some ⟨bl,0,none⟩),zj (some ⟨bm,0,none⟩)] W fun e w'=>e=zk (zg (x && y))/\Ov W w':=by
 cases x;all_goals
  go_enter Tryz.func105,Tryz.ntmps105;go_wp2_with fail;go_ret;exact ⟨by simp,Below.refl _ W⟩
theorem RV (args:Array Value) (w:World):(callFunc 106 args).run Tryz.prog w=.ok (.enter 106 args) w:=by simp [go_sem]
theorem Ni (bl bm n k b1 o1 c1 b2 o2 c2:Nat) (x y:Bool) (W:World) (hk:k < n) (hn:n<=6) (h1:W.cell? ⟨bl,1,none⟩=some (O (some ⟨b1,o1,none⟩) n c1)) (h2:W.cell? ⟨bm,1,none⟩=some (O (some ⟨b2,o2,none⟩) n c2))
  (q1:W.cell? ⟨b1,o1+k,none⟩=some (zg x)) (q2:W.cell? ⟨b2,o2+k,none⟩=some (zg y)) :
  Calls Tryz.prog 106 #[zd U k,zj (some ⟨bl,0,none⟩),zj (some ⟨bm,0,none⟩)] W fun e w'=>e=zk (zg (x || y))/\Ov W w':=by
 cases x;all_goals
  go_enter Tryz.func106,Tryz.ntmps106;go_wp2_with fail;go_ret;exact ⟨by simp,Below.refl _ W⟩
attribute [local go_sem ↓] Go.wp_at_zero Go.wp_at_succ
theorem QZ {B:Nat} {wB W W':World} {b o0 o1:Nat} {v0 v1:Value} (h:W.cell? ⟨b,o0,none⟩=some v0/\W.cell? ⟨b,o1,none⟩=some v1/\Below B wB W) (hb:Ov W W') (hB:B<=wB.heap.size):W'.cell? ⟨b,o0,none⟩=some v0/\W'.cell? ⟨b,o1,none⟩=some v1/\Below B wB W':=by
 obtain ⟨g,f,d⟩:=h;obtain ⟨c,i⟩:=Am hb;exact ⟨by rw [c _ _ (bL g)];exact g,by rw [c _ _ (bL f)];exact f,d.trans (hb.mono (Nat.le_trans hB d.size))⟩
theorem Sm {B:Nat} {wB W:World} {b o0 o1:Nat} {v0 v1:Value} (h:W.cell? ⟨b,o0,none⟩=some v0/\W.cell? ⟨b,o1,none⟩=some v1/\Below B wB W) (hb:b < B) {p:Addr} (hp:B<=p.block) (u:Value):(W.setCell p u).cell? ⟨b,o0,none⟩=some v0/\(W.setCell p u).cell? ⟨b,o1,none⟩=some v1/\Below B wB (W.setCell p u):=by
 obtain ⟨g,f,d⟩:=h;have c:∀ o,(W.setCell p u).cell? ⟨b,o,none⟩=W.cell? ⟨b,o,none⟩:=fun o=>World.cell?_setCell_other _ _ _ _ (by rintro rfl;simp at hp;omega);exact ⟨by rw [c];exact g,by rw [c];exact f,d.setCell hp u⟩
theorem Hg {w wa wp wq:World} {g1 g2 n q:Nat} {f1 f2:Nat->Bool} (hw:w.heap.size<=wa.heap.size) (hq:q < wa.heap.size)
  (h1:wp.ownsRow wa.heap.size 4 1 (O (some ⟨g1,0,none⟩) n n) n (Bb (Cj f1 n))) (hl1:g1 < wp.heap.size) (hz:wa.heap.size<=wp.heap.size)
  (h2:wq.ownsRow wp.heap.size 4 1 (O (some ⟨g2,0,none⟩) n n) n (Bb (Cj f2 n))) (hb:Ov wp wq) (hg2:wp.heap.size<=g2) (u0 u1:Value) :
  Bh w ((wq.setCell ⟨q,0,none⟩ u0).setCell ⟨q,1,none⟩ u1) (zh #[O (some ⟨g1,0,none⟩) n n,O (some ⟨g2,0,none⟩) n n]) ⟨Cj f1 n,Cj f2 n⟩:=by
 refine ⟨_,_,rfl,?_,?_,Or.inr ?_⟩
 ·rw [A7]
  exact Ik (Bp (Bp (Dj h1 hb) (by simpa using hq) _) (by simpa using hq) _) hw
 ·rw [A7]
  exact Ik (Bp (Bp h2 (by simp;omega) _) (by simp;omega) _) (Nat.le_trans hw hz)
 ·simp [Value.ownBlock]
  omega
theorem Hh (w W:World):Bh w W (zh #[O none 0 0,O none 0 0]) AL:=
 ⟨_,_,rfl,World.ownsRow_nil _ _ _ _,World.ownsRow_nil _ _ _ _,Or.inl rfl⟩
theorem J7 (w:World) (n:Nat) (h1:1<=n) (hn:n<=6) (x y z u v:Value) (l k) (hl:Bn w (zh #[x,y]) l) (hk:Bn w (zh #[z,u]) k) (hln:l.len n) (hkn:k.len n) (W:World) (hB:Ov w W) (hz:w.heap.size+3<=W.heap.size)
  (c0:W.cell? ⟨w.heap.size+1,0,none⟩=some x) (c1:W.cell? ⟨w.heap.size+1,1,none⟩=some y) (c2:W.cell? ⟨w.heap.size+1+1,0,none⟩=some z) (c3:W.cell? ⟨w.heap.size+1+1,1,none⟩=some u) :
  (Calls Tryz.prog 70 #[zh #[zd U n,v],.func (.func 105) #[] #[zj (some ⟨w.heap.size+1,0,none⟩),zj (some ⟨w.heap.size+1+1,0,none⟩)]] W fun e w'=>∃ g,e=zk (O (some ⟨g,0,none⟩) n n)/\W.heap.size<=g/\g < w'.heap.size/\w'.ownsRow W.heap.size 4 1 (O (some ⟨g,0,none⟩) n n) n (Bb (Cj (FK l.r k.r) n))/\Ov W w') /\
  (Calls Tryz.prog 70 #[zh #[zd U n,v],.func (.func 106) #[] #[zj (some ⟨w.heap.size+1,0,none⟩),zj (some ⟨w.heap.size+1+1,0,none⟩)]] W fun e w'=>∃ g,e=zk (O (some ⟨g,0,none⟩) n n)/\W.heap.size<=g/\g < w'.heap.size/\w'.ownsRow W.heap.size 4 1 (O (some ⟨g,0,none⟩) n n) n (Bb (Cj (I6 l.w k.w) n))/\Ov W w'):=by
 obtain ⟨B,A,e,s,p⟩:=hl;obtain ⟨rfl,rfl⟩:x=B/\y=A:=by simpa using e
 obtain ⟨t,C,R,q,f⟩:=hk;obtain ⟨rfl,rfl⟩:z=t/\u=C:=by simpa using R
 obtain ⟨X,L,Q,rfl,H⟩:=CL (A4 s hB) hln.1 h1;obtain ⟨V,K,P,rfl,G⟩:=CL (A4 q hB) hkn.1 h1;obtain ⟨T,J,N,rfl,F⟩:=CL (A4 p hB) hln.2 h1;obtain ⟨S,I,M,rfl,E⟩:=CL (A4 f hB) hkn.2 h1;have up:∀ (W':World),Ov W W'->∀ b o v,W.cell? ⟨b,o,none⟩=some v->W'.cell? ⟨b,o,none⟩=some v:=fun W' c b o v h=>by rw [(Am c).1 _ _ (bL h)];exact h
 refine ⟨EE 105 _ _ (FK l.r k.r) n h1 hn v W (Aa fun i d W' c=>?_) RY,EE 106 _ _ (I6 l.w k.w) n h1 hn v W (Aa fun i d W' c=>?_) RV⟩
 ·exact Nj _ _ n i X L Q V K P _ _ W' d hn (up W' c _ _ _ c0) (up W' c _ _ _ c2) (up W' c _ _ _ (H i d)) (up W' c _ _ _ (G i d))
 ·exact Ni _ _ n i T J N S I M _ _ W' d hn (up W' c _ _ _ c1) (up W' c _ _ _ c3) (up W' c _ _ _ (F i d)) (up W' c _ _ _ (E i d))
theorem RG:Se:=by
 intro m v gs vl vk l k w S hl hk;have HL:=Aa hl;have HK:=Aa hk;have HV:=Aa S;obtain ⟨a1,Q,a2,P,rfl⟩:=Ek hl;obtain ⟨a3,N,a4,M,rfl⟩:=Ek hk;obtain ⟨va,vn,vc,rfl⟩:=CN S;have u:Ov w (((((w.alloc (ze #[zd U m,O va vn vc] 24)).alloc (ze #[O a1 l.r.length Q,O a2 l.w.length P] 50)).alloc (ze #[O a3 k.r.length N,O a4 k.w.length M] 50)).alloc (ze #[O none 0 0,O none 0 0] 50)).alloc (ze #[O a1 l.r.length Q,O a2 l.w.length P,O a3 k.r.length N,O a4 k.w.length M] 50)):=((((bA w _).alloc (by simp) _).alloc (by simp;omega) _).alloc (by simp;omega) _).alloc (by simp;omega) _;have c:=Pv w m gs (O va vn vc) _ _ _ _ l k HV.o HL.o HK.o _ (w.heap.size+1+1+1+1) u (by simp [go_sem]) (by simp [go_sem]) (by simp [go_sem]) (by simp [go_sem]);have t:=fun h=>Mt (m:=m) (gs:=gs) (l:=l) (k:=k) h;obtain ⟨r,hr⟩:=nm (Ff m gs l k);rw [<-hr] at c t ⊢;have HC:=Aa c;have I:=Aa t;clear hl hk S c t hr;go_enter Tryz.func46,Tryz.ntmps46;go_wp2_with fail;refine (HC.o).mono ?_;rintro e b ⟨rfl,g⟩;have i:=u.trans (g.mono (by simp <;> omega))
 have R:=g.size;simp at R;obtain ⟨f,Y⟩:=Am g;have a0:b.cell? ⟨w.heap.size,0,none⟩=some (zd U m):=by rw [f _ _ (by simp <;> omega)];simp [go_sem]
 have ai:b.cell? ⟨w.heap.size,1,none⟩=some (O va vn vc):=by rw [f _ _ (by simp <;> omega)];simp [go_sem]
 have c0:b.cell? ⟨w.heap.size+1,0,none⟩=some (O a1 l.r.length Q):=by rw [f _ _ (by simp <;> omega)];simp [go_sem]
 have c1:b.cell? ⟨w.heap.size+1,1,none⟩=some (O a2 l.w.length P):=by rw [f _ _ (by simp <;> omega)];simp [go_sem]
 have c2:b.cell? ⟨w.heap.size+1+1,0,none⟩=some (O a3 k.r.length N):=by rw [f _ _ (by simp <;> omega)];simp [go_sem]
 have c3:b.cell? ⟨w.heap.size+1+1,1,none⟩=some (O a4 k.w.length M):=by rw [f _ _ (by simp <;> omega)];simp [go_sem]
 have e0:b.cell? ⟨w.heap.size+1+1+1,0,none⟩=some (O none 0 0):=by rw [f _ _ (by simp <;> omega)];simp [go_sem]
 have e1:b.cell? ⟨w.heap.size+1+1+1,1,none⟩=some (O none 0 0):=by rw [f _ _ (by simp <;> omega)];simp [go_sem]
 have f0:b.frozen? ⟨w.heap.size+1+1+1,0,none⟩=false:=by rw [Y _ _ (by simp <;> omega)];simp [go_sem]
 have f1:b.frozen? ⟨w.heap.size+1+1+1,1,none⟩=false:=by rw [Y _ _ (by simp <;> omega)];simp [go_sem]
 clear f Y g u HC;by_cases hr0:r=0
 ·subst hr0
  obtain ⟨n,hm,h1,h6,B,C,aa⟩:=I.o (by first | rfl | trivial);subst hm;have KT:=Aa fun (W:World) (y:Below (w.heap.size+1+1+1) b W)=>J7 w n h1 h6 _ _ _ _ (O va vn vc) l k HL.o HK.o B C W (i.trans (y.mono (by omega))) (Nat.le_trans (by omega) y.size) (by rw [y.cell (p:=⟨w.heap.size+1,0,none⟩) (by simp <;> omega)];exact c0) (by rw [y.cell (p:=⟨w.heap.size+1,1,none⟩) (by simp <;> omega)];exact c1) (by rw [y.cell (p:=⟨w.heap.size+1+1,0,none⟩) (by simp <;> omega)];exact c2) (by rw [y.cell (p:=⟨w.heap.size+1+1,1,none⟩) (by simp <;> omega)];exact c3)
  have E0:=Aa e0;have E1:=Aa e1;have F0:=Aa f0;have F1:=Aa f1;clear c0 c1 c2 c3 e0 e1 f0 f1 B C aa I HL HK HV;have A:w.heap.size+1+1+1<=b.heap.size:=by omega
  have z:w.heap.size+1+1+1 < b.heap.size:=by omega
  have s:w.heap.size < w.heap.size+1+1+1:=by omega
  have d:=Aa z;have J:=Aa s;have H:=Aa A;clear A z s;go_wp2_with fail;first | go_region_held3 (fun W=>W.cell? ⟨w.heap.size,0,none⟩=some (zd U n)/\W.cell? ⟨w.heap.size,1,none⟩=some (O va vn vc)/\Below (w.heap.size+1+1+1) b W) (first | assumption | exact ⟨a0,ai,below_drewN (Below.refl _ _) 1⟩ | exact QZ (by assumption) hbq H.o | exact QZ (by assumption) hbp H.o | exact Sm (Sm (by assumption) J.o (Nat.le_refl _) _) J.o (Nat.le_refl _) _ | fail) (first | (go_at_call 70;have am:=ep0;refine (KT.o _ (by assumption:_/\_/\_).2.2).2.mono ?_;rintro e K ⟨g2,rfl,X,ao,T,hbq⟩;have ac:K.cell? ⟨w.heap.size+1+1+1,0,none⟩=some (O none 0 0):=(by rw [(Am hbq).1 _ _ (bL ep0)];exact ep0);have ab:K.cell? ⟨w.heap.size+1+1+1,1,none⟩=some (O none 0 0):=(by rw [(Am hbq).1 _ _ (bL ep0)];exact ep1);have bd:K.frozen? ⟨w.heap.size+1+1+1,0,none⟩=false:=(by rw [(Am hbq).2 _ _ (bL ep0)];exact fp0);have bb:K.frozen? ⟨w.heap.size+1+1+1,1,none⟩=false:=(by rw [(Am hbq).2 _ _ (bL ep0)];exact fp1)) | (go_at_call 70;refine (KT.o _ (by assumption:_/\_/\_).2.2).1.mono ?_;rintro e L ⟨g1,rfl,a5,E,V,hbp⟩;have ep0:L.cell? ⟨w.heap.size+1+1+1,0,none⟩=some (O none 0 0):=(by rw [(Am hbp).1 _ _ d.o];exact E0.o);have ep1:L.cell? ⟨w.heap.size+1+1+1,1,none⟩=some (O none 0 0):=(by rw [(Am hbp).1 _ _ d.o];exact E1.o);have fp0:L.frozen? ⟨w.heap.size+1+1+1,0,none⟩=false:=(by rw [(Am hbp).2 _ _ d.o];exact F0.o);have fp1:L.frozen? ⟨w.heap.size+1+1+1,1,none⟩=false:=(by rw [(Am hbp).2 _ _ d.o];exact F1.o))) | fail
  all_goals go_wp2_with fail
  all_goals
   refine bodyPost_ret (v:=zm #[zh #[O (some ⟨g1,0,none⟩) n n,O (some ⟨g2,0,none⟩) n n],zd U 0]) (by simp [results,Tryz.results46,go_sem,ac,ab]) rfl ⟨_,rfl,Hg (w:=w) (wa:=b.drew) (q:=w.heap.size+1+1+1) (f1:=FK l.r k.r) (f2:=I6 l.w k.w) i.size d.o V E hbp.size T hbq X _ _,?_⟩;have G:Ov w b.drew:=below_drewN i 1;have F:=G.trans (hbp.mono G.size);have Z:=F.trans (hbq.mono F.size);exact (Z.setCell (by simp;omega) _).setCell (by simp;omega) _
 ·have ay:(r != 0)=true:=by simpa using hr0
  go_wp2_with fail;refine bodyPost_ret (v:=zm #[zh #[O none 0 0,O none 0 0],zd U r]) (by simp [results,Tryz.results46,go_sem,e0,e1]) rfl ⟨_,rfl,Hh _ _,(i.setCell (by simp;omega) _).setCell (by simp;omega) _⟩
attribute [local go_sem ↓] Go.wp_at_zero Go.wp_at_succ
theorem JU (gn:List (Nat × Nat)) (n who:Nat) (ps:List Pol):ps.all (I3 (acts gn n who))=FW gn n who ps:=rfl
theorem QY {wB W W':World} {b0 o0 b1 o1 b2 o2:Nat} {v0 v1 v2:Value} (h:W.cell? ⟨b0,o0,none⟩=some v0/\W.cell? ⟨b1,o1,none⟩=some v1/\W.cell? ⟨b2,o2,none⟩=some v2/\Ov wB W) (hb:Ov W W'):W'.cell? ⟨b0,o0,none⟩=some v0/\W'.cell? ⟨b1,o1,none⟩=some v1/\W'.cell? ⟨b2,o2,none⟩=some v2/\Ov wB W':=LB h hb
theorem RZ (args:Array Value) (w:World):(callFunc 71 args).run Tryz.prog w=.ok (.enter 71 args) w:=by simp [go_sem]
theorem Lt (ab lb ob n who:Nat) (hn:n<=6) (hw:who < n) (gn:List (Nat × Nat)) (pv:Value) (ps:List Pol) (w:World) (h0:w.cell? ⟨ab,0,none⟩=some (O (some ⟨ob,0,none⟩) n n)) (h1:w.cell? ⟨lb,0,none⟩=some pv) (hr:C4 w ob n gn n) (hp:Au w pv ps) (hps:ps.length<=4/\∀ p∈ps,Ft n p) :
  Calls Tryz.prog 71 #[zd U who,zj (some ⟨ab,0,none⟩),zj (some ⟨lb,0,none⟩)] w fun e w'=>e=zk (zg (FW gn n who ps))/\Ov w w':=by
 obtain ⟨f,g,u,hk⟩:=hr who hw;have b:Ad w f n (acts gn n who):=⟨BW _ _ _,fun i t=>(hk i t).1⟩;have c:=fun (W:World) (d:Ov w W)=>Fx f n (acts gn n who) pv ps W hn (E7 b d) (Ah hp d) hps;simp only [JU] at c;obtain ⟨s,l,q,rfl⟩:=AR hp;obtain ⟨r,hr⟩:=nm (FW gn n who ps);rw [<-hr] at c ⊢;have y:=Aa c;have A:(0:Int)<=(who:Int):=by omega
 have z:(who:Int) < (n:Int):=by omega
 clear c hr hp b hk g;go_enter Tryz.func71,Tryz.ntmps71;go_wp2_with fail;first | go_region_held3 (fun W=>W.cell? ⟨ab,0,none⟩=some (O (some ⟨ob,0,none⟩) n n)/\W.cell? ⟨ob,who,none⟩=some (O (some ⟨f,0,none⟩) n n)/\W.cell? ⟨lb,0,none⟩=some (O s l q)/\Ov w W) (first | assumption | exact ⟨h0,u,h1,below_drewN (Below.refl _ _) 1⟩ | exact QY (by assumption) hbp | fail) (first | (go_at_call 72;refine (y.o _ (by assumption:_/\_/\_/\_).2.2.2).mono ?_;rintro e k ⟨rfl,hbp⟩)) | fail
 all_goals obtain ⟨-,-,-,d⟩:=(by assumption:k.cell? _=_/\_/\_/\_)
 all_goals go_wp2_with fail
 all_goals go_ret
 all_goals exact ⟨rfl,d⟩
theorem Pq (args:Array Value) (w:World):(callFunc 73 args).run Tryz.prog w=.ok (.enter 73 args) w:=by simp [go_sem]
theorem Lr (ab lb ob n who:Nat) (hn:n<=6) (hw:who < n) (gn:List (Nat × Nat)) (pv:Value) (ps:List Pol) (w:World) (h0:w.cell? ⟨ab,0,none⟩=some (O (some ⟨ob,0,none⟩) n n)) (h1:w.cell? ⟨lb,1,none⟩=some pv) (hr:C4 w ob n gn n) (hp:Au w pv ps) (hps:ps.length<=4/\∀ p∈ps,Ft n p) :
  Calls Tryz.prog 73 #[zd U who,zj (some ⟨ab,0,none⟩),zj (some ⟨lb,0,none⟩)] w fun e w'=>e=zk (zg (FW gn n who ps))/\Ov w w':=by
 obtain ⟨f,g,u,hk⟩:=hr who hw;have b:Ad w f n (acts gn n who):=⟨BW _ _ _,fun i t=>(hk i t).1⟩;have c:=fun (W:World) (d:Ov w W)=>Fx f n (acts gn n who) pv ps W hn (E7 b d) (Ah hp d) hps;simp only [JU] at c;obtain ⟨s,l,q,rfl⟩:=AR hp;obtain ⟨r,hr⟩:=nm (FW gn n who ps);rw [<-hr] at c ⊢;have y:=Aa c;have A:(0:Int)<=(who:Int):=by omega
 have z:(who:Int) < (n:Int):=by omega
 clear c hr hp b hk g;go_enter Tryz.func73,Tryz.ntmps73;go_wp2_with fail;first | go_region_held3 (fun W=>W.cell? ⟨ab,0,none⟩=some (O (some ⟨ob,0,none⟩) n n)/\W.cell? ⟨ob,who,none⟩=some (O (some ⟨f,0,none⟩) n n)/\W.cell? ⟨lb,1,none⟩=some (O s l q)/\Ov w W) (first | assumption | exact ⟨h0,u,h1,below_drewN (Below.refl _ _) 1⟩ | exact QY (by assumption) hbp | fail) (first | (go_at_call 72;refine (y.o _ (by assumption:_/\_/\_/\_).2.2.2).mono ?_;rintro e k ⟨rfl,hbp⟩)) | fail
 all_goals obtain ⟨-,-,-,d⟩:=(by assumption:k.cell? _=_/\_/\_/\_)
 all_goals go_wp2_with fail
 all_goals go_ret
 all_goals exact ⟨rfl,d⟩
theorem I8 (n:Nat) (h1:1<=n) (hn:n<=6) (ab lb ob:Nat) (gn:List (Nat × Nat)) (v pr pw:Value) (bl:Lab) (w3:World) (h0:w3.cell? ⟨ab,0,none⟩=some (O (some ⟨ob,0,none⟩) n n)) (l0:w3.cell? ⟨lb,0,none⟩=some pr) (l1:w3.cell? ⟨lb,1,none⟩=some pw) (hr:C4 w3 ob n gn n) (hp:Au w3 pr bl.r) (hq:Au w3 pw bl.w) (hin:O0 n bl) (W:World) (hB:Ov w3 W) :
  (Calls Tryz.prog 70 #[zh #[zd U n,v],.func (.func 71) #[] #[zj (some ⟨ab,0,none⟩),zj (some ⟨lb,0,none⟩)]] W fun e w'=>∃ g,e=zk (O (some ⟨g,0,none⟩) n n)/\W.heap.size<=g/\g < w'.heap.size/\w'.ownsRow W.heap.size 4 1 (O (some ⟨g,0,none⟩) n n) n (Bb (Cj (fun i=>FW gn n i bl.r) n))/\Ov W w') /\
  (Calls Tryz.prog 70 #[zh #[zd U n,v],.func (.func 73) #[] #[zj (some ⟨ab,0,none⟩),zj (some ⟨lb,0,none⟩)]] W fun e w'=>∃ g,e=zk (O (some ⟨g,0,none⟩) n n)/\W.heap.size<=g/\g < w'.heap.size/\w'.ownsRow W.heap.size 4 1 (O (some ⟨g,0,none⟩) n n) n (Bb (Cj (fun i=>FW gn n i bl.w) n))/\Ov W w'):=by
 have up:∀ (W':World),Ov W W'->∀ b o v,w3.cell? ⟨b,o,none⟩=some v->W'.cell? ⟨b,o,none⟩=some v:=fun W' d b o v h=>by rw [(Am d).1 _ _ (Nat.lt_of_lt_of_le (bL h) hB.size),(Am hB).1 _ _ (bL h)];exact h
 refine ⟨EE 71 _ _ (fun i=>FW gn n i bl.r) n h1 hn v W (Aa fun i f W' d=>?_) RZ,EE 73 _ _ (fun i=>FW gn n i bl.w) n h1 hn v W (Aa fun i f W' d=>?_) Pq⟩
 ·have c:Ov w3 W':=hB.trans (d.mono hB.size)
  exact Lt ab lb ob n i hn f gn pr bl.r W' (up W' d _ _ _ h0) (up W' d _ _ _ l0) (EI hr c) (Ah hp c) hin.1
 ·have c:Ov w3 W':=hB.trans (d.mono hB.size)
  exact Lr ab lb ob n i hn f gn pw bl.w W' (up W' d _ _ _ h0) (up W' d _ _ _ l1) (EI hr c) (Ah hq c) hin.2
theorem Sk {wB W:World} {b o0 o1 q:Nat} {v0 v1 u:Value} (h:W.cell? ⟨b,o0,none⟩=some v0/\W.cell? ⟨b,o1,none⟩=some v1/\(W.cell? ⟨q,0,none⟩=some u->Ov wB W)) (hq:W.cell? ⟨q,0,none⟩=some u):Ov wB W:=h.2.2 hq
theorem QX {wB W W':World} {b o0 o1 q:Nat} {v0 v1 u:Value} (h:W.cell? ⟨b,o0,none⟩=some v0/\W.cell? ⟨b,o1,none⟩=some v1/\(W.cell? ⟨q,0,none⟩=some u->Ov wB W)) (hq:W.cell? ⟨q,0,none⟩=some u) (hb:Ov W W'):W'.cell? ⟨b,o0,none⟩=some v0/\W'.cell? ⟨b,o1,none⟩=some v1/\(W'.cell? ⟨q,0,none⟩=some u->Ov wB W'):=by
 obtain ⟨g,f,i⟩:=h;have d:=i hq;obtain ⟨c,k⟩:=Am hb;exact ⟨by rw [c _ _ (bL g)];exact g,by rw [c _ _ (bL f)];exact f,fun _=>d.trans (hb.mono d.size)⟩
theorem S9 {wB W:World} {b o0 o1 q g n:Nat} {v0 v1 u y:Value} (h:W.cell? ⟨b,o0,none⟩=some v0/\W.cell? ⟨b,o1,none⟩=some v1/\(W.cell? ⟨q,0,none⟩=some (O none 0 0)->Ov wB W)) (hb:b≠q) (hq:W.cell? ⟨q,0,none⟩=some u) :
  ((W.setCell ⟨q,0,none⟩ (O (some ⟨g,0,none⟩) n n)).setCell ⟨q,1,none⟩ y).cell? ⟨b,o0,none⟩=some v0/\((W.setCell ⟨q,0,none⟩ (O (some ⟨g,0,none⟩) n n)).setCell ⟨q,1,none⟩ y).cell? ⟨b,o1,none⟩=some v1/\(((W.setCell ⟨q,0,none⟩ (O (some ⟨g,0,none⟩) n n)).setCell ⟨q,1,none⟩ y).cell? ⟨q,0,none⟩=some (O none 0 0)->Ov wB ((W.setCell ⟨q,0,none⟩ (O (some ⟨g,0,none⟩) n n)).setCell ⟨q,1,none⟩ y)):=by
 obtain ⟨f,d,i⟩:=h;have c:∀ o,((W.setCell ⟨q,0,none⟩ (O (some ⟨g,0,none⟩) n n)).setCell ⟨q,1,none⟩ y).cell? ⟨b,o,none⟩=W.cell? ⟨b,o,none⟩:=fun o=>by
  rw [World.cell?_setCell_other _ _ _ _ (by intro e;injection e with e;exact hb e.symm),World.cell?_setCell_other _ _ _ _ (by intro e;injection e with e;exact hb e.symm)]
 refine ⟨by rw [c];exact f,by rw [c];exact d,fun e=>?_⟩;rw [World.cell?_setCell_other _ _ _ _ (by simp),World.cell?_setCell_same _ _ _ hq] at e;cases e
theorem Mu {m:Int} {gs:List (Int × Int)} {bl:Lab} (h:Bs m gs bl=0):∃ n:Nat,m=n/\1<=n/\n<=6/\(AE gs).map toI=gs/\(AE gs).length<=20/\(∀ g∈AE gs,g.1 < n/\g.2 < n)/\O0 n bl/\AN m gs=0:=by
 unfold Bs at h;split at h
 ·rename_i b
  obtain ⟨n,c,l,k,i,f,d⟩:=Fh b;subst c;exact ⟨n,rfl,l,k,i,f,d,It h,b⟩
 ·rename_i b
  exact absurd h b
theorem P3:QE:=by
 intro m v gs pr pw bl w hv hp hq;have HV:=Aa hv;have HP:=Aa hp;have HQ:=Aa hq;obtain ⟨va,vn,vc,rfl⟩:=CN hv;obtain ⟨pa,pn,pc,rfl⟩:=AR hp;obtain ⟨qa,Z,qc,rfl⟩:=AR hq;have l:Ov w (((w.alloc (ze #[zd U m,O va vn vc] 24)).alloc (ze #[O pa pn pc,O qa Z qc] 39)).alloc (ze #[O none 0 0,O none 0 0] 50)):=((bA w _).alloc (by simp) _).alloc (by simp;omega) _;have d:=MI m (O va vn vc) gs (O pa pn pc) (O qa Z qc) bl _ (Aj HV.o l) (Ah HP.o l) (Ah HQ.o l);have E:=fun h=>Mu (m:=m) (gs:=gs) (bl:=bl) h;obtain ⟨r,hr⟩:=nm (Bs m gs bl);rw [<-hr] at d E ⊢;have HC:=Aa d;have T:=Aa E;clear hv hp hq d E hr;go_enter Tryz.func23,Tryz.ntmps23;go_wp2_with fail;refine (HC.o).mono ?_;rintro e g ⟨rfl,y⟩;have s:=l.trans (y.mono (by simp <;> omega))
 have ag:=y.size;simp at ag;obtain ⟨G,hf⟩:=Am y;have a0:g.cell? ⟨w.heap.size,0,none⟩=some (zd U m):=by rw [G _ _ (by simp <;> omega)];simp [go_sem]
 have a1:g.cell? ⟨w.heap.size,1,none⟩=some (O va vn vc):=by rw [G _ _ (by simp <;> omega)];simp [go_sem]
 have c0:g.cell? ⟨w.heap.size+1,0,none⟩=some (O pa pn pc):=by rw [G _ _ (by simp <;> omega)];simp [go_sem]
 have c1:g.cell? ⟨w.heap.size+1,1,none⟩=some (O qa Z qc):=by rw [G _ _ (by simp <;> omega)];simp [go_sem]
 have R:g.cell? ⟨w.heap.size+1+1,0,none⟩=some (O none 0 0):=by rw [G _ _ (by simp <;> omega)];simp [go_sem]
 have e1:g.cell? ⟨w.heap.size+1+1,1,none⟩=some (O none 0 0):=by rw [G _ _ (by simp <;> omega)];simp [go_sem]
 have f0:g.frozen? ⟨w.heap.size+1+1,0,none⟩=false:=by rw [hf _ _ (by simp <;> omega)];simp [go_sem]
 have f1:g.frozen? ⟨w.heap.size+1+1,1,none⟩=false:=by rw [hf _ _ (by simp <;> omega)];simp [go_sem]
 clear G hf y l HC;by_cases hr0:r=0
 ·subst hr0
  obtain ⟨n,hm,h1,h6,F,A,K,J,P⟩:=T.o (by first | rfl | trivial);subst hm;have B:=O9 n h1 h6 (O va vn vc) (AE gs) g (by rw [F];exact Aj HV.o s) A K (by rw [F];exact P);have C:=Aa B;have V:=Aa J;clear B J F A K P T HV;go_wp2_with fail;refine (C.o).mono ?_;rintro e I ⟨ob,rfl,k,H⟩;obtain ⟨f,u⟩:=nm (I.alloc (ze #[O (some ⟨ob,0,none⟩) n n] 137));have p:Ov I f:=by rw [u];exact bA I _
  have c:Ov g f:=H.trans (p.mono H.size);have z:=s.trans (c.mono s.size);have be:=c.size;have up:∀ b o v,g.cell? ⟨b,o,none⟩=some v->f.cell? ⟨b,o,none⟩=some v:=fun b o v h=>by rw [(Am c).1 _ _ (bL h)];exact h
  have Q:f.cell? ⟨I.heap.size,0,none⟩=some (O (some ⟨ob,0,none⟩) n n):=by rw [u];simp [go_sem]
  have KT:=Aa fun (W:World) (hB:Ov f W)=>I8 n h1 h6 I.heap.size (w.heap.size+1) ob (AE gs) (O va vn vc) _ _ bl f Q (up _ _ _ c0) (up _ _ _ c1) (EI k p) (Ah HP.o z) (Ah HQ.o z) V.o W hB;have b0:=up _ _ _ a0;have b1:=up _ _ _ a1;have E0:=Aa (up _ _ _ R);have E1:=Aa (up _ _ _ e1);have F0:Hx (f.frozen? ⟨w.heap.size+1+1,0,none⟩=false):=by rw [(Am c).2 _ _ (bL R)];exact f0
  have F1:Hx (f.frozen? ⟨w.heap.size+1+1,1,none⟩=false):=by rw [(Am c).2 _ _ (bL R)];exact f1
  have t:Hx (w.heap.size+1+1 < f.heap.size):=by show _ < _;omega
  have ax:Hx (w.heap.size≠w.heap.size+1+1):=by show _≠_;omega
  have S:=Aa u;have ED:Hx (f.drew.cell? ⟨w.heap.size+1+1,0,none⟩=some (O none 0 0)):=E0.o;clear a0 a1 c0 c1 R e1 f0 f1 Q up k H p c u HP HQ V C s;go_wp2_with fail;rw [<-S.o];clear S;first | go_region_held3 (fun W=>W.cell? ⟨w.heap.size,0,none⟩=some (zd U n)/\W.cell? ⟨w.heap.size,1,none⟩=some (O va vn vc)/\(W.cell? ⟨w.heap.size+1+1,0,none⟩=some (O none 0 0)->Ov f W)) (first | assumption | exact ⟨b0,b1,fun _=>below_drewN (Below.refl _ _) 1⟩ | exact QX (by assumption) ep0 hbq | exact QX (by assumption) ED.o hbp | exact S9 (by assumption) ax.o eq0 | fail) (first | (go_at_call 70;have ay:=ep0;refine (KT.o _ (Sk (by assumption) ep0)).2.mono ?_;rintro e X ⟨g2,rfl,am,a2,ak,hbq⟩;have eq0:X.cell? ⟨w.heap.size+1+1,0,none⟩=some (O none 0 0):=(by rw [(Am hbq).1 _ _ (bL ep0)];exact ep0);have aq:X.cell? ⟨w.heap.size+1+1,1,none⟩=some (O none 0 0):=(by rw [(Am hbq).1 _ _ (bL ep0)];exact ep1);have bo:X.frozen? ⟨w.heap.size+1+1,0,none⟩=false:=(by rw [(Am hbq).2 _ _ (bL ep0)];exact fp0);have bm:X.frozen? ⟨w.heap.size+1+1,1,none⟩=false:=(by rw [(Am hbq).2 _ _ (bL ep0)];exact fp1)) | (go_at_call 70;refine (KT.o _ (Sk (by assumption) ED.o)).1.mono ?_;rintro e Y ⟨g1,rfl,bh,L,al,hbp⟩;have ep0:Y.cell? ⟨w.heap.size+1+1,0,none⟩=some (O none 0 0):=(by rw [(Am hbp).1 _ _ t.o];exact E0.o);have ep1:Y.cell? ⟨w.heap.size+1+1,1,none⟩=some (O none 0 0):=(by rw [(Am hbp).1 _ _ t.o];exact E1.o);have fp0:Y.frozen? ⟨w.heap.size+1+1,0,none⟩=false:=(by rw [(Am hbp).2 _ _ t.o];exact F0.o);have fp1:Y.frozen? ⟨w.heap.size+1+1,1,none⟩=false:=(by rw [(Am hbp).2 _ _ t.o];exact F1.o))) | fail
  all_goals go_wp2_with fail
  all_goals
   refine bodyPost_ret (v:=zm #[zh #[O (some ⟨g1,0,none⟩) n n,O (some ⟨g2,0,none⟩) n n],zd U 0]) (by simp [results,Tryz.results23,go_sem,eq0,aq]) rfl ⟨_,rfl,Hg (w:=w) (wa:=f.drew) (q:=w.heap.size+1+1) (f1:=fun i=>FW (AE gs) n i bl.r) (f2:=fun i=>FW (AE gs) n i bl.w) z.size t.o al L hbp.size ak hbq am _ _,?_⟩;have N:Ov w f.drew:=below_drewN z 1;have M:=N.trans (hbp.mono N.size);have ao:=M.trans (hbq.mono M.size);exact (ao.setCell (by simp;omega) _).setCell (by simp;omega) _
 ·have bf:(r != 0)=true:=by simpa using hr0
  go_wp2_with fail;exact bodyPost_ret (v:=zm #[zh #[O none 0 0,O none 0 0],zd U r]) (by simp [results,Tryz.results23,go_sem,R,e1]) rfl ⟨_,rfl,Hh _ _,(s.setCell (by simp;omega) _).setCell (by simp;omega) _⟩
end Go.Proofs.YtfffpjkcfnekaaaGreat
namespace Go.Proofs.YtfffpjkcfnekaaaGreat.Ex
open Go.RowKit
open Go.Value renaming slice -> O, int -> zd, bool -> zg, agg -> zh, pointer -> zj, tuple -> zm
open Go.IntKind renaming i64 -> U
open Go.Obj renaming cells -> ze
open Go.Ending renaming returned -> zk
theorem Cg {w:World} {B B' e s:Nat} {v:Value} {n:Nat} {xs:List Value} (h:w.ownsRow B e s v n xs) (hb:B'<=B):w.ownsRow B' e s v n xs:=by
 obtain ⟨d,h | ⟨g,c,b,k,i,f⟩⟩:=h
 ·exact ⟨d,Or.inl h⟩
 ·exact ⟨d,Or.inr ⟨g,c,b,k,Nat.le_trans hb i,f⟩⟩
theorem AG {w:World} {B e s:Nat} {v:Value} {n:Nat} {xs:List Value} (h:w.ownsRow B e s v n xs):∃ a n c,v=O a n c:=by
 obtain ⟨l,⟨h,_⟩ | ⟨g,f,d,b,k,i⟩⟩:=h
 ·exact ⟨_,_,_,h⟩
 ·exact ⟨_,_,_,b⟩
theorem Pb (m:Int) (ga gn gc) (sa sn sc ya yn yc oa on oc va vn vc fa fn fc ba bn bc la ln lc ka kn kc gs) (lr lw kr kw:Value) (l k) (w:World) (hg:AB w (O ga gn gc) gs) (hl:Bn w (zh #[lr,lw]) l) (hk:Bn w (zh #[kr,kw]) k) (h2:Ff m gs l k=0) :
  Calls Tryz.prog 57 #[zh #[zd U m,O ga gn gc,O sa sn sc,O ya yn yc,O oa on oc,O va vn vc,O fa fn fc,O ba bn bc,O la ln lc,O ka kn kc],zh #[lr,lw],zh #[kr,kw]] w fun e w'=>e=zk (zg (Aw l k m.toNat))/\Ov w w':=by
 have b:Ov w (((w.alloc (ze #[zd U m,O ga gn gc,O sa sn sc,O ya yn yc,O oa on oc,O va vn vc,O fa fn fc,O ba bn bc,O la ln lc,O ka kn kc] 108)).alloc (ze #[lr,lw] 50)).alloc (ze #[kr,kw] 50)):=((bA w _).alloc (by simp) _).alloc (by simp;omega) _;have K:=Aa (Qm m (O ga gn gc) gs (zh #[lr,lw]) (zh #[kr,kw]) l k _ (Aj hg b) (AW hl b) (AW hk b));rw [h2] at K;obtain ⟨E,n1,p,rfl⟩:∃ a n c,lr=O a n c:=by obtain ⟨x,y,e,⟨a,c,d,-⟩,-⟩:=hl;simp at e;obtain ⟨rfl,rfl⟩:=e;exact ⟨_,_,_,d⟩
 obtain ⟨C,t,i,rfl⟩:∃ a n c,lw=O a n c:=by obtain ⟨x,y,e,-,⟨a,c,d,-⟩⟩:=hl;simp at e;obtain ⟨rfl,rfl⟩:=e;exact ⟨_,_,_,d⟩
 obtain ⟨B,s,g,rfl⟩:∃ a n c,kr=O a n c:=by obtain ⟨x,y,e,⟨a,c,d,-⟩,-⟩:=hk;simp at e;obtain ⟨rfl,rfl⟩:=e;exact ⟨_,_,_,d⟩
 obtain ⟨A,q,f,rfl⟩:∃ a n c,kw=O a n c:=by obtain ⟨x,y,e,-,⟨a,c,d,-⟩⟩:=hk;simp at e;obtain ⟨rfl,rfl⟩:=e;exact ⟨_,_,_,d⟩
 obtain ⟨c0,c1⟩:=rc2 (Sb w [zd U m,O ga gn gc,O sa sn sc,O ya yn yc,O oa on oc,O va vn vc,O fa fn fc,O ba bn bc,O la ln lc,O ka kn kc] 108 (ze #[O E n1 p,O C t i] 50) (ze #[O B s g,O A q f] 50));obtain ⟨I,H⟩:=rc2 (Sa w (ze #[zd U m,O ga gn gc,O sa sn sc,O ya yn yc,O oa on oc,O va vn vc,O fa fn fc,O ba bn bc,O la ln lc,O ka kn kc] 108) [O E n1 p,O C t i] 50 (ze #[O B s g,O A q f] 50));obtain ⟨G,F⟩:=rc2 (SX w (ze #[zd U m,O ga gn gc,O sa sn sc,O ya yn yc,O oa on oc,O va vn vc,O fa fn fc,O ba bn bc,O la ln lc,O ka kn kc] 108) (ze #[O E n1 p,O C t i] 50) [O B s g,O A q f] 50);clear hg hl hk h2;go_enter Tryz.func57,Tryz.ntmps57;go_wp2_with fail;refine (K.o).mono ?_;rintro e J ⟨rfl,u⟩;have z:=b.trans (u.mono (by simp <;> omega))
 clear K c0 c1 I H G F;go_wp2_with fail;exact bodyPost_ret (v:=zg (Aw l k m.toNat)) (by simp [results,Tryz.results57,go_sem]) rfl ⟨rfl,z⟩
theorem Mv (m:Int) (ga gn gc) (sa sn sc ya yn yc oa on oc va vn vc fa fn fc ba bn bc la ln lc ka kn kc gs) (lr lw kr kw:Value) (l k) (w:World) (hg:AB w (O ga gn gc) gs) (hl:Bn w (zh #[lr,lw]) l) (hk:Bn w (zh #[kr,kw]) k) (h2:Ff m gs l k=0) :
  Calls Tryz.prog 58 #[zh #[zd U m,O ga gn gc,O sa sn sc,O ya yn yc,O oa on oc,O va vn vc,O fa fn fc,O ba bn bc,O la ln lc,O ka kn kc],zh #[lr,lw],zh #[kr,kw]] w fun e w'=>∃ vj,e=zk vj/\Bh w w' vj (BH l k m.toNat)/\Ov w w':=by
 have b:Ov w ((((w.alloc (ze #[zd U m,O ga gn gc,O sa sn sc,O ya yn yc,O oa on oc,O va vn vc,O fa fn fc,O ba bn bc,O la ln lc,O ka kn kc] 108)).alloc (ze #[lr,lw] 50)).alloc (ze #[kr,kw] 50)).alloc (ze #[O none 0 0,O none 0 0] 50)):=(((bA w _).alloc (by simp) _).alloc (by simp;omega) _).alloc (by simp;omega) _;have K:=Aa (RG m (O ga gn gc) gs (zh #[lr,lw]) (zh #[kr,kw]) l k _ (Aj hg b) (AW hl b) (AW hk b));rw [h2] at K;obtain ⟨X,n1,E,rfl⟩:∃ a n c,lr=O a n c:=by obtain ⟨x,y,e,⟨a,c,z,-⟩,-⟩:=hl;simp at e;obtain ⟨rfl,rfl⟩:=e;exact ⟨_,_,_,z⟩
 obtain ⟨W,R,C,rfl⟩:∃ a n c,lw=O a n c:=by obtain ⟨x,y,e,-,⟨a,c,z,-⟩⟩:=hl;simp at e;obtain ⟨rfl,rfl⟩:=e;exact ⟨_,_,_,z⟩
 obtain ⟨V,Q,B,rfl⟩:∃ a n c,kr=O a n c:=by obtain ⟨x,y,e,⟨a,c,z,-⟩,-⟩:=hk;simp at e;obtain ⟨rfl,rfl⟩:=e;exact ⟨_,_,_,z⟩
 obtain ⟨T,P,A,rfl⟩:∃ a n c,kw=O a n c:=by obtain ⟨x,y,e,-,⟨a,c,z,-⟩⟩:=hk;simp at e;obtain ⟨rfl,rfl⟩:=e;exact ⟨_,_,_,z⟩
 obtain ⟨c0,c1⟩:=rc2 (Sb w [zd U m,O ga gn gc,O sa sn sc,O ya yn yc,O oa on oc,O va vn vc,O fa fn fc,O ba bn bc,O la ln lc,O ka kn kc] 108 (ze #[O X n1 E,O W R C] 50) (ze #[O V Q B,O T P A] 50));obtain ⟨d0,d1⟩:=rc2 (Sa w (ze #[zd U m,O ga gn gc,O sa sn sc,O ya yn yc,O oa on oc,O va vn vc,O fa fn fc,O ba bn bc,O la ln lc,O ka kn kc] 108) [O X n1 E,O W R C] 50 (ze #[O V Q B,O T P A] 50));obtain ⟨e0,e1⟩:=rc2 (SX w (ze #[zd U m,O ga gn gc,O sa sn sc,O ya yn yc,O oa on oc,O va vn vc,O fa fn fc,O ba bn bc,O la ln lc,O ka kn kc] 108) (ze #[O X n1 E,O W R C] 50) [O V Q B,O T P A] 50);clear hg hl hk h2;go_enter Tryz.func58,Tryz.ntmps58;go_wp2_with fail;refine (K.o).mono ?_;rintro e i ⟨vj,rfl,hf,g⟩;rw [if_pos trivial] at hf;have u:=b.trans (g.mono (by simp <;> omega))
 obtain ⟨vr,vw,rfl,Z,hw,N⟩:=hf;have q:=Cg (B':=w.heap.size+1+1+1+1) Z (by simp);have p:=Cg (B':=w.heap.size+1+1+1+1) hw (by simp);obtain ⟨L,I,G,rfl⟩:=AG q;obtain ⟨J,H,F,rfl⟩:=AG p;have f:Ov i (i.alloc (ze #[O L I G,O J H F] 50)):=bA i _;have M:w.heap.size+1+1+1 < i.heap.size:=by have:=g.size;simp at this;omega
 obtain ⟨S,s⟩:=Am g;obtain ⟨t,d⟩:=Am f;have x0:(i.alloc (ze #[O L I G,O J H F] 50)).cell? ⟨w.heap.size+1+1+1,0,none⟩=some (O none 0 0):=by rw [t _ _ (by first | omega | (simp <;> omega)),S _ _ (by first | omega | (simp <;> omega))];simp [go_sem]
 have x1:(i.alloc (ze #[O L I G,O J H F] 50)).cell? ⟨w.heap.size+1+1+1,1,none⟩=some (O none 0 0):=by rw [t _ _ (by first | omega | (simp <;> omega)),S _ _ (by first | omega | (simp <;> omega))];simp [go_sem]
 have f0:(i.alloc (ze #[O L I G,O J H F] 50)).frozen? ⟨w.heap.size+1+1+1,0,none⟩=false:=by rw [d _ _ (by first | omega | (simp <;> omega)),s _ _ (by first | omega | (simp <;> omega))];simp [go_sem]
 have f1:(i.alloc (ze #[O L I G,O J H F] 50)).frozen? ⟨w.heap.size+1+1+1,1,none⟩=false:=by rw [d _ _ (by first | omega | (simp <;> omega)),s _ _ (by first | omega | (simp <;> omega))];simp [go_sem]
 have HR:=Aa (Dj q f);have HW:=Aa (Dj p f);have HB:=Aa (u.trans (f.mono u.size));have Y:=Aa N;have ah:=Aa M;clear K c0 c1 d0 d1 e0 e1 Z hw q p N S s t d g u b M f;go_wp2_with fail;exact bodyPost_ret (v:=zh #[O L I G,O J H F]) (by simp [results,Tryz.results58,go_sem,x0,x1]) rfl ⟨_,rfl,⟨_,_,rfl,Cg (Bp (Bp HR.o (by simp) _) (by simp) _) (by omega),Cg (Bp (Bp HW.o (by simp) _) (by simp) _) (by omega),Y.o⟩,(HB.o.setCell (by simp;omega) _).setCell (by simp;omega) _⟩
theorem Lq (m:Int) (ga gn gc) (sa sn sc ya yn yc oa on oc va vn vc fa fn fc ba bn bc la ln lc ka kn kc gs) (pr pw:Value) (bl:Lab) (w:World) (hg:AB w (O ga gn gc) gs) (hl:Au w pr bl.r) (hk:Au w pw bl.w) (h2:Bs m gs bl=0) :
  Calls Tryz.prog 114 #[zh #[zd U m,O ga gn gc,O sa sn sc,O ya yn yc,O oa on oc,O va vn vc,O fa fn fc,O ba bn bc,O la ln lc,O ka kn kc],zh #[pr,pw]] w fun e w'=>∃ vj,e=zk vj/\Bh w w' vj (AH (AE gs) m.toNat bl)/\Ov w w':=by
 obtain ⟨H,n1,z1,rfl⟩:=AR hl;obtain ⟨G,F,E,rfl⟩:=AR hk;have b:Ov w (((w.alloc (ze #[zd U m,O ga gn gc,O sa sn sc,O ya yn yc,O oa on oc,O va vn vc,O fa fn fc,O ba bn bc,O la ln lc,O ka kn kc] 108)).alloc (ze #[O H n1 z1,O G F E] 39)).alloc (ze #[O none 0 0,O none 0 0] 50)):=((bA w _).alloc (by simp) _).alloc (by simp;omega) _;have K:=Aa (P3 m (O ga gn gc) gs (O H n1 z1) (O G F E) bl _ (Aj hg b) (Ah hl b) (Ah hk b));rw [h2] at K;obtain ⟨c0,c1⟩:=rc2 (Sb w [zd U m,O ga gn gc,O sa sn sc,O ya yn yc,O oa on oc,O va vn vc,O fa fn fc,O ba bn bc,O la ln lc,O ka kn kc] 108 (ze #[O H n1 z1,O G F E] 39) (ze #[O none 0 0,O none 0 0] 50));obtain ⟨P,N⟩:=rc2 (Sa w (ze #[zd U m,O ga gn gc,O sa sn sc,O ya yn yc,O oa on oc,O va vn vc,O fa fn fc,O ba bn bc,O la ln lc,O ka kn kc] 108) [O H n1 z1,O G F E] 39 (ze #[O none 0 0,O none 0 0] 50));clear hg hl hk h2;go_enter Tryz.func114,Tryz.ntmps114;go_wp2_with fail;refine (K.o).mono ?_;rintro e g ⟨vj,rfl,M,f⟩;rw [if_pos trivial] at M;have q:=b.trans (f.mono (by simp <;> omega))
 obtain ⟨W,V,rfl,L,hw,C⟩:=M;have k:=Cg (B':=w.heap.size+1+1+1) L (by simp);have i:=Cg (B':=w.heap.size+1+1+1) hw (by simp);obtain ⟨A,y,t,rfl⟩:=AG k;obtain ⟨z,u,s,rfl⟩:=AG i;have d:Ov g (g.alloc (ze #[O A y t,O z u s] 50)):=bA g _;have B:w.heap.size+1+1 < g.heap.size:=by have:=f.size;simp at this;omega
 obtain ⟨I,l⟩:=Am f;obtain ⟨p,c⟩:=Am d;have x0:(g.alloc (ze #[O A y t,O z u s] 50)).cell? ⟨w.heap.size+1+1,0,none⟩=some (O none 0 0):=by rw [p _ _ (by first | omega | (simp <;> omega)),I _ _ (by first | omega | (simp <;> omega))];simp [go_sem]
 have x1:(g.alloc (ze #[O A y t,O z u s] 50)).cell? ⟨w.heap.size+1+1,1,none⟩=some (O none 0 0):=by rw [p _ _ (by first | omega | (simp <;> omega)),I _ _ (by first | omega | (simp <;> omega))];simp [go_sem]
 have Y:(g.alloc (ze #[O A y t,O z u s] 50)).frozen? ⟨w.heap.size+1+1,0,none⟩=false:=by rw [c _ _ (by first | omega | (simp <;> omega)),l _ _ (by first | omega | (simp <;> omega))];simp [go_sem]
 have X:(g.alloc (ze #[O A y t,O z u s] 50)).frozen? ⟨w.heap.size+1+1,1,none⟩=false:=by rw [c _ _ (by first | omega | (simp <;> omega)),l _ _ (by first | omega | (simp <;> omega))];simp [go_sem]
 have R:=Aa (Dj k d);have Q:=Aa (Dj i d);have T:=Aa (q.trans (d.mono q.size));have J:=Aa C;have S:=Aa B;clear K c0 c1 P N L hw k i C I l p c f q b B d;go_wp2_with fail;exact bodyPost_ret (v:=zh #[O A y t,O z u s]) (by simp [results,Tryz.results114,go_sem,x0,x1]) rfl ⟨_,rfl,⟨_,_,rfl,Cg (Bp (Bp R.o (by simp) _) (by simp) _) (by omega),Cg (Bp (Bp Q.o (by simp) _) (by simp) _) (by omega),J.o⟩,(T.o.setCell (by simp;omega) _).setCell (by simp;omega) _⟩
end Go.Proofs.YtfffpjkcfnekaaaGreat.Ex
