/- The document's own least level above two, and greatest below: JoinLevels and MeetLevels. -/
import Derived.Test.YtfffpjkcfnekaaaGreatI02
import Derived.Maps.AppendAt
import Derived.Deep.CutRange
import Derived.Deep.QuietTactic
import Derived.BigQuiet
import Derived.Deep.RegionHeld2
set_option linter.unusedVariables false
set_option maxHeartbeats 8000000
set_option maxRecDepth 100000
namespace Go.Proofs.YtfffpjkcfnekaaaGreat
open Go.RowKit
open Go.Value renaming slice -> O, int -> zd, bool -> zg, agg -> zh, pointer -> zj, tuple -> zm
open Go.IntKind renaming i64 -> U
open Go.Obj renaming cells -> ze
open Go.Ending renaming returned -> zk
def Bb (l:List Bool):List Value:=l.map Value.bool
theorem C6 (W:World) (o:Obj):(W.alloc o).heap[W.heap.size]? = some o:=heap_alloc_new W o
theorem Dj {W W':World} {B:Nat} {v:Value} {k:Nat} {xs:List Value} (h:W.ownsRow B 4 1 v k xs) (hb:Ov W W'):W'.ownsRow B 4 1 v k xs:=by
 obtain ⟨p,b⟩:=h;refine ⟨p,?_⟩;rcases b with b | ⟨g,d,c,i,l,f,r⟩
 ·exact Or.inl b
 ·refine Or.inr ⟨g,d,c,i,l,?_,r⟩
  rw [hb.block g (Array.getElem?_eq_some_iff.1 f).1];exact f
theorem Lj {W:World} {B:Nat} {v:Value} {k:Nat} {xs:List Value} (h:W.ownsRow B 4 1 v k xs) (o:Obj):(W.alloc o).ownsRow B 4 1 v k xs:=
 Dj h (bA W o)
theorem Bp {W:World} {B:Nat} {v:Value} {k:Nat} {xs:List Value} (h:W.ownsRow B 4 1 v k xs) {p:Addr} (hp:p.block < B) (u:Value):(W.setCell p u).ownsRow B 4 1 v k xs:=
 ownsRow_setCell_below h hp u
theorem PW {W:World} {B:Nat} {v:Value} {k:Nat} {xs:List Value} (h:W.ownsRow B 4 1 v k xs) {g:Nat} (hg:v.ownBlock=some g):B<=g/\g < W.heap.size:=by
 rcases h.2 with ⟨rfl,_⟩ | ⟨i,f,d,rfl,b,c,_⟩
 ·cases hg
 ·simp [Value.ownBlock] at hg
  subst hg;exact ⟨b,(Array.getElem?_eq_some_iff.1 c).1⟩
def Q5 (u v:Value):Prop:=u.ownBlock=none\/u.ownBlock≠v.ownBlock
theorem Dx {W:World} {B:Nat} {v:Value} {l:List Bool} (h:W.ownsRow B 4 1 v l.length (Bb l)):A3 W v l:=by
 have s:=fun g=>h.cells (g:=g);rcases h.2 with ⟨rfl,k⟩ | ⟨g,d,t,rfl,_⟩
 ·exact ⟨none,0,by rw [k],fun c=>absurd (List.eq_nil_of_length_eq_zero k) c⟩
 ·refine ⟨_,d,rfl,fun _=>⟨g,0,rfl,fun i q=>?_⟩⟩
  have p:(Bb l)[i]? = some (zg l[i]):=by simp [Bb,q]
  have f:=s g rfl _ _ p;have b:(⟨g,0,none⟩:Addr).add i=⟨g,i,none⟩:=by unfold Addr.add;split <;> simp_all
  rw [b] at f;simpa using f
theorem Ik {W:World} {B B':Nat} {v:Value} {k:Nat} {xs:List Value} (h:W.ownsRow B 4 1 v k xs) (hb:B'<=B):W.ownsRow B' 4 1 v k xs:=by
 obtain ⟨p,b⟩:=h;refine ⟨p,?_⟩;rcases b with b | ⟨g,d,c,f,l,i,r⟩
 ·exact Or.inl b
 ·exact Or.inr ⟨g,d,c,f,Nat.le_trans hb l,i,r⟩
def FK (a b:List Bool) (i:Nat):Bool:=a[i]?.getD false && b[i]?.getD false
def I6 (a b:List Bool) (i:Nat):Bool:=a[i]?.getD false || b[i]?.getD false
def Cj (f:Nat->Bool) (n:Nat):List Bool:=(List.range n).map f
theorem K8 (f:Nat->Bool) (n:Nat):Cj f (n+1)=Cj f n++[f n]:=by simp [Cj,List.range_succ]
theorem A7 (f:Nat->Bool) (n:Nat):(Cj f n).length=n:=by simp [Cj]
def BH (l m:Lev) (n:Nat):Lev:=⟨Cj (FK l.r m.r) n,Cj (I6 l.w m.w) n⟩
structure Lab where
 r:List Pol
 w:List Pol
def O0 (n:Nat) (b:Lab):Prop:=(b.r.length<=4/\∀ p∈b.r,Ft n p)/\(b.w.length<=4/\∀ p∈b.w,Ft n p)
def AH (gn:List (Nat × Nat)) (n:Nat) (b:Lab):Lev:=⟨Cj (fun i=>FW gn n i b.r) n,Cj (fun i=>FW gn n i b.w) n⟩
def F2 (m:Int) (b:Lab):Int:=if Bd m b.r=0 then Bd m b.w else Bd m b.r
theorem Ke {m:Int} {ps:List Pol} (h:BR m ps=0):∀ p∈ps,C1 m p=0:=by
 induction ps with
 | nil=>simp
 | cons p ps ih=>
  rw [BR] at h;split at h
  ·rename_i b
   intro q hq;rcases List.mem_cons.1 hq with rfl | hq
   ·exact b
   ·exact ih h q hq
  ·rename_i b
   exact absurd h b
theorem MV {n:Nat} {p:Pol} (h:C1 n p=0):Ft n p:=by
 unfold C1 at h;split at h
 ·split at h
  ·split at h
   ·rename_i b f d
    simp [A9] at b;refine ⟨b,f,fun x c=>?_⟩;have:=List.all_eq_true.1 d x c;simp [A9] at this;exact this
   ·cases h
  ·cases h
 ·cases h
theorem GL {n:Nat} {ps:List Pol} (h:Bd n ps=0):ps.length<=4/\∀ p∈ps,Ft n p:=by
 unfold Bd at h;split at h
 ·rename_i c
  exact ⟨c,fun p b=>MV (Ke h p b)⟩
 ·cases h
theorem It {n:Nat} {b:Lab} (h:F2 n b=0):O0 n b:=by
 unfold F2 at h;split at h
 ·rename_i c
  exact ⟨GL c,GL h⟩
 ·rename_i c
  exact absurd h c
theorem Hp (m:Int) (hm:1<=m/\m<=6) (v pr pw:Value) (bl:Lab) (w:World) (hp:Au w pr bl.r) (hq:Au w pw bl.w) :
  Calls Tryz.prog 94 #[zh #[zd U m,v],zh #[pr,pw]] w fun e w'=>e=zk (zd U (F2 m bl))/\Ov w w':=by
 have c:Ov w ((w.alloc (ze #[zd U m,v] 24)).alloc (ze #[pr,pw] 39)):=(bA w _).alloc (by simp) _;have t:=DB m hm v pr bl.r _ (Ah hp c);have s:=fun (W:World) (hW:Ov w W)=>DB m hm v pw bl.w W (Ah hq hW);have p:F2 m bl=if Bd m bl.r=0 then Bd m bl.w else Bd m bl.r:=rfl;obtain ⟨y,g⟩:=nm (Bd m bl.r);obtain ⟨E,f⟩:=nm (Bd m bl.w);rw [<-g,<-f] at p;rw [<-g] at t;rw [<-f] at s;rw [p];have u:=Aa t;have z:=Aa s;clear t s g f p hp hq;by_cases h0:y=0
 ·subst h0
  go_enter Tryz.func94,Tryz.ntmps94;go_wp2_with fail;refine (u.o).mono ?_;rintro e k ⟨rfl,d⟩;obtain ⟨l,B⟩:=Am d;have c0:k.cell? ⟨w.heap.size,0,none⟩=some (zd U m):=by rw [l _ _ (by simp;omega)];simp [go_sem]
  have c1:k.cell? ⟨w.heap.size,1,none⟩=some v:=by rw [l _ _ (by simp;omega)];simp [go_sem]
  have C:k.cell? ⟨w.heap.size+1,1,none⟩=some pw:=by rw [l _ _ (by simp)];simp [go_sem]
  have b:Ov w k:=c.trans (d.mono (by simp;omega));clear l B d u;go_wp2_with fail;refine (z.o _ b).mono ?_;rintro e A ⟨rfl,q⟩;have i:Ov w A:=b.trans (q.mono b.size);clear z c0 c1 C;go_wp2_with fail;go_ret;exact ⟨rfl,i⟩
 ·have F:(y == 0)=false:=by simpa using h0
  rw [if_neg h0];clear h0;go_enter Tryz.func94,Tryz.ntmps94;go_wp2_with fail;refine (u.o).mono ?_;rintro e k ⟨rfl,d⟩;have b:Ov w k:=c.trans (d.mono (by simp;omega));go_wp2_with fail;go_ret;exact ⟨rfl,b⟩
def AL:Lev:=⟨[],[]⟩
def Bh (w w':World) (v:Value) (L:Lev):Prop:=∃ vr vw,v=zh #[vr,vw]/\w'.ownsRow w.heap.size 4 1 vr L.r.length (Bb L.r)/\w'.ownsRow w.heap.size 4 1 vw L.w.length (Bb L.w)/\Q5 vr vw
def Bs (m:Int) (gs:List (Int × Int)) (b:Lab):Int:=if AN m gs=0 then F2 m b else AN m gs
def Dp (m:Int) (gs:List (Int × Int)) (l:Lev):Int:=if AN m gs=0 then CV m l else AN m gs
def Ff (m:Int) (gs:List (Int × Int)) (l k:Lev):Int:=if Dp m gs l=0 then Dp m gs k else Dp m gs l
def QJ:Prop:=∀ (m:Int) (v:Value) (gs:List (Int × Int)) (pr pw:Value) (bl:Lab) (w:World),AB w v gs->Au w pr bl.r->Au w pw bl.w ->
 Calls Tryz.prog 48 #[zh #[zd U m,v],zh #[pr,pw]] w fun e w'=>e=zk (zd U (Bs m gs bl))/\Ov w w'
def QE:Prop:=∀ (m:Int) (v:Value) (gs:List (Int × Int)) (pr pw:Value) (bl:Lab) (w:World),AB w v gs->Au w pr bl.r->Au w pw bl.w ->
 Calls Tryz.prog 23 #[zh #[zd U m,v],zh #[pr,pw]] w fun e w'=>∃ vl,e=zk (zm #[vl,zd U (Bs m gs bl)])/\Bh w w' vl (if Bs m gs bl=0 then AH (AE gs) m.toNat bl else AL)/\Ov w w'
def QB:Prop:=∀ (m:Int) (v:Value) (gs:List (Int × Int)) (vl:Value) (l:Lev) (w:World),AB w v gs->Bn w vl l ->
 Calls Tryz.prog 49 #[zh #[zd U m,v],vl] w fun e w'=>e=zk (zd U (Dp m gs l))/\Ov w w'
def QG:Prop:=∀ (m:Int) (v:Value) (gs:List (Int × Int)) (vl vk:Value) (l k:Lev) (w:World),AB w v gs->Bn w vl l->Bn w vk k ->
 Calls Tryz.prog 16 #[zh #[zd U m,v],vl,vk] w fun e w'=>e=zk (zm #[zg (decide (Ff m gs l k=0) && Aw l k m.toNat),zd U (Ff m gs l k)])/\Ov w w'
def Se:Prop:=∀ (m:Int) (v:Value) (gs:List (Int × Int)) (vl vk:Value) (l k:Lev) (w:World),AB w v gs->Bn w vl l->Bn w vk k ->
 Calls Tryz.prog 46 #[zh #[zd U m,v],vl,vk] w fun e w'=>∃ vj,e=zk (zm #[vj,zd U (Ff m gs l k)])/\Bh w w' vj (if Ff m gs l k=0 then BH l k m.toNat else AL)/\Ov w w'
theorem AR {w:World} {v:Value} {ps:List Pol} (h:Au w v ps):∃ a n c,v=O a n c:=by
 obtain ⟨a,c,e,_⟩:=h;exact ⟨a,_,c,e⟩
theorem CN {w:World} {v:Value} {gs:List (Int × Int)} (h:AB w v gs):∃ a n c,v=O a n c:=by
 obtain ⟨a,c,e,_⟩:=h;exact ⟨a,_,c,e⟩
theorem MI:QJ:=by
 intro m v y T S g w B F E;have b:Ov w ((w.alloc (ze #[zd U m,v] 24)).alloc (ze #[T,S] 39)):=(bA w _).alloc (by simp) _;have L:=fun (W:World) (u:Ov w W)=>check_any m v y W (Aj B u);have J:=fun (W:World) (u:Ov w W)=>D9 m v T g.r W (Ah F u);have I:=fun (W:World) (u:Ov w W)=>D9 m v S g.w W (Ah E u);have K:Bs m y g=if AN m y=0 then (if Bd m g.r=0 then Bd m g.w else Bd m g.r) else AN m y:=rfl;obtain ⟨r,C⟩:=nm (AN m y);obtain ⟨V,k⟩:=nm (Bd m g.r);obtain ⟨p2,i⟩:=nm (Bd m g.w);rw [<-C,<-k,<-i] at K;rw [<-C] at L;rw [<-k] at J;rw [<-i] at I;obtain ⟨va,vn,vc,rfl⟩:=CN B;obtain ⟨pa,pn,pc,rfl⟩:=AR F;obtain ⟨R,P,Q,rfl⟩:=AR E;have KC:=Aa L;have KP:=Aa J;have Z:=Aa I;have N:=Aa K;clear L J I K C k i B F E;go_enter Tryz.func48,Tryz.ntmps48;go_wp2_with fail;refine (KC.o _ b).mono ?_;rintro e q ⟨rfl,p⟩;obtain ⟨d,H⟩:=Am p;have c0:q.cell? ⟨w.heap.size,0,none⟩=some (zd U m):=by rw [d _ _ (by simp;omega)];simp [go_sem]
 have c1:q.cell? ⟨w.heap.size,1,none⟩=some (O va vn vc):=by rw [d _ _ (by simp;omega)];simp [go_sem]
 have Y:q.cell? ⟨w.heap.size+1,0,none⟩=some (O pa pn pc):=by rw [d _ _ (by simp)];simp [go_sem]
 have X:q.cell? ⟨w.heap.size+1,1,none⟩=some (O R P Q):=by rw [d _ _ (by simp)];simp [go_sem]
 have c:Ov w q:=b.trans (p.mono (by simp;omega));clear d H p b KC;by_cases hr0:r=0
 ·subst hr0
  go_wp2_with fail;refine (KP.o _ c).mono ?_;rintro e z ⟨rfl,l⟩;have s:=bL c0;have A:=bL Y;obtain ⟨d,H⟩:=Am l;have d0:z.cell? ⟨w.heap.size,0,none⟩=some (zd U m):=by rw [d _ _ s];exact c0
  have d1:z.cell? ⟨w.heap.size,1,none⟩=some (O va vn vc):=by rw [d _ _ s];exact c1
  have d3:z.cell? ⟨w.heap.size+1,1,none⟩=some (O R P Q):=by rw [d _ _ A];exact X
  have f:Ov w z:=c.trans (l.mono c.size);clear d H l c c0 c1 Y X KP;by_cases hp0:V=0
  ·subst hp0
   go_wp2_with fail;refine (Z.o _ f).mono ?_;rintro e w3 ⟨rfl,t⟩;have M:Ov w w3:=f.trans (t.mono f.size);clear d0 d1 d3 t Z;go_wp2_with fail;go_ret;exact ⟨by rw [N.o];simp,M⟩
  ·have G:(V != 0)=true:=by simpa using hp0
   go_wp2_with fail;go_ret;exact ⟨by rw [N.o];simp [hp0],f⟩
 ·have G:(r != 0)=true:=by simpa using hr0
  go_wp2_with fail;go_ret;exact ⟨by rw [N.o];simp [hr0],c⟩
def Ad (W:World) (b n:Nat) (l:List Bool):Prop:=l.length=n/\∀ i (h:i < l.length),W.cell? ⟨b,i,none⟩=some (zg l[i])
theorem E7 {W W':World} {b n:Nat} {l:List Bool} (h:Ad W b n l) (hb:Ov W W'):Ad W' b n l:=
 ⟨h.1,fun i hi=>by rw [(Am hb).1 _ _ (bL (h.2 i hi))];exact h.2 i hi⟩
theorem Jr (b kb n:Nat) (l:List Bool) (x:Int) (W:World) (hn:n<=6) (hx:0<=x/\x < n) (h0:W.cell? ⟨b,0,none⟩=some (O (some ⟨kb,0,none⟩) n n)) (hr:Ad W kb n l) :
  Calls Tryz.prog 128 #[zd U x,zj (some ⟨b,0,none⟩)] W fun e w'=>e=zk (zg (l[x.toNat]?.getD false))/\Ov W w':=by
 obtain ⟨k,rfl⟩:∃ k:Nat,x=k:=⟨x.toNat,by omega⟩;have hk:k < l.length:=by rw [hr.1];omega
 have q:=hr.2 k hk;have c:l[(k:Int).toNat]?.getD false=l[k]:=by simp [hk]
 rw [c];obtain ⟨y,d⟩:=nm (l[k]);rw [<-d] at q ⊢;clear d c hr;go_enter Tryz.func128,Tryz.ntmps128;go_wp2_with fail;go_ret;exact ⟨by simp,Below.refl _ W⟩
def I3 (l:List Bool) (p:Pol):Bool:=(l[p.owner.toNat]?.getD false) || p.names.any (fun x=>l[x.toNat]?.getD false)
theorem Fx (kb n:Nat) (l:List Bool) (vp:Value) (ps:List Pol) (w:World) (hn:n<=6) (hr:Ad w kb n l) (hp:Au w vp ps) (hps:ps.length<=4/\∀ p∈ps,Ft n p) :
  Calls Tryz.prog 72 #[O (some ⟨kb,0,none⟩) n n,vp] w fun e w'=>e=zk (zg (ps.all (I3 l)))/\Ov w w':=by
 have HP:=Aa hp;obtain ⟨ao,a6,rfl,-⟩:=hp;have N:Ov w (w.alloc (ze #[O (some ⟨kb,0,none⟩) n n] 48)):=bA w _;have KA:=Aa fun (x:Int) (W:World) (hx:0<=x/\x < n) (I:Ov w W) (J:W.cell? ⟨w.heap.size,0,none⟩=some (O (some ⟨kb,0,none⟩) n n))=>Jr w.heap.size kb n l x W hn hx J (E7 hr I);have az:=hps.1;have af:=Aa hps.2;clear hps hr;go_enter Tryz.func72,Tryz.ntmps72;go_wp2_with fail;go_loopw [11] (fun i wr=>∃ k:Nat,k<=ps.length/\i=zd U k/\(ps.take k).all (I3 l)=true/\Ov w wr/\wr.cell? ⟨w.heap.size,0,none⟩=some (O (some ⟨kb,0,none⟩) n n)) (fun i _=>ps.length - (intOf i).toNat)
 case atStart=>exact ⟨0,Nat.zero_le _,rfl,rfl,N,by simp [go_sem]⟩
 case round=>
  obtain ⟨k,hk,rfl,g,y,c0⟩:=hrel;by_cases hkl:k < ps.length
  ·obtain ⟨b,off,am,X,Z,S,q1,V⟩:=Iv (Ah HP.o y) hkl
   injection Z with e1 e2 e3;subst e1 e3;clear e2;obtain ⟨A,C,B⟩:=af.o ps[k] (List.getElem_mem hkl);have G:I3 l ps[k]=((l[ps[k].owner.toNat]?.getD false) || ps[k].names.any (fun x=>l[x.toNat]?.getD false)):=rfl;have t:I3 l ps[k]=true->(ps.take (k+1)).all (I3 l)=true:=fun h=>by
    rw [List.take_succ_eq_append_getElem hkl,List.all_append,g];simp [h]
   have s:I3 l ps[k]=false->ps.all (I3 l)=false:=fun h=>by
    rw [List.all_eq_false];exact ⟨ps[k],List.getElem_mem hkl,by simp [h]⟩
   have z:Ov wr (wr.alloc (ze #[zd U ps[k].owner,X] 87)):=bA wr _;have T:=fun (W:World) (I:Ov w W) (J:W.cell? ⟨w.heap.size,0,none⟩=some (O (some ⟨kb,0,none⟩) n n))=>KA.o ps[k].owner W A I J;have hN:=fun (W:World) (I:Ov w W) (ad:Ov wr W) (J:W.cell? ⟨w.heap.size,0,none⟩=some (O (some ⟨kb,0,none⟩) n n))=>Ea 128 (zj (some ⟨w.heap.size,0,none⟩)) (fun x=>l[x.toNat]?.getD false) X ps[k].names W (Be V ad) C (Aa fun i hi w1 hb=>KA.o ps[k].names[i] w1 (B _ (List.getElem_mem hi)) (I.trans (hb.mono I.size)) (by rw [(Am hb).1 _ _ (bL J)];exact J)) RU;obtain ⟨x1,F⟩:=nm (l[ps[k].owner.toNat]?.getD false);obtain ⟨x2,E⟩:=nm (ps[k].names.any (fun x=>l[x.toNat]?.getD false));obtain ⟨ow,M⟩:=nm (ps[k].owner);rw [<-F,<-E] at G;rw [G] at t s;rw [<-F] at T;rw [<-E] at hN;rw [<-M] at S z T;obtain ⟨na,nn,nc,aa⟩:∃ a n c,X=O a n c:=by obtain ⟨a,c,e,_⟩:=V;exact ⟨a,_,c,e⟩
   subst aa;have HN:=Aa t;have HS:=Aa s;have KO:=Aa T;have KN:=Aa hN;have d:=y.trans (z.mono y.size);have Y:=bL c0;have ax:=bL S;have R:(wr.alloc (ze #[zd U ow,O na nn nc] 87)).cell? ⟨w.heap.size,0,none⟩=some (O (some ⟨kb,0,none⟩) n n):=by rw [(Am z).1 _ _ Y];exact c0
   have q:=Aa R;clear F E M G t s T hN g V R A C B
   cases x1 with
   | true=>
    go_wp2_with fail;refine (KO.o _ d q.o).mono ?_;rintro e L ⟨rfl,f⟩;have u:=d.trans (f.mono d.size);have K:L.cell? ⟨w.heap.size,0,none⟩=some (O (some ⟨kb,0,none⟩) n n):=by rw [(Am f).1 _ _ (bL q.o)];exact q.o
    clear f d c0 S q1 q;go_wp2_with fail;exact ⟨⟨k+1,by omega,by go_num,HN.o (by simp),u,K⟩,by simp [intOf];omega⟩
   | false=>
    go_wp2_with fail;refine (KO.o _ d q.o).mono ?_;rintro e L ⟨rfl,f⟩;have u:=d.trans (f.mono d.size);have K:L.cell? ⟨w.heap.size,0,none⟩=some (O (some ⟨kb,0,none⟩) n n):=by rw [(Am f).1 _ _ (bL q.o)];exact q.o
    have d1:L.cell? ⟨wr.heap.size,1,none⟩=some (O na nn nc):=by rw [(Am f).1 _ _ (by simp)];simp [go_sem]
    have Q:Ov wr L:=z.trans (f.mono (by simp));clear f d c0 S q1 q;go_wp2_with fail;refine (KN.o _ u Q K).mono ?_;rintro e w3 ⟨rfl,H⟩;have P:=u.trans (H.mono u.size);have f0:w3.cell? ⟨w.heap.size,0,none⟩=some (O (some ⟨kb,0,none⟩) n n):=by rw [(Am H).1 _ _ (bL K)];exact K
    clear H u K d1 Q KN KO
    cases x2 with
    | true=>
     go_wp2_with fail;exact ⟨⟨k+1,by omega,by go_num,HN.o (by simp),P,f0⟩,by simp [intOf];omega⟩
    | false=>
     go_wp2_with fail;go_ret;exact ⟨by rw [HS.o (by simp)];rfl,P⟩
  ·have ab:k=ps.length:=by omega
   have hz:ps.all (I3 l)=true:=by rw [ab,List.take_length] at g;exact g
   have HZ:=Aa hz;clear hz g c0;go_wp2_with fail;go_ret;exact ⟨by rw [HZ.o];rfl,y⟩
end Go.Proofs.YtfffpjkcfnekaaaGreat
namespace Go.Proofs.YtfffpjkcfnekaaaGreat.Ex
open Go.RowKit
open Go.Value renaming slice -> O, int -> zd, bool -> zg, agg -> zh, pointer -> zj, tuple -> zm
open Go.IntKind renaming i64 -> U
open Go.Obj renaming cells -> ze
open Go.Ending renaming returned -> zk
def sD (kd va ot:Int) (e:D) (ags ts es:List D):D:=.agg [.lit (.int U kd),.lit (.int U va),.lit (.int U ot),e,.slice ags [],.slice ts [],.slice es []]
def Af:D->Int
 | .agg (.lit (.int _ n)::_)=>n
 | _=>0
def Ax:D->Int
 | .agg (_::.lit (.int _ n)::_)=>n
 | _=>0
def Ae:D->Int
 | .agg (_::_::.lit (.int _ n)::_)=>n
 | _=>0
def Ao:D->D
 | .agg (_::_::_::e::_)=>e
 | d=>d
def Al:D->List D
 | .agg (_::_::_::_::.slice l _::_)=>l
 | _=>[]
def Ag:D->List D
 | .agg (_::_::_::_::_::.slice l _::_)=>l
 | _=>[]
def Ak:D->List D
 | .agg (_::_::_::_::_::_::.slice l _::_)=>l
 | _=>[]
def RS (w:World) (K:Nat):Nat->List Value->D->Prop
 | 0,_,_=>False
 | k+1,cs,d=>∃ (kd va ot:Int) (x0 x1 x2:Value) (e:D) (vA:Value) (ags:List D) (vT:Value) (ts:List D) (vE:Value) (es:List D),
   cs=[zd U kd,zd U va,zd U ot,x0,x1,x2,vA,vT,vE]/\d=sD kd va ot e ags ts es/\Cq kd/\Cq va/\Cq ot/\RX w K [x0,x1,x2] e/\XS 3 (RX w K) w vA ags/\XS 9 (RS w K k) w vT ts/\XS 9 (RS w K k) w vE es
theorem RS.mono {w w':World} {K:Nat} (hw:∀ a u,w.cell? a=some u->w'.cell? a=some u) :
  ∀ (k m:Nat) (cs:List Value) (d:D),k<=m->RS w K k cs d->RS w' K m cs d:=by
 intro k
 induction k with
 | zero=>intro m cs d _ h;exact h.elim
 | succ k ih=>
  intro m cs d y h;obtain ⟨c,rfl⟩:∃ c,m=c + 1:=⟨m - 1,by omega⟩;obtain ⟨t,va,s,x0,x1,x2,e,p,g,i,q,l,I,f,A,H,G,F,z,E,B,C⟩:=h;exact ⟨t,va,s,x0,x1,x2,e,p,g,i,q,l,I,f,A,H,G,F,RX.mono hw K K _ e (Nat.le_refl _) z,
   E.mono hw (fun cs d _ b=>RX.mono hw K K cs d (Nat.le_refl _) b),B.mono hw (fun cs d _ b=>ih c cs d (by omega) b),C.mono hw (fun cs d _ b=>ih c cs d (by omega) b)⟩
def AI (w:World) (K k:Nat) (v:Value) (l:List D):Prop:=XS 9 (RS w K k) w v l
theorem AI.over {w w':World} {K k:Nat} {v:Value} {l:List D} (h:AI w K k v l) (hb:Ov w w'):AI w' K k v l:=
 XS.mono h (Ab hb) (fun cs d _ hh=>RS.mono (Ab hb) k k cs d (Nat.le_refl _) hh)
theorem ArgsAt.over {w w':World} {K:Nat} {v:Value} {l:List D} (h:XS 3 (RX w K) w v l) (hb:Ov w w'):XS 3 (RX w' K) w' v l:=
 XS.mono h (Ab hb) (fun cs d _ hh=>RX.mono (Ab hb) K K cs d (Nat.le_refl _) hh)
structure FnD where
 ps:List Int
 body:List D
 res:D
def Bv (fs:List FnD) (c:Int):FnD:=fs.getD c.toNat ⟨[],[],.agg []⟩
def QC (v:Value) (ps:List Int):Prop:=ps.length<=maxLen/\∃ pa pc,v=O pa ps.length pc/\ps.length<=pc/\pc<=maxLen
def Bi (w:World) (K k:Nat) (v:Value) (fs:List FnD):Prop:=
 fs.length<=maxLen/\∃ ao cap,v=O ao fs.length cap/\(fs≠[]->∃ b off,ao=some ⟨b,off,none⟩/\∀ i (h:i < fs.length),∃ (vP vB x0 x1 x2:Value),
  w.cell? ⟨b,off+i*5,none⟩=some vP/\w.cell? ⟨b,off+i*5+1,none⟩=some vB/\w.cell? ⟨b,off+i*5+2,none⟩=some x0/\w.cell? ⟨b,off+i*5+3,none⟩=some x1/\w.cell? ⟨b,off+i*5+4,none⟩=some x2 /\
  AQ w vP fs[i].ps/\QC vP fs[i].ps/\AI w K k vB fs[i].body/\RX w K [x0,x1,x2] fs[i].res)
theorem Bi.over {w w':World} {K k:Nat} {v:Value} {l:List FnD} (h:Bi w K k v l) (hb:Ov w w'):Bi w' K k v l:=by
 obtain ⟨z,I,p,t,B⟩:=h;refine ⟨z,I,p,t,fun d=>?_⟩;obtain ⟨b,off,g,f⟩:=B d;refine ⟨b,off,g,fun i A=>?_⟩;obtain ⟨q,vB,x0,x1,x2,H,G,F,E,C,y,c,u,s⟩:=f i A;exact ⟨q,vB,x0,x1,x2,Ab hb _ _ H,Ab hb _ _ G,Ab hb _ _ F,Ab hb _ _ E,Ab hb _ _ C,y.over hb,c,u.over hb,s.over hb⟩
def AX (w:World) (v:Value) (ls:List Lab):Prop:=
 ls.length<=maxLen/\∃ ao cap,v=O ao ls.length cap/\(ls≠[]->∃ b off,ao=some ⟨b,off,none⟩/\∀ i (h:i < ls.length),∃ (pr pw:Value),
  w.cell? ⟨b,off+i*2,none⟩=some pr/\w.cell? ⟨b,off+i*2+1,none⟩=some pw/\Au w pr ls[i].r/\Au w pw ls[i].w)
theorem AX.over {w w':World} {v:Value} {l:List Lab} (h:AX w v l) (hb:Ov w w'):AX w' v l:=by
 obtain ⟨t,B,g,q,y⟩:=h;refine ⟨t,B,g,q,fun c=>?_⟩;obtain ⟨b,off,f,d⟩:=y c;refine ⟨b,off,f,fun i u=>?_⟩;obtain ⟨p,k,A,z,s,hw⟩:=d i u;exact ⟨p,k,Ab hb _ _ A,Ab hb _ _ z,Ah s hb,Ah hw hb⟩
def Bo (w:World) (v:Value) (ls:List (Bool × Lab)):Prop:=
 ls.length<=maxLen/\∃ ao cap,v=O ao ls.length cap/\(ls≠[]->∃ b off,ao=some ⟨b,off,none⟩/\∀ i (h:i < ls.length),∃ (pr pw:Value),
  w.cell? ⟨b,off+i*3,none⟩=some (zg ls[i].1)/\w.cell? ⟨b,off+i*3+1,none⟩=some pr/\w.cell? ⟨b,off+i*3+2,none⟩=some pw/\Au w pr ls[i].2.r/\Au w pw ls[i].2.w)
theorem Bo.over {w w':World} {v:Value} {l:List (Bool × Lab)} (h:Bo w v l) (hb:Ov w w'):Bo w' v l:=by
 obtain ⟨t,C,g,q,y⟩:=h;refine ⟨t,C,g,q,fun c=>?_⟩;obtain ⟨b,off,f,d⟩:=y c;refine ⟨b,off,f,fun i u=>?_⟩;obtain ⟨p,k,B,A,z,s,hw⟩:=d i u;exact ⟨p,k,Ab hb _ _ B,Ab hb _ _ A,Ab hb _ _ z,Ah s hb,Ah hw hb⟩
def Az (why:Int):Ending:=.panicked [{ v:=.iface 230 (zh #[zd U 0,zd U why]),recovered:=false }]
theorem Nc (why:Int) (w:World):Calls Tryz.prog 215 #[zd U 0,zg false,zd U why] w fun e w'=>e=Az why/\w'=w:=by
 unfold Az;go_enter Tryz.func215,Tryz.ntmps215;go_wp2_with fail;exact ⟨rfl,rfl,rfl⟩
theorem Mr (why:Int) (w:World):Calls Tryz.prog 172 #[zg false,zd U why] w fun e w'=>e=Az why/\w'=w:=by
 have K:=Aa fun W=>Nc why W;unfold Az at K ⊢;go_enter Tryz.func172,Tryz.ntmps172;go_wp2_with fail;refine (K.o _).mono ?_;rintro e b ⟨rfl,rfl⟩;go_wp2_with fail;exact ⟨rfl,rfl,rfl⟩
def SZ (ok:Bool) (why:Int) (w:World) (e:Ending) (w':World):Prop:=(ok=true/\e=zk (zm #[])\/ok=false/\e=Az why)/\w'=w
theorem BZ (ok:Bool) (why:Int) (w:World):Calls Tryz.prog 172 #[zg ok,zd U why] w (SZ ok why w):=by
 cases ok with
 | true=>exact (BU why w).mono fun e b h=>⟨Or.inl ⟨rfl,h.1⟩,h.2⟩
 | false=>exact (Mr why w).mono fun e b h=>⟨Or.inr ⟨rfl,h.1⟩,h.2⟩
theorem GM (why:Int) (w:World):Calls Tryz.prog 171 #[zd U why] w (SZ (why == 0) why w):=by
 by_cases h:why=0
 ·subst h
  exact (PV w).mono fun e b h=>⟨Or.inl ⟨rfl,h.1⟩,h.2⟩
 ·have c:(why == 0)=false:=by simpa using h
  have K:=Aa fun W=>Mr why W;have H:Calls Tryz.prog 171 #[zd U why] w fun e b=>e=Az why/\b=w:=by
   unfold Az at K ⊢;go_enter Tryz.func171,Tryz.ntmps171;go_wp2_with fail;refine (K.o _).mono ?_;rintro e d ⟨rfl,rfl⟩;go_wp2_with fail;exact ⟨rfl,rfl,rfl⟩
  exact H.mono fun e b h=>⟨Or.inr ⟨c,h.1⟩,h.2⟩
@[simp] theorem S3 (kd va ot:Int) (e:D) (ags ts es:List D):Af (sD kd va ot e ags ts es)=kd:=rfl
@[simp] theorem Ta (kd va ot:Int) (e:D) (ags ts es:List D):Ax (sD kd va ot e ags ts es)=va:=rfl
@[simp] theorem Sn (kd va ot:Int) (e:D) (ags ts es:List D):Ae (sD kd va ot e ags ts es)=ot:=rfl
@[simp] theorem S4 (kd va ot:Int) (e:D) (ags ts es:List D):Ao (sD kd va ot e ags ts es)=e:=rfl
@[simp] theorem S6 (kd va ot:Int) (e:D) (ags ts es:List D):Al (sD kd va ot e ags ts es)=ags:=rfl
@[simp] theorem S2 (kd va ot:Int) (e:D) (ags ts es:List D):Ag (sD kd va ot e ags ts es)=ts:=rfl
@[simp] theorem S5 (kd va ot:Int) (e:D) (ags ts es:List D):Ak (sD kd va ot e ags ts es)=es:=rfl
abbrev sC (kd va ot ek en:Int) (xa:Option Addr) (xl xc:Nat) (aa:Option Addr) (al ac:Nat) (ta:Option Addr) (tl tc:Nat) (ea:Option Addr) (el ec:Nat):List Value:=
 [zd U kd,zd U va,zd U ot,zd U ek,zd U en,O xa xl xc,O aa al ac,O ta tl tc,O ea el ec]
theorem RS.form {w:World} {K k:Nat} {cs:List Value} {d:D} (h:RS w K (k+1) cs d) :
  ∃ (ek en:Int) (xa:Option Addr) (xl xc:Nat) (aa:Option Addr) (ac:Nat) (ta:Option Addr) (tc:Nat) (ea:Option Addr) (ec:Nat),
   cs=sC (Af d) (Ax d) (Ae d) ek en xa xl xc aa (Al d).length ac ta (Ag d).length tc ea (Ak d).length ec/\Cq (Af d)/\Cq (Ax d)/\Cq (Ae d) /\
   RX w K [zd U ek,zd U en,O xa xl xc] (Ao d)/\XS 3 (RX w K) w (O aa (Al d).length ac) (Al d)/\AI w K k (O ta (Ag d).length tc) (Ag d)/\AI w K k (O ea (Ak d).length ec) (Ak d) /\
   ek=AD (Ao d)/\en=A5 (Ao d)/\xl=(AC (Ao d)).length:=by
 obtain ⟨B,va,A,x0,x1,x2,e,y,s,t,z,u,C,rfl,rfl,q,p,l,c,i,f,g⟩:=h;obtain ⟨xa,xc,b⟩:=c.form;simp only [List.cons.injEq,and_true] at b;obtain ⟨rfl,rfl,rfl⟩:=b;obtain ⟨aa,ac,rfl,-⟩:=i.2;obtain ⟨ta,tc,rfl,-⟩:=f.2;obtain ⟨ea,ec,rfl,-⟩:=g.2;exact ⟨_,_,xa,_,xc,aa,ac,ta,tc,ea,ec,rfl,q,p,l,c,i,f,g,rfl,rfl,rfl⟩
def BD:Nat->D->Nat
 | 0,_=>0
 | k+1,d=>1+((Ag d).map (BD k)).sum+((Ak d).map (BD k)).sum
def Ai (k:Nat) (l:List D):Nat:=(l.map (BD k)).sum
theorem DP {k:Nat} {l:List D} {j:Nat} (hj:j < l.length):Ai k (l.take (j+1))=Ai k (l.take j)+BD k l[j]:=by
 unfold Ai;rw [List.take_succ_eq_append_getElem hj,List.map_append,List.sum_append];simp
theorem AI.zero {w:World} {K:Nat} {v:Value} {l:List D} (h:AI w K 0 v l):l=[]:=by
 cases l with
 | nil=>rfl
 | cons d l=>
  obtain ⟨-,k,i,-,g⟩:=h;obtain ⟨b,off,-,c⟩:=g (by simp);obtain ⟨cs,-,-,f⟩:=c 0 d rfl;exact f.elim
def Ap (k:Nat) (fs:List FnD):Nat:=(fs.map fun f=>Ai k f.body).sum
theorem B4 {k:Nat} {l:List FnD} {j:Nat} (hj:j < l.length):Ap k (l.take (j+1))=Ap k (l.take j)+Ai k l[j].body:=by
 unfold Ap;rw [List.take_succ_eq_append_getElem hj,List.map_append,List.sum_append];simp
def Dc (ok:Prop) (w:World) (e:Ending) (w':World):Prop:=((ok/\e=zk (zm #[]))\/∃ why:Int,why≠0/\e=Az why)/\Ov w w'
theorem Om (w:World):Calls Tryz.prog 243 #[zd U 1] w fun e w'=>e=zk (zm #[zh #[zg true,zg false,zg true,zg false,zg false,zg false],zg true])/\Ov w w':=by
 go_enter Tryz.func243,Tryz.ntmps243;go_wp2_with fail;exact bodyPost_ret (v:=zm #[zh #[zg true,zg false,zg true,zg false,zg false,zg false],zg true]) (by simp [results,Tryz.results243,go_sem]) rfl ⟨rfl,bA w _⟩
theorem Ol (w:World):Calls Tryz.prog 243 #[zd U 2] w fun e w'=>e=zk (zm #[zh #[zg true,zg true,zg false,zg true,zg false,zg false],zg true])/\Ov w w':=by
 go_enter Tryz.func243,Tryz.ntmps243;go_wp2_with fail;exact bodyPost_ret (v:=zm #[zh #[zg true,zg true,zg false,zg true,zg false,zg false],zg true]) (by simp [results,Tryz.results243,go_sem]) rfl ⟨rfl,bA w _⟩
theorem Ok (w:World):Calls Tryz.prog 243 #[zd U 3] w fun e w'=>e=zk (zm #[zh #[zg true,zg true,zg false,zg false,zg false,zg false],zg true])/\Ov w w':=by
 go_enter Tryz.func243,Tryz.ntmps243;go_wp2_with fail;exact bodyPost_ret (v:=zm #[zh #[zg true,zg true,zg false,zg false,zg false,zg false],zg true]) (by simp [results,Tryz.results243,go_sem]) rfl ⟨rfl,bA w _⟩
theorem Oj (w:World):Calls Tryz.prog 243 #[zd U 4] w fun e w'=>e=zk (zm #[zh #[zg false,zg true,zg true,zg false,zg false,zg false],zg true])/\Ov w w':=by
 go_enter Tryz.func243,Tryz.ntmps243;go_wp2_with fail;exact bodyPost_ret (v:=zm #[zh #[zg false,zg true,zg true,zg false,zg false,zg false],zg true]) (by simp [results,Tryz.results243,go_sem]) rfl ⟨rfl,bA w _⟩
theorem Oi (w:World):Calls Tryz.prog 243 #[zd U 5] w fun e w'=>e=zk (zm #[zh #[zg true,zg false,zg true,zg false,zg false,zg false],zg true])/\Ov w w':=by
 go_enter Tryz.func243,Tryz.ntmps243;go_wp2_with fail;exact bodyPost_ret (v:=zm #[zh #[zg true,zg false,zg true,zg false,zg false,zg false],zg true]) (by simp [results,Tryz.results243,go_sem]) rfl ⟨rfl,bA w _⟩
theorem Oh (w:World):Calls Tryz.prog 243 #[zd U 6] w fun e w'=>e=zk (zm #[zh #[zg true,zg false,zg true,zg false,zg false,zg false],zg true])/\Ov w w':=by
 go_enter Tryz.func243,Tryz.ntmps243;go_wp2_with fail;exact bodyPost_ret (v:=zm #[zh #[zg true,zg false,zg true,zg false,zg false,zg false],zg true]) (by simp [results,Tryz.results243,go_sem]) rfl ⟨rfl,bA w _⟩
theorem Og (w:World):Calls Tryz.prog 243 #[zd U 7] w fun e w'=>e=zk (zm #[zh #[zg false,zg false,zg true,zg false,zg true,zg true],zg true])/\Ov w w':=by
 go_enter Tryz.func243,Tryz.ntmps243;go_wp2_with fail;exact bodyPost_ret (v:=zm #[zh #[zg false,zg false,zg true,zg false,zg true,zg true],zg true]) (by simp [results,Tryz.results243,go_sem]) rfl ⟨rfl,bA w _⟩
theorem Oe (w:World):Calls Tryz.prog 243 #[zd U 8] w fun e w'=>e=zk (zm #[zh #[zg false,zg false,zg true,zg false,zg true,zg false],zg true])/\Ov w w':=by
 go_enter Tryz.func243,Tryz.ntmps243;go_wp2_with fail;exact bodyPost_ret (v:=zm #[zh #[zg false,zg false,zg true,zg false,zg true,zg false],zg true]) (by simp [results,Tryz.results243,go_sem]) rfl ⟨rfl,bA w _⟩
theorem JA (k:Int) (hk:¬ (1<=k/\k<=8)) (w:World):Calls Tryz.prog 243 #[zd U k] w fun e w'=>e=zk (zm #[zh #[zg false,zg false,zg false,zg false,zg false,zg false],zg false])/\Ov w w':=by
 have p:(k == 1)=false:=by simp;omega
 have l:(k == 2)=false:=by simp;omega
 have i:(k == 3)=false:=by simp;omega
 have g:(k == 4)=false:=by simp;omega
 have f:(k == 5)=false:=by simp;omega
 have d:(k == 6)=false:=by simp;omega
 have c:(k == 7)=false:=by simp;omega
 have b:(k == 8)=false:=by simp;omega
 clear hk;go_enter Tryz.func243,Tryz.ntmps243;go_wp2_with fail;exact bodyPost_ret (v:=zm #[zh #[zg false,zg false,zg false,zg false,zg false,zg false],zg false]) (by simp [results,Tryz.results243,go_sem]) rfl ⟨rfl,bA w _⟩
theorem Ck (k:Int) (funcs:Int) (m:Int) (ga gn gc sa sn sc ya yn yc oa on oc va vn vc fa fn fc ba bn bc) (w:World):Calls Tryz.prog 244 #[zh #[zd U m,O ga gn gc,O sa sn sc,O ya yn yc,O oa on oc,O va vn vc,O fa fn fc,O ba bn bc],zd U k,zd U funcs] w fun e w'=>e=zk (zd U (if k=2 then funcs else if k=3 then yn else on))/\Ov w w':=by
 have b:Ov w (w.alloc (ze #[zd U m,O ga gn gc,O sa sn sc,O ya yn yc,O oa on oc,O va vn vc,O fa fn fc,O ba bn bc] 184)):=bA w _;by_cases h2:k=2
 ·subst h2
  go_enter Tryz.func244,Tryz.ntmps244;go_wp2_with fail;go_ret;exact ⟨rfl,b⟩
 ·by_cases h3:k=3
  ·subst h3
   go_enter Tryz.func244,Tryz.ntmps244;go_wp2_with fail;go_ret;exact ⟨rfl,b⟩
  ·rw [if_neg h2,if_neg h3]
   go_enter Tryz.func244,Tryz.ntmps244;go_wp2_with fail;go_ret;exact ⟨rfl,b⟩
def Cs (K:Nat) (nv ni no:Nat) (funcs:Int) (fs:List FnD) (d:D):Prop:=
 (1<=Af d/\Af d<=8)/\((Af d=1\/Af d=2\/Af d=3\/Af d=5\/Af d=6)->0<=Ax d/\Ax d < nv) /\
 (Af d=2->(0<=Ae d/\Ae d < funcs)/\(∀ f,fs[(Ae d).toNat]? = some f->f.ps.length=(Al d).length)/\∀ a∈Al d,AF nv K a=0) /\
 (Af d=3->0<=Ae d/\Ae d < ni)/\((Af d=1\/4<=Af d)->AF nv K (Ao d)=0)/\((Af d=2\/Af d=3)->AD (Ao d)=0/\AC (Ao d)=[])/\(Af d=4->0<=Ae d/\Ae d < no)
def okS (K:Nat) (nv ni no:Nat) (funcs:Int) (fs:List FnD):Nat->D->Prop
 | 0,_=>False
 | k+1,d=>Cs K nv ni no funcs fs d/\(∀ s∈Ag d,okS K nv ni no funcs fs k s)/\∀ s∈Ak d,okS K nv ni no funcs fs k s
theorem Dc.imp {p q:Prop} {w:World} {e:Ending} {w':World} (h:Dc p w e w') (hpq:p->q):Dc q w e w':=by
 obtain ⟨h,d⟩:=h;refine ⟨?_,d⟩;rcases h with ⟨b,c⟩ | h
 ·exact Or.inl ⟨hpq b,c⟩
 ·exact Or.inr h
theorem Bi.mono {w:World} {K k m:Nat} {v:Value} {l:List FnD} (h:Bi w K k v l) (hkm:k<=m):Bi w K m v l:=by
 obtain ⟨C,M,t,z,F⟩:=h;refine ⟨C,M,t,z,fun f=>?_⟩;obtain ⟨b,off,s,p⟩:=F f;refine ⟨b,off,s,fun i E=>?_⟩;obtain ⟨u,vB,x0,x1,x2,L,J,I,H,G,B,c,A,y⟩:=p i E;exact ⟨u,vB,x0,x1,x2,L,J,I,H,G,B,c,XS.mono A (fun _ _ g=>g) (fun cs d _ g=>RS.mono (fun _ _ q=>q) k m cs d hkm g),y⟩
end Go.Proofs.YtfffpjkcfnekaaaGreat.Ex
