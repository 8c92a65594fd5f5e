/- The reader of package tree reads an expression. -/
import Derived.Test.YtipngnjffjajpaaGreatDoorJ04
import Derived.Deep.RegionWith
import Derived.Maps.AppendAt
set_option linter.unusedVariables false
set_option maxHeartbeats 8000000
set_option maxRecDepth 100000
namespace Go.Proofs.YtipngnjffjajpaaGreatDoor
open Go.RowKit
open Go.Value renaming int -> I, slice -> zc, bool -> zd, pointer -> zf, agg -> zg, tuple -> zi
open Go.IntKind renaming i64 -> O
open Go.Obj renaming cells -> ze
open Go.Ending renaming returned -> zh
theorem Mq {ts:List Tok} {en f deep n:Nat} (h:(Ag ts n).kind=2):pE ts en (f+1) deep n=.inl (eD 1 (Av ts en n) (CF (Ag ts n).text.data.toList) ⟨#[]⟩ [],n+1):=by
 simp only [pE,h,if_true]
theorem JQ (rb:Nat) (tv:Value) (ts:List Tok) (hall:ts.all Ao=true) (en n f deep:Nat) (w:World) (h:St rb tv ts en n w) (hx:(Ag ts n).kind=2) :
  Calls Tryz.prog 133 #[zf (some ⟨rb,0,none⟩),I O (deep:Int)] w (Cx rb tv ts en (f+1) w (pE ts en (f+1) deep n)):=by
 rw [Mq hx];have l:Below w.heap.size w (w.alloc (Obj.cells #[I O 0,I O 0,I O 0,.string ⟨#[]⟩,zc none 0 0] 49)):=(Below.refl _ w).alloc (Nat.le_refl _) _;have N:=h.below l;have X:=Aa (BL rb tv ts en n _ N);go_enter Tryz.func133,Tryz.ntmps133;go_wp2_with fail;refine (X.out).mono ?_;rintro e c ⟨rfl,j⟩;have U:=N.below j;have C:c.heap[w.heap.size]? = some (Obj.cells #[I O 0,I O 0,I O 0,.string ⟨#[]⟩,zc none 0 0] 49 (0,0)):=Aw (heap_alloc_new w _) j;have A:Below w.heap.size w c:=l.trans (j.mono l.size);clear l N j X;obtain ⟨B,g⟩:∃ B,B=c.alloc (Obj.cells #[I O 0,I O (Av ts en n),I O 0,.string ⟨#[]⟩,zc none 0 0] 49):=⟨_,rfl⟩;have a:Below c.heap.size c B:=by rw [g];exact (Below.refl _ c).alloc (Nat.le_refl _) _
 have M:=U.below a;have F:B.heap[c.heap.size]? = some (Obj.cells #[I O 0,I O (Av ts en n),I O 0,.string ⟨#[]⟩,zc none 0 0] 49 (0,0)):=by rw [g];exact heap_alloc_new c _
 have G:=Aw C a;have y:Below w.heap.size w B:=A.trans (a.mono A.size);have H:=Bj rb tv ts en n B M;rw [hx] at H;unfold AG at H;rw [g] at H;have V:=Aa H;have ag:=BA 2 (Ag ts n).pos (Ag ts n).text;obtain ⟨R,ad⟩:∃ R,R=Av ts en n:=⟨_,rfl⟩;clear H;go_wp2_with fail;refine (V.out).mono ?_;rintro e Q ⟨rfl,b⟩;rw [<-g] at b;have T:=M.below b;have K:Below w.heap.size w Q:=y.trans (b.mono y.size);have r:=Aw G b;have E:=Aw F b;have W:=Aa (GE rb tv ts hall en n Q T hx);have af:w.heap.size < c.heap.size:=(Array.getElem?_eq_some_iff.1 C).1;have ac:=h.lt;clear V g M G F y a U C A b T;go_wp2_with fail;refine (W.out).mono ?_;rintro e Y ⟨rfl,i,S⟩;have C:=Ae r i (by omega);have F:=Ae E i (by omega);obtain ⟨p0,p1,p2,p3,Z,pf,pl⟩:=De C;obtain ⟨e0,e1,e2,e3,e4,ef,el⟩:=De F;have L:w.grownBy Y (some rb):=Ab (Ad K) i;have hn:=FU hx;have HR:=Aa S.1;obtain ⟨u,x⟩:∃ u,u=(CF (Ag ts n).text.data.toList:Int):=⟨_,rfl⟩;rw [<-x];have HX:=Aa h;have P:=Aa x;clear W r E K i S C F h x;go_wp2_with fail;refine bodyPost_ret (v:=zg #[I O 1,I O (Av ts en n),I O u,.string ⟨#[]⟩,zc none 0 0]) (by simp [results,Tryz.results133,go_sem,p0,p1,p2,p3,Z]) rfl ?_;have J:=Ak (Ak (Ak (Ak (Ak (Ak (Ak L (p:=⟨c.heap.size,0,none⟩) (by simp;omega) (I O 1)) (p:=⟨c.heap.size,2,none⟩) (by simp;omega) (I O u)) (p:=⟨w.heap.size,0,none⟩) (by simp) (I O 1)) (p:=⟨w.heap.size,1,none⟩) (by simp) (I O (Av ts en n))) (p:=⟨w.heap.size,2,none⟩) (by simp) (I O u)) (p:=⟨w.heap.size,3,none⟩) (by simp) (.string ⟨#[]⟩)) (p:=⟨w.heap.size,4,none⟩) (by simp) (zc none 0 0);refine ⟨J,[I O 1,I O (Av ts en n),I O u,.string ⟨#[]⟩,zc none 0 0],rfl,?_,HX.out.keep J ?_ hn⟩
 ·exact ⟨1,Av ts en n,u,⟨#[]⟩,zc none 0 0,[],rfl,by rw [P.out],RS.nil _ _ _ _ _ _⟩
 ·exact Ap (Ap (Ap (Ap (Ap (Ap (Ap HR.out (by simp;omega)) (by simp;omega)) (by simp;omega)) (by simp;omega)) (by simp;omega)) (by simp;omega)) (by simp;omega)
theorem RS.form {S:Nat->Prop} {size:Nat} {R:List Value->D->Prop} {w:World} {v:Value} {ds:List D} (h:RS S size R w v ds):∃ ao cap,v=zc ao ds.length cap:=by
 obtain ⟨ao,cap,a,_⟩:=h;exact ⟨ao,cap,a⟩
theorem RE.form {S:Nat->Prop} {w:World} {k:Nat} {cs:List Value} {d:D} (h:RE S w k cs d):∃ (kd a n:Int) (x:ByteArray) (ao:Option Addr) (len cap:Nat),cs=[I O kd,I O a,I O n,.string x,zc ao len cap]:=by
 cases k with
 | zero=>exact h.elim
 | succ k=>
  obtain ⟨kd,a,n,x,v,f,b,c,hr⟩:=h;obtain ⟨ao,cap,rfl⟩:=hr.form;exact ⟨kd,a,n,x,ao,_,cap,b⟩
theorem Dh {rb:Nat} {tv:Value} {ts:List Tok} {en k n:Nat} {w w':World} {d:D} {e:Ending} (h:Cx rb tv ts en k w (.inl (d,n)) e w') :
  ∃ (kd a m:Int) (x:ByteArray) (ao:Option Addr) (len cap:Nat),e=zh (zg #[I O kd,I O a,I O m,.string x,zc ao len cap])/\w.grownBy w' (some rb) /\
   RE (fun b=>w.heap.size<=b) w' k [I O kd,I O a,I O m,.string x,zc ao len cap] d/\St rb tv ts en n w':=by
 obtain ⟨f,i,g,hr,c⟩:=h;obtain ⟨kd,a,m,x,ao,len,cap,rfl⟩:=hr.form;exact ⟨kd,a,m,x,ao,len,cap,g,f,hr,c⟩
theorem FO {rb:Nat} {tv:Value} {ts:List Tok} {en k m:Nat} {w w':World} {e:Ending} (h:Cx rb tv ts en k w (.inr m) e w'):e=Ai (Av ts en m)/\w.grownBy w' (some rb):=⟨h.2,h.1⟩
theorem Oo {S:Nat->Prop} {R:List Value->D->Prop} {w:World} {g T:Nat} {c0 c1 c2 c3 c4 c5 c6 c7 c8 c9:Value} {da db:D}
  (hk:w.heap[g]? = some (Obj.cells #[c0,c1,c2,c3,c4,c5,c6,c7,c8,c9] T (0,0))) (hS:S g) (hA:R [c0,c1,c2,c3,c4] da) (hB:R [c5,c6,c7,c8,c9] db) :
  RS S 5 R w (zc (some ⟨g,0,none⟩) 2 2) [da,db]:=by
 refine ⟨_,2,rfl,fun _=>⟨g,0,rfl,hS,Fz0.new hk,fun i d b=>?_⟩⟩;rcases i with _ | _ | i
 ·obtain rfl:da=d:=by simpa using b
  refine ⟨_,rfl,fun j u a=>?_,hA⟩;rw [Lib.cell_of_heap hk];rcases j with _ | _ | _ | _ | _ | j <;> simp at a ⊢ <;> exact a
 ·obtain rfl:db=d:=by simpa using b
  refine ⟨_,rfl,fun j u a=>?_,hB⟩;rw [Lib.cell_of_heap hk];rcases j with _ | _ | _ | _ | _ | j <;> simp at a ⊢ <;> exact a
 ·simp at b
theorem Kx (rb:Nat) (tv:Value) (ts:List Tok) (hall:ts.all Ao=true) (en n f deep:Nat) (w:World) (h:St rb tv ts en n w) (hx2:¬ (Ag ts n).kind=2) (hm:isT ts n [45]=false) (hN:AN (Ag ts n)=false) (hd:deep < 60) (ho:isT ts n [40]=true)
  (HIH:Hid (∀ n w,St rb tv ts en n w->Calls Tryz.prog 133 #[zf (some ⟨rb,0,none⟩),I O ((deep:Int)+1)] w (Cx rb tv ts en f w (pE ts en f (deep+1) n)))) (m:Nat) (h1:pE ts en f (deep+1) (n+1)=.inr m) :
  Calls Tryz.prog 133 #[zf (some ⟨rb,0,none⟩),I O (deep:Int)] w (Cx rb tv ts en (f+1) w (.inr m)):=by
 have hn:=CS ho (by simp);have B:Below w.heap.size w (w.alloc (Obj.cells #[I O 0,I O 0,I O 0,.string ⟨#[]⟩,zc none 0 0] 49)):=(Below.refl _ w).alloc (Nat.le_refl _) _;have HH:=Aa (BL rb tv ts en n _ (h.below B));have aw:=h.lt;have HX:=Aa h;go_enter Tryz.func133,Tryz.ntmps133;go_wp2_with fail;refine (HH.out).mono ?_;rintro e C ⟨rfl,W⟩;have T:=Aw (heap_alloc_new w _) W;have ay:w.heap.size < C.heap.size:=(Array.getElem?_eq_some_iff.1 T).1;have Y:Below w.heap.size w C:=B.trans (W.mono B.size);obtain ⟨Z,c⟩:∃ Z,Z=C.alloc (Obj.cells #[I O 0,I O (Av ts en n),I O 0,.string ⟨#[]⟩,zc none 0 0] 49):=⟨_,rfl⟩;have v:Below C.heap.size C Z:=by rw [c];exact (Below.refl _ C).alloc (Nat.le_refl _) _
 have H:Z.heap[C.heap.size]? = some (Obj.cells #[I O 0,I O (Av ts en n),I O 0,.string ⟨#[]⟩,zc none 0 0] 49 (0,0)):=by rw [c];exact heap_alloc_new C _
 have M:=Aw T v;have X:Below w.heap.size w Z:=Y.trans (v.mono Y.size);have l:=h.below X;have S:=Ad (r:=some rb) X;have hp:=Bj rb tv ts en n Z l;obtain ⟨kk,U⟩:∃ y,y=(Ag ts n).kind:=⟨_,rfl⟩;obtain ⟨pp,ac⟩:∃ y,y=(Ag ts n).pos:=⟨_,rfl⟩;obtain ⟨tx,aa⟩:∃ y,y=(Ag ts n).text:=⟨_,rfl⟩;rw [<-U,<-ac,<-aa] at hp;have bk:(kk == 2)=false:=by rw [U];simpa using hx2
 unfold AG at hp;rw [c] at hp;have HP:=Aa hp;have az:=BA kk pp tx;clear hp U ac aa HH B W h Y;go_wp2_with fail;refine (HP.out).mono ?_;rintro e w3 ⟨rfl,A⟩;rw [<-c] at A;clear HP c T v X hx2;have g1:=Ad (r:=some rb) A;have j:=l.below A;have L:=Ae M g1 (by omega);have G:=Ae H g1 (by omega);have R:=Ab S g1;clear g1 M H S l;clear A;have x:=Aa (B4 rb tv ts en n ⟨#[45]⟩ _ j hm);go_wp2_with fail;refine (x.out).mono ?_;rintro e an ⟨rfl,b⟩;clear x;have g2:=Ad (r:=some rb) b;have i:=j.below b;have K:=Ae L g2 (by omega);have F:=Ae G g2 (by omega);have Q:=Ab R g2;clear g2 L G R j;clear b;have V:=BF rb tv ts en n _ i;rw [hN] at V;have x:=Aa V;clear V;go_wp2_with fail;refine (x.out).mono ?_;rintro e am ⟨rfl,a⟩;clear x;have g3:=Ad (r:=some rb) a;have N:=i.below a;have J:=Ae K g3 (by omega);have E:=Ae F g3 (by omega);have P:=Ab Q g3;clear g3 K F Q i;clear a;clear hN hm;have x:=Aa (BT rb tv ts en n ⟨#[40]⟩ _ N ho hn);go_wp2_with fail;refine (x.out).mono ?_;rintro e al ⟨rfl,u,g⟩;clear x;have g4:=u;have ab:=g;have aq:=Ae J g4 (by omega);have ap:=Ae E g4 (by omega);have ae:=Ab P g4;clear g4 J E P N;clear u g;have V:=HIH.out (n+1) _ ab;rw [h1] at V;have x:=Aa V;clear V;go_wp2_with fail;refine (x.out).mono ?_;intro e wA aj;clear x;obtain ⟨rfl,ak⟩:=FO aj;unfold Ai;go_wp2_with fail;exact ⟨rfl,Ab ae ak,rfl⟩
theorem Ms (rb:Nat) (tv:Value) (ts:List Tok) (hall:ts.all Ao=true) (en n f deep:Nat) (w:World) (h:St rb tv ts en n w) (hx2:¬ (Ag ts n).kind=2) (hm:isT ts n [45]=false) (hN:AN (Ag ts n)=false) (hd:deep < 60) (ho:isT ts n [40]=true)
  (HIH:Hid (∀ n w,St rb tv ts en n w->Calls Tryz.prog 133 #[zf (some ⟨rb,0,none⟩),I O ((deep:Int)+1)] w (Cx rb tv ts en f w (pE ts en f (deep+1) n)))) (da:D) (n1:Nat) (h1:pE ts en f (deep+1) (n+1)=.inl (da,n1)) (hop:A0 (Ag ts n1).text.data.toList=0) :
  Calls Tryz.prog 133 #[zf (some ⟨rb,0,none⟩),I O (deep:Int)] w (Cx rb tv ts en (f+1) w (.inr n1)):=by
 have hn:=CS ho (by simp);have P:Below w.heap.size w (w.alloc (Obj.cells #[I O 0,I O 0,I O 0,.string ⟨#[]⟩,zc none 0 0] 49)):=(Below.refl _ w).alloc (Nat.le_refl _) _;have HH:=Aa (BL rb tv ts en n _ (h.below P));have bm:=h.lt;have HX:=Aa h;go_enter Tryz.func133,Tryz.ntmps133;go_wp2_with fail;refine (HH.out).mono ?_;rintro e K ⟨rfl,aj⟩;have ah:=Aw (heap_alloc_new w _) aj;have bq:w.heap.size < K.heap.size:=(Array.getElem?_eq_some_iff.1 ah).1;have al:Below w.heap.size w K:=P.trans (aj.mono P.size);obtain ⟨w2,u⟩:∃ w2,w2=K.alloc (Obj.cells #[I O 0,I O (Av ts en n),I O 0,.string ⟨#[]⟩,zc none 0 0] 49):=⟨_,rfl⟩;have H:Below K.heap.size K w2:=by rw [u];exact (Below.refl _ K).alloc (Nat.le_refl _) _
 have T:w2.heap[K.heap.size]? = some (Obj.cells #[I O 0,I O (Av ts en n),I O 0,.string ⟨#[]⟩,zc none 0 0] 49 (0,0)):=by rw [u];exact heap_alloc_new K _
 have Y:=Aw ah H;have ak:Below w.heap.size w w2:=al.trans (H.mono al.size);have B:=h.below ak;have af:=Ad (r:=some rb) ak;have hp:=Bj rb tv ts en n w2 B;obtain ⟨kk,ai⟩:∃ y,y=(Ag ts n).kind:=⟨_,rfl⟩;obtain ⟨pp,av⟩:∃ y,y=(Ag ts n).pos:=⟨_,rfl⟩;obtain ⟨tx,aq⟩:∃ y,y=(Ag ts n).text:=⟨_,rfl⟩;rw [<-ai,<-av,<-aq] at hp;have bk:(kk == 2)=false:=by rw [ai];simpa using hx2
 unfold AG at hp;rw [u] at hp;have HP:=Aa hp;have br:=BA kk pp tx;clear hp ai av aq HH P aj h al;go_wp2_with fail;refine (HP.out).mono ?_;rintro e w3 ⟨rfl,N⟩;rw [<-u] at N;clear HP u ah H ak hx2;have g1:=Ad (r:=some rb) N;have A:=B.below N;have X:=Ae Y g1 (by omega);have S:=Ae T g1 (by omega);have ae:=Ab af g1;clear g1 Y T af B;clear N;have i:=Aa (B4 rb tv ts en n ⟨#[45]⟩ _ A hm);go_wp2_with fail;refine (i.out).mono ?_;rintro e bb ⟨rfl,c⟩;clear i;have g2:=Ad (r:=some rb) c;have x:=A.below c;have W:=Ae X g2 (by omega);have R:=Ae S g2 (by omega);have ad:=Ab ae g2;clear g2 X S ae A;clear c;have G:=BF rb tv ts en n _ x;rw [hN] at G;have i:=Aa G;clear G;go_wp2_with fail;refine (i.out).mono ?_;rintro e ba ⟨rfl,a⟩;clear i;have g3:=Ad (r:=some rb) a;have ab:=x.below a;have V:=Ae W g3 (by omega);have Q:=Ae R g3 (by omega);have ac:=Ab ad g3;clear g3 W R ad x;clear a;clear hN hm;have i:=Aa (BT rb tv ts en n ⟨#[40]⟩ _ ab ho hn);go_wp2_with fail;refine (i.out).mono ?_;rintro e a9 ⟨rfl,E,v⟩;clear i;have g4:=E;have aa:=v;have U:=Ae V g4 (by omega);have l:=Ae Q g4 (by omega);have C:=Ab ac g4;clear g4 V Q ac ab;clear E v;have G:=HIH.out (n+1) _ aa;rw [h1] at G;have i:=Aa G;clear G;go_wp2_with fail;refine (i.out).mono ?_;intro e L au;clear i;obtain ⟨ag,a1,m1,x1,am,j,J,rfl,F,a0,Z⟩:=Dh au;have bd:w.heap.size<=L.heap.size:=by have:=C.size;have:=F.size;omega
 have be:RE (fun b=>K.heap.size < b) L f [I O ag,I O a1,I O m1,.string x1,zc am j J] da:=RE.mono (fun b hb _=>by have:=(Array.getElem?_eq_some_iff.1 l).1;omega) (fun _ _ _=>rfl) f f _ _ (Nat.le_refl _) a0;have a7:=Ae U F (by omega);have ap:=Ae l F (by omega);have ay:=Ab C F;clear U l C aa F au a0;obtain ⟨wB,M⟩:∃ wB,wB=L.alloc (Obj.cells #[I O ag,I O a1,I O m1,.string x1,zc am j J] 49):=⟨_,rfl⟩;have g:Below L.heap.size L wB:=by rw [M];exact (Below.refl _ L).alloc (Nat.le_refl _) _
 have bi:wB.heap[L.heap.size]? = some (Obj.cells #[I O ag,I O a1,I O m1,.string x1,zc am j J] 49 (0,0)):=by rw [M];exact heap_alloc_new L _
 have bl:=Aw a7 g;have bj:=Aw ap g;have ax:=Ab ay (Ad g);have ar:=Z.below g;have bp:K.heap.size < L.heap.size:=(Array.getElem?_eq_some_iff.1 ap).1;have bn:=Z.lt;have G:=Jz rb tv ts en n1 wB ar hop;rw [M] at G;have i:=Aa G;clear G;go_wp2_with fail;refine (i.out).mono ?_;rintro e wz ⟨rfl,az⟩;rw [<-M] at az;unfold Ai;go_wp2_with fail;exact ⟨rfl,Ab ax (Ad az),rfl⟩
theorem Kw (rb:Nat) (tv:Value) (ts:List Tok) (hall:ts.all Ao=true) (en n f deep:Nat) (w:World) (h:St rb tv ts en n w) (hx2:¬ (Ag ts n).kind=2) (hm:isT ts n [45]=false) (hN:AN (Ag ts n)=false) (hd:deep < 60) (ho:isT ts n [40]=true)
  (HIH:Hid (∀ n w,St rb tv ts en n w->Calls Tryz.prog 133 #[zf (some ⟨rb,0,none⟩),I O ((deep:Int)+1)] w (Cx rb tv ts en f w (pE ts en f (deep+1) n)))) (da:D) (n1 m:Nat) (h1:pE ts en f (deep+1) (n+1)=.inl (da,n1)) (hop:¬ A0 (Ag ts n1).text.data.toList=0) (h2:pE ts en f (deep+1) (n1+1)=.inr m) :
  Calls Tryz.prog 133 #[zf (some ⟨rb,0,none⟩),I O (deep:Int)] w (Cx rb tv ts en (f+1) w (.inr m)):=by
 have hn:=CS ho (by simp);have Z:Below w.heap.size w (w.alloc (Obj.cells #[I O 0,I O 0,I O 0,.string ⟨#[]⟩,zc none 0 0] 49)):=(Below.refl _ w).alloc (Nat.le_refl _) _;have HH:=Aa (BL rb tv ts en n _ (h.below Z));have ct:=h.lt;have HX:=Aa h;go_enter Tryz.func133,Tryz.ntmps133;go_wp2_with fail;refine (HH.out).mono ?_;rintro e g ⟨rfl,Y⟩;have a7:=Aw (heap_alloc_new w _) Y;have cx:w.heap.size < g.heap.size:=(Array.getElem?_eq_some_iff.1 a7).1;have be:Below w.heap.size w g:=Z.trans (Y.mono Z.size);obtain ⟨w2,G⟩:∃ w2,w2=g.alloc (Obj.cells #[I O 0,I O (Av ts en n),I O 0,.string ⟨#[]⟩,zc none 0 0] 49):=⟨_,rfl⟩;have T:Below g.heap.size g w2:=by rw [G];exact (Below.refl _ g).alloc (Nat.le_refl _) _
 have ad:w2.heap[g.heap.size]? = some (Obj.cells #[I O 0,I O (Av ts en n),I O 0,.string ⟨#[]⟩,zc none 0 0] 49 (0,0)):=by rw [G];exact heap_alloc_new g _
 have ai:=Aw a7 T;have bd:Below w.heap.size w w2:=be.trans (T.mono be.size);have N:=h.below bd;have ay:=Ad (r:=some rb) bd;have hp:=Bj rb tv ts en n w2 N;obtain ⟨kk,a9⟩:∃ y,y=(Ag ts n).kind:=⟨_,rfl⟩;obtain ⟨pp,bt⟩:∃ y,y=(Ag ts n).pos:=⟨_,rfl⟩;obtain ⟨tx,br⟩:∃ y,y=(Ag ts n).text:=⟨_,rfl⟩;rw [<-a9,<-bt,<-br] at hp;have bk:(kk == 2)=false:=by rw [a9];simpa using hx2
 unfold AG at hp;rw [G] at hp;have HP:=Aa hp;have cy:=BA kk pp tx;clear hp a9 bt br HH Z Y h be;go_wp2_with fail;refine (HP.out).mono ?_;rintro e w3 ⟨rfl,X⟩;rw [<-G] at X;clear HP G a7 T bd hx2;have g1:=Ad (r:=some rb) X;have M:=N.below X;have ah:=Ae ai g1 (by omega);have ac:=Ae ad g1 (by omega);have ax:=Ab ay g1;clear g1 ai ad ay N;clear X;have j:=Aa (B4 rb tv ts en n ⟨#[45]⟩ _ M hm);go_wp2_with fail;refine (j.out).mono ?_;rintro e ca ⟨rfl,A⟩;clear j;have g2:=Ad (r:=some rb) A;have L:=M.below A;have ag:=Ae ah g2 (by omega);have ab:=Ae ac g2 (by omega);have aw:=Ab ax g2;clear g2 ah ac ax M;clear A;have l:=BF rb tv ts en n _ L;rw [hN] at l;have j:=Aa l;clear l;go_wp2_with fail;refine (j.out).mono ?_;rintro e b9 ⟨rfl,x⟩;clear j;have g3:=Ad (r:=some rb) x;have ao:=L.below x;have af:=Ae ag g3 (by omega);have aa:=Ae ab g3 (by omega);have av:=Ab aw g3;clear g3 ag ab aw L;clear x;clear hN hm;have j:=Aa (BT rb tv ts en n ⟨#[40]⟩ _ ao ho hn);go_wp2_with fail;refine (j.out).mono ?_;rintro e b8 ⟨rfl,R,H⟩;clear j;have g4:=R;have an:=H;have ae:=Ae af g4 (by omega);have E:=Ae aa g4 (by omega);have Q:=Ab av g4;clear g4 af aa av ao;clear R H;have l:=HIH.out (n+1) _ an;rw [h1] at l;have j:=Aa l;clear l;go_wp2_with fail;refine (j.out).mono ?_;intro e B bs;clear j;obtain ⟨a3,a1,m1,x1,bf,C,U,rfl,S,bv,J⟩:=Dh bs;have ch:w.heap.size<=B.heap.size:=by have:=Q.size;have:=S.size;omega
 have ci:RE (fun b=>g.heap.size < b) B f [I O a3,I O a1,I O m1,.string x1,zc bf C U] da:=RE.mono (fun b hb _=>by have:=(Array.getElem?_eq_some_iff.1 E).1;omega) (fun _ _ _=>rfl) f f _ _ (Nat.le_refl _) bv;have bq:=Ae ae S (by omega);have a6:=Ae E S (by omega);have au:=Ab Q S;clear ae E Q an S bs bv;obtain ⟨wB,F⟩:∃ wB,wB=B.alloc (Obj.cells #[I O a3,I O a1,I O m1,.string x1,zc bf C U] 49):=⟨_,rfl⟩;have c:Below B.heap.size B wB:=by rw [F];exact (Below.refl _ B).alloc (Nat.le_refl _) _
 have bl:wB.heap[B.heap.size]? = some (Obj.cells #[I O a3,I O a1,I O m1,.string x1,zc bf C U] 49 (0,0)):=by rw [F];exact heap_alloc_new B _
 have bp:=Aw bq c;have bm:=Aw a6 c;have ar:=Ab au (Ad c);have am:=J.below c;have cw:g.heap.size < B.heap.size:=(Array.getElem?_eq_some_iff.1 a6).1;have cu:=J.lt;have b5:n1 < ts.length:=Cm (DN _ hop);have l:=DX rb tv ts en n1 wB am hop;obtain ⟨V,P⟩:∃ V,V=A0 (Ag ts n1).text.data.toList:=⟨_,rfl⟩;rw [<-P] at l;have c3:=Aa P;rw [F] at l;have j:=Aa l;clear l hop P;go_wp2_with fail;refine (j.out).mono ?_;rintro e wC ⟨rfl,u,al⟩;rw [<-F] at u;have bo:=Ae bp u (by omega);have a5:=Ae bm u (by omega);have a2:=Ae bl u (by omega);have aq:=Ab ar u;have az:=Ab (Ad (r:=some rb) c) u;obtain ⟨e0,e1,e2,e3,e4,ef,el⟩:=De a5;obtain ⟨q0,q1,q2,q3,q4,qf,ql⟩:=De a2;have a4:(wC.setCell ⟨g.heap.size,0,none⟩ (I O V)).heap[g.heap.size]? = some (Obj.cells #[I O V,I O (Av ts en n),I O 0,.string ⟨#[]⟩,zc none 0 0] 49 (0,0)):=by simp [World.setCell,Array.getElem?_modify,a5]
 have bn:(wC.setCell ⟨g.heap.size,0,none⟩ (I O V)).heap[w.heap.size]? = _:=Ap bo (by simp;omega);have a0:(wC.setCell ⟨g.heap.size,0,none⟩ (I O V)).heap[B.heap.size]? = _:=Ap a2 (by simp;omega);have a:=Ak aq (p:=⟨g.heap.size,0,none⟩) (by simp;omega) (I O V);have ak:=HX.out.keep a (Ap al.1 (by simp;omega)) b5;have bc:∀ b,g.heap.size < b->b < B.heap.size->(wC.setCell ⟨g.heap.size,0,none⟩ (I O V)).heap[b]? = B.heap[b]?:=fun b Y b6=>by rw [Below.heap_setCell _ _ _ _ (by simp;omega)];exact az.block b b6 (by simp;omega)
 clear az;clear j F c bq a6 au bp bm ar am bl bo a5 a2 al u J;go_wp2_with fail;generalize wC.setCell ⟨g.heap.size,0,none⟩ (I O V)=wD at a4 bn a0 a ak bc ⊢;have c4:=Aa bc;clear bc;clear e0 e1 e2 e3 e4 ef el q0 q1 q2 q3 q4 qf ql aq;obtain ⟨e0,e1,e2,e3,e4,ef,el⟩:=De a4;obtain ⟨q0,q1,q2,q3,q4,qf,ql⟩:=De a0;have l:=fun W h=>HIH.out (n1+1) W h;rw [h2] at l;have j:=Aa l;clear l HIH h1 h2;have aj:St rb tv ts en (n1+1) wD.drew:=ak;have bw:Hid (IntKind.i64.wrap ((deep:Int)+1)=(deep:Int)+1):=by show _=_;rw [IntKind.wrap_i64];omega
 have ap:w.grownBy wD.drew (some rb):=⟨a.os,a.tape,a.output,a.size,a.block⟩;have c0:=Aa (show wD.drew.heap[g.heap.size]? = _ from a4);have cz:=Aa (show wD.drew.heap[B.heap.size]? = _ from a0);have c1:=Aa (show wD.drew.heap[w.heap.size]? = _ from bn);refine wp_region_any (by kernel_rfl) ?_
 change wpAny _ _ _ _ _ _ _ (World.drew _)
 refine wpAny_take (i:=1) (v:=?_) rfl (by kernel_rfl) (by kernel_rfl) (by kernel_rfl) (fun _ _ _ h=>h) (Or.inl ⟨by rfl,?_⟩) ?_;rotate_left 1
 ·intro w;go_simp;try with_reducible rfl
 refine wpAny_take (i:=2) (v:=?_) rfl (by kernel_rfl) (by kernel_rfl) (by kernel_rfl) (fun _ _ _ h=>h) (Or.inl ⟨by rfl,?_⟩) ?_;rotate_left 1
 ·intro w;go_simp;try with_reducible rfl
 refine wpAny_take (i:=3) (v:=?_) rfl (by kernel_rfl) (by kernel_rfl) (by kernel_rfl) (fun _ _ _ h=>h) (Or.inl ⟨by rfl,?_⟩) ?_;rotate_left 1
 ·intro w;go_simp;try with_reducible rfl
 refine wpAny_ready (rs:=[0,4]) (by kernel_rfl) (by simp) ?_;refine AllReady.cons rfl (fun K hK=>?_) (AllReady.cons rfl (fun K hK=>?_) AllReady.nil)
 ·go_simp
  refine hK _ _ ?_;clear hK K;refine wpAny_ready (rs:=[4]) (by kernel_rfl) (by simp) ?_;refine AllReady.cons rfl (fun K hK=>?_) AllReady.nil;go_simp;clear hK
  go_at_call 133;rw [bw.out];refine (j.out _ ?_).mono ?_;exact aj;intro e wE a8;obtain ⟨rfl,ba⟩:=FO a8;have bb:w.grownBy wE (some rb):=Ab ap ba;clear j;unfold Ai;go_wp2_with fail;exact ⟨rfl,bb,rfl⟩
 ·go_simp
  clear hK
  go_at_call 133;rw [bw.out];refine (j.out _ ?_).mono ?_;exact aj;intro e wE a8;obtain ⟨rfl,ba⟩:=FO a8;have bb:w.grownBy wE (some rb):=Ab ap ba;clear j;unfold Ai;go_wp2_with fail;exact ⟨rfl,bb,rfl⟩
theorem IB (rb:Nat) (tv:Value) (ts:List Tok) (hall:ts.all Ao=true) (en n f deep:Nat) (w:World) (h:St rb tv ts en n w) (hx2:¬ (Ag ts n).kind=2) (hm:isT ts n [45]=false) (hN:AN (Ag ts n)=false) (hd:deep < 60) (ho:isT ts n [40]=true)
  (HIH:Hid (∀ n w,St rb tv ts en n w->Calls Tryz.prog 133 #[zf (some ⟨rb,0,none⟩),I O ((deep:Int)+1)] w (Cx rb tv ts en f w (pE ts en f (deep+1) n)))) (da db:D) (n1 n2:Nat) (h1:pE ts en f (deep+1) (n+1)=.inl (da,n1)) (hop:¬ A0 (Ag ts n1).text.data.toList=0) (h2:pE ts en f (deep+1) (n1+1)=.inl (db,n2)) (hcl:isT ts n2 [41]=false) :
  Calls Tryz.prog 133 #[zf (some ⟨rb,0,none⟩),I O (deep:Int)] w (Cx rb tv ts en (f+1) w (.inr n2)):=by
 have hn:=CS ho (by simp);have ah:Below w.heap.size w (w.alloc (Obj.cells #[I O 0,I O 0,I O 0,.string ⟨#[]⟩,zc none 0 0] 49)):=(Below.refl _ w).alloc (Nat.le_refl _) _;have HH:=Aa (BL rb tv ts en n _ (h.below ah));have dm:=h.lt;have HX:=Aa h;go_enter Tryz.func133,Tryz.ntmps133;go_wp2_with fail;refine (HH.out).mono ?_;rintro e a ⟨rfl,g⟩;have bj:=Aw (heap_alloc_new w _) g;have dr:w.heap.size < a.heap.size:=(Array.getElem?_eq_some_iff.1 bj).1;have bq:Below w.heap.size w a:=ah.trans (g.mono ah.size);obtain ⟨w2,P⟩:∃ w2,w2=a.alloc (Obj.cells #[I O 0,I O (Av ts en n),I O 0,.string ⟨#[]⟩,zc none 0 0] 49):=⟨_,rfl⟩;have ac:Below a.heap.size a w2:=by rw [P];exact (Below.refl _ a).alloc (Nat.le_refl _) _
 have al:w2.heap[a.heap.size]? = some (Obj.cells #[I O 0,I O (Av ts en n),I O 0,.string ⟨#[]⟩,zc none 0 0] 49 (0,0)):=by rw [P];exact heap_alloc_new a _
 have aq:=Aw bj ac;have bp:Below w.heap.size w w2:=bq.trans (ac.mono bq.size);have X:=h.below bp;have a9:=Ad (r:=some rb) bp;have hp:=Bj rb tv ts en n w2 X;obtain ⟨kk,bm⟩:∃ y,y=(Ag ts n).kind:=⟨_,rfl⟩;obtain ⟨pp,cb⟩:∃ y,y=(Ag ts n).pos:=⟨_,rfl⟩;obtain ⟨tx,b7⟩:∃ y,y=(Ag ts n).text:=⟨_,rfl⟩;rw [<-bm,<-cb,<-b7] at hp;have bk:(kk == 2)=false:=by rw [bm];simpa using hx2
 unfold AG at hp;rw [P] at hp;have HP:=Aa hp;have ds:=BA kk pp tx;clear hp bm cb b7 HH ah g h bq;go_wp2_with fail;refine (HP.out).mono ?_;rintro e w3 ⟨rfl,ag⟩;rw [<-P] at ag;clear HP P bj ac bp hx2;have g1:=Ad (r:=some rb) ag;have V:=X.below ag;have ap:=Ae aq g1 (by omega);have ak:=Ae al g1 (by omega);have a8:=Ab a9 g1;clear g1 aq al a9 X;clear ag;have v:=Aa (B4 rb tv ts en n ⟨#[45]⟩ _ V hm);go_wp2_with fail;refine (v.out).mono ?_;rintro e c9 ⟨rfl,F⟩;clear v;have g2:=Ad (r:=some rb) F;have U:=V.below F;have ao:=Ae ap g2 (by omega);have aj:=Ae ak g2 (by omega);have a7:=Ab a8 g2;clear g2 ap ak a8 V;clear F;have A:=BF rb tv ts en n _ U;rw [hN] at A;have v:=Aa A;clear A;go_wp2_with fail;refine (v.out).mono ?_;rintro e c8 ⟨rfl,E⟩;clear v;have g3:=Ad (r:=some rb) E;have ax:=U.below E;have an:=Ae ao g3 (by omega);have ai:=Ae aj g3 (by omega);have a6:=Ab a7 g3;clear g3 ao aj a7 U;clear E;clear hN hm;have v:=Aa (BT rb tv ts en n ⟨#[40]⟩ _ ax ho hn);go_wp2_with fail;refine (v.out).mono ?_;rintro e c7 ⟨rfl,aa,Q⟩;clear v;have g4:=aa;have aw:=Q;have am:=Ae an g4 (by omega);have M:=Ae ai g4 (by omega);have Z:=Ab a6 g4;clear g4 an ai a6 ax;clear aa Q;have A:=HIH.out (n+1) _ aw;rw [h1] at A;have v:=Aa A;clear A;go_wp2_with fail;refine (v.out).mono ?_;intro e x ca;clear v;obtain ⟨H,a1,m1,x1,J,i,l,rfl,ab,ce,T⟩:=Dh ca;have dd:w.heap.size<=x.heap.size:=by have:=Z.size;have:=ab.size;omega
 have bd:RE (fun b=>a.heap.size < b) x f [I O H,I O a1,I O m1,.string x1,zc J i l] da:=RE.mono (fun b hb _=>by have:=(Array.getElem?_eq_some_iff.1 M).1;omega) (fun _ _ _=>rfl) f f _ _ (Nat.le_refl _) ce;have b6:=Ae am ab (by omega);have bi:=Ae M ab (by omega);have a5:=Ab Z ab;clear am M Z aw ab ca ce;obtain ⟨wB,N⟩:∃ wB,wB=x.alloc (Obj.cells #[I O H,I O a1,I O m1,.string x1,zc J i l] 49):=⟨_,rfl⟩;have j:Below x.heap.size x wB:=by rw [N];exact (Below.refl _ x).alloc (Nat.le_refl _) _
 have b0:wB.heap[x.heap.size]? = some (Obj.cells #[I O H,I O a1,I O m1,.string x1,zc J i l] 49 (0,0)):=by rw [N];exact heap_alloc_new x _
 have b5:=Aw b6 j;have b2:=Aw bi j;have a4:=Ab a5 (Ad j);have av:=T.below j;have dq:a.heap.size < x.heap.size:=(Array.getElem?_eq_some_iff.1 bi).1;have dn:=T.lt;have cx:n1 < ts.length:=Cm (DN _ hop);have A:=DX rb tv ts en n1 wB av hop;obtain ⟨G,Y⟩:∃ G,G=A0 (Ag ts n1).text.data.toList:=⟨_,rfl⟩;rw [<-Y] at A;have d1:=Aa Y;rw [N] at A;have v:=Aa A;clear A hop Y;go_wp2_with fail;refine (v.out).mono ?_;rintro e wC ⟨rfl,C,au⟩;rw [<-N] at C;have b4:=Ae b5 C (by omega);have bh:=Ae b2 C (by omega);have be:=Ae b0 C (by omega);have a3:=Ab a4 C;have ba:=Ab (Ad (r:=some rb) j) C;obtain ⟨e0,e1,e2,e3,e4,ef,el⟩:=De bh;obtain ⟨q0,q1,q2,q3,q4,qf,ql⟩:=De be;have af:(wC.setCell ⟨a.heap.size,0,none⟩ (I O G)).heap[a.heap.size]? = some (Obj.cells #[I O G,I O (Av ts en n),I O 0,.string ⟨#[]⟩,zc none 0 0] 49 (0,0)):=by simp [World.setCell,Array.getElem?_modify,bh]
 have bl:(wC.setCell ⟨a.heap.size,0,none⟩ (I O G)).heap[w.heap.size]? = _:=Ap b4 (by simp;omega);have ae:(wC.setCell ⟨a.heap.size,0,none⟩ (I O G)).heap[x.heap.size]? = _:=Ap be (by simp;omega);have c:=Ak a3 (p:=⟨a.heap.size,0,none⟩) (by simp;omega) (I O G);have S:=HX.out.keep c (Ap au.1 (by simp;omega)) cx;have bn:∀ b,a.heap.size < b->b < x.heap.size->(wC.setCell ⟨a.heap.size,0,none⟩ (I O G)).heap[b]? = x.heap[b]?:=fun b g u=>by rw [Below.heap_setCell _ _ _ _ (by simp;omega)];exact ba.block b u (by simp;omega)
 clear ba;clear v N j b6 bi a5 b5 b2 a4 av b0 b4 bh be au C T;go_wp2_with fail;generalize wC.setCell ⟨a.heap.size,0,none⟩ (I O G)=wD at af bl ae c S bn ⊢;have cl:=Aa bn;clear bn;clear e0 e1 e2 e3 e4 ef el q0 q1 q2 q3 q4 qf ql a3;obtain ⟨e0,e1,e2,e3,e4,ef,el⟩:=De af;obtain ⟨q0,q1,q2,q3,q4,qf,ql⟩:=De ae;have A:=fun W h=>HIH.out (n1+1) W h;rw [h2] at A;have v:=Aa A;clear A HIH h1 h2;have ar:St rb tv ts en (n1+1) wD.drew:=S;have cj:Hid (IntKind.i64.wrap ((deep:Int)+1)=(deep:Int)+1):=by show _=_;rw [IntKind.wrap_i64];omega
 have ay:w.grownBy wD.drew (some rb):=⟨c.os,c.tape,c.output,c.size,c.block⟩;have ch:=Aa (show wD.drew.heap[a.heap.size]? = _ from af);have cg:=Aa (show wD.drew.heap[x.heap.size]? = _ from ae);have ci:=Aa (show wD.drew.heap[w.heap.size]? = _ from bl);have ck:=Aa bd;clear bd;have de:x.heap.size < wD.heap.size:=ql;go_region_with (go_at_call 133;rw [cj.out];refine (v.out _ ?_).mono ?_;exact ar;intro e K b9;obtain ⟨bf,a2,m2,x2,br,L,ad,rfl,B,cd,R⟩:=Dh b9;have bg:=Ae ch.out B (by omega);have bz:=Ae cg.out B (by omega);obtain ⟨E0,E1,E2,E3,E4,EF,EL⟩:=De bg;obtain ⟨Q0,Q1,Q2,Q3,Q4,QF,QL⟩:=De bz);all_goals
  clear e0 e1 e2 e3 e4 ef q0 q1 q2 q3 q4 qf E0 E1 E2 E3 E4 EF Q0 Q1 Q2 Q3 Q4 QF b9 v cj ar;have a0:=Ab ay B;have dt:wD.heap.size<=K.heap.size:=B.size;have b3:=Ae ci.out B (by omega);generalize hwF:(K.setCell ⟨a.heap.size,4,none⟩ (zc (some ⟨K.heap.size,0,none⟩) 2 2)).alloc (Obj.cells #[I O H,I O a1,I O m1,.string x1,zc J i l,I O bf,I O a2,I O m2,.string x2,zc br L ad] 49)=wF;have az:w.grownBy wF (some rb):=by rw [<-hwF];exact DG (Ak a0 (by simp;omega) _) _
  have dk:wF.heap[a.heap.size]? = some (Obj.cells #[I O G,I O (Av ts en n),I O 0,.string ⟨#[]⟩,zc (some ⟨K.heap.size,0,none⟩) 2 2] 49 (0,0)):=by rw [<-hwF];exact Cj (by simp [World.setCell,Array.getElem?_modify,bg])
  have b1:wF.heap[K.heap.size]? = some (Obj.cells #[I O H,I O a1,I O m1,.string x1,zc J i l,I O bf,I O a2,I O m2,.string x2,zc br L ad] 49 (0,0)):=by rw [<-hwF];simpa [World.setCell] using heap_alloc_new (K.setCell ⟨a.heap.size,4,none⟩ (zc (some ⟨K.heap.size,0,none⟩) 2 2)) (Obj.cells #[I O H,I O a1,I O m1,.string x1,zc J i l,I O bf,I O a2,I O m2,.string x2,zc br L ad] 49)
  have dl:wF.heap[w.heap.size]? = some (Obj.cells #[I O 0,I O 0,I O 0,.string ⟨#[]⟩,zc none 0 0] 49 (0,0)):=by rw [<-hwF];exact Cj (Ap b3 (by simp;omega))
  have b8:St rb tv ts en n2 wF:=HX.out.keep az (by rw [<-hwF];exact Cj (Ap R.1 (by simp;omega))) R.2.1;have bo:∀ b,a.heap.size < b->b < K.heap.size->wF.heap[b]? = K.heap[b]?:=fun b g u=>by rw [<-hwF,Below.heap_alloc _ _ _ (by simpa [World.setCell] using u),Below.heap_setCell _ _ _ _ (by simp;omega)]
  have cf:∀ b,a.heap.size < b->b < x.heap.size->wF.heap[b]? = x.heap[b]?:=fun b g u=>by rw [bo b g (by omega),B.block b (show b < wD.heap.size by omega) (by simp;omega)];exact cl.out b g u
  have bc:=RE.mono (S':=fun b=>a.heap.size < b) (fun b hb _=>hb) (fun b g u=>cf b g u) f f _ _ (Nat.le_refl _) ck.out;have bb:=RE.mono (S':=fun b=>a.heap.size < b) (fun b (hb:wD.heap.size<=b) _=>show a.heap.size < b by omega) (fun b (g:wD.heap.size<=b) u=>bo b (by omega) u) f f _ _ (Nat.le_refl _) cd;have d0:=Aa (show RE (fun b=>a.heap.size < b) wF (f+1) [I O G,I O (Av ts en n),I O 0,.string ⟨#[]⟩,zc (some ⟨K.heap.size,0,none⟩) 2 2] (eD G (Av ts en n) 0 ⟨#[]⟩ [da,db]) from ⟨G,Av ts en n,0,⟨#[]⟩,_,[da,db],rfl,rfl,Oo b1 (show a.heap.size < K.heap.size by omega) bc bb⟩);clear hwF bc bb cf bo b1 R b3 bg bz a0 B cd ck cl ci ch cg ay c S bl af ae;have v:=Aa (LG rb tv ts en n2 ⟨#[41]⟩ wF b8 hcl);go_wp2_with fail;refine (v.out).mono ?_;rintro e wz ⟨rfl,cy⟩;unfold Ai;go_wp2_with fail;exact ⟨rfl,Ab az (Ad cy),rfl⟩
theorem O9 (rb:Nat) (tv:Value) (ts:List Tok) (hall:ts.all Ao=true) (en n f deep:Nat) (w:World) (h:St rb tv ts en n w) (hx2:¬ (Ag ts n).kind=2) (hm:isT ts n [45]=false) (hN:AN (Ag ts n)=false) (hd:deep < 60) (ho:isT ts n [40]=true)
  (HIH:Hid (∀ n w,St rb tv ts en n w->Calls Tryz.prog 133 #[zf (some ⟨rb,0,none⟩),I O ((deep:Int)+1)] w (Cx rb tv ts en f w (pE ts en f (deep+1) n)))) (da db:D) (n1 n2:Nat) (h1:pE ts en f (deep+1) (n+1)=.inl (da,n1)) (hop:¬ A0 (Ag ts n1).text.data.toList=0) (h2:pE ts en f (deep+1) (n1+1)=.inl (db,n2)) (hcl:isT ts n2 [41]=true) :
  Calls Tryz.prog 133 #[zf (some ⟨rb,0,none⟩),I O (deep:Int)] w (Cx rb tv ts en (f+1) w (.inl (eD (A0 (Ag ts n1).text.data.toList) (Av ts en n) 0 ⟨#[]⟩ [da,db],n2+1))):=by
 have hn:=CS ho (by simp);have aj:Below w.heap.size w (w.alloc (Obj.cells #[I O 0,I O 0,I O 0,.string ⟨#[]⟩,zc none 0 0] 49)):=(Below.refl _ w).alloc (Nat.le_refl _) _;have HH:=Aa (BL rb tv ts en n _ (h.below aj));have dx:=h.lt;have HX:=Aa h;go_enter Tryz.func133,Tryz.ntmps133;go_wp2_with fail;refine (HH.out).mono ?_;rintro e a ⟨rfl,g⟩;have bo:=Aw (heap_alloc_new w _) g;have d1:w.heap.size < a.heap.size:=(Array.getElem?_eq_some_iff.1 bo).1;have bu:Below w.heap.size w a:=aj.trans (g.mono aj.size);obtain ⟨w2,Q⟩:∃ w2,w2=a.alloc (Obj.cells #[I O 0,I O (Av ts en n),I O 0,.string ⟨#[]⟩,zc none 0 0] 49):=⟨_,rfl⟩;have ad:Below a.heap.size a w2:=by rw [Q];exact (Below.refl _ a).alloc (Nat.le_refl _) _
 have an:w2.heap[a.heap.size]? = some (Obj.cells #[I O 0,I O (Av ts en n),I O 0,.string ⟨#[]⟩,zc none 0 0] 49 (0,0)):=by rw [Q];exact heap_alloc_new a _
 have au:=Aw bo ad;have bt:Below w.heap.size w w2:=bu.trans (ad.mono bu.size);have Y:=h.below bt;have bd:=Ad (r:=some rb) bt;have hp:=Bj rb tv ts en n w2 Y;obtain ⟨kk,bq⟩:∃ y,y=(Ag ts n).kind:=⟨_,rfl⟩;obtain ⟨pp,cg⟩:∃ y,y=(Ag ts n).pos:=⟨_,rfl⟩;obtain ⟨tx,cd⟩:∃ y,y=(Ag ts n).text:=⟨_,rfl⟩;rw [<-bq,<-cg,<-cd] at hp;have bk:(kk == 2)=false:=by rw [bq];simpa using hx2
 unfold AG at hp;rw [Q] at hp;have HP:=Aa hp;have d2:=BA kk pp tx;clear hp bq cg cd HH aj g h bu;go_wp2_with fail;refine (HP.out).mono ?_;rintro e w3 ⟨rfl,ai⟩;rw [<-Q] at ai;clear HP Q bo ad bt hx2;have g1:=Ad (r:=some rb) ai;have X:=Y.below ai;have ar:=Ae au g1 (by omega);have am:=Ae an g1 (by omega);have bc:=Ab bd g1;clear g1 au an bd Y;clear ai;have x:=Aa (B4 rb tv ts en n ⟨#[45]⟩ _ X hm);go_wp2_with fail;refine (x.out).mono ?_;rintro e dm ⟨rfl,H⟩;clear x;have g2:=Ad (r:=some rb) H;have V:=X.below H;have aq:=Ae ar g2 (by omega);have al:=Ae am g2 (by omega);have bb:=Ab bc g2;clear g2 ar am bc X;clear H;have C:=BF rb tv ts en n _ V;rw [hN] at C;have x:=Aa C;clear C;go_wp2_with fail;refine (x.out).mono ?_;rintro e dl ⟨rfl,G⟩;clear x;have g3:=Ad (r:=some rb) G;have a3:=V.below G;have ap:=Ae aq g3 (by omega);have ak:=Ae al g3 (by omega);have ba:=Ab bb g3;clear g3 aq al bb V;clear G;clear hN hm;have x:=Aa (BT rb tv ts en n ⟨#[40]⟩ _ a3 ho hn);go_wp2_with fail;refine (x.out).mono ?_;rintro e dk ⟨rfl,ab,R⟩;clear x;have g4:=ab;have a0:=R;have ao:=Ae ap g4 (by omega);have N:=Ae ak g4 (by omega);have aa:=Ab ba g4;clear g4 ap ak ba a3;clear ab R;have C:=HIH.out (n+1) _ a0;rw [h1] at C;have x:=Aa C;clear C;go_wp2_with fail;refine (x.out).mono ?_;intro e A cf;clear x;obtain ⟨K,a1,m1,x1,L,j,u,rfl,ac,cm,U⟩:=Dh cf;have dp:w.heap.size<=A.heap.size:=by have:=aa.size;have:=ac.size;omega
 have bh:RE (fun b=>a.heap.size < b) A f [I O K,I O a1,I O m1,.string x1,zc L j u] da:=RE.mono (fun b hb _=>by have:=(Array.getElem?_eq_some_iff.1 N).1;omega) (fun _ _ _=>rfl) f f _ _ (Nat.le_refl _) cm;have cc:=Ae ao ac (by omega);have bn:=Ae N ac (by omega);have a9:=Ab aa ac;clear ao N aa a0 ac cf cm;obtain ⟨wB,P⟩:∃ wB,wB=A.alloc (Obj.cells #[I O K,I O a1,I O m1,.string x1,zc L j u] 49):=⟨_,rfl⟩;have l:Below A.heap.size A wB:=by rw [P];exact (Below.refl _ A).alloc (Nat.le_refl _) _
 have b4:wB.heap[A.heap.size]? = some (Obj.cells #[I O K,I O a1,I O m1,.string x1,zc L j u] 49 (0,0)):=by rw [P];exact heap_alloc_new A _
 have cb:=Aw cc l;have b7:=Aw bn l;have a8:=Ab a9 (Ad l);have az:=U.below l;have d0:a.heap.size < A.heap.size:=(Array.getElem?_eq_some_iff.1 bn).1;have dy:=U.lt;have de:n1 < ts.length:=Cm (DN _ hop);have C:=DX rb tv ts en n1 wB az hop;obtain ⟨B,Z⟩:∃ B,B=A0 (Ag ts n1).text.data.toList:=⟨_,rfl⟩;rw [<-Z] at C;have dj:=Aa Z;rw [P] at C;have x:=Aa C;clear C hop Z;go_wp2_with fail;refine (x.out).mono ?_;rintro e wC ⟨rfl,F,ay⟩;rw [<-P] at F;have ca:=Ae cb F (by omega);have bm:=Ae b7 F (by omega);have bi:=Ae b4 F (by omega);have a7:=Ab a8 F;have be:=Ab (Ad (r:=some rb) l) F;obtain ⟨e0,e1,e2,e3,e4,ef,el⟩:=De bm;obtain ⟨q0,q1,q2,q3,q4,qf,ql⟩:=De bi;have ag:(wC.setCell ⟨a.heap.size,0,none⟩ (I O B)).heap[a.heap.size]? = some (Obj.cells #[I O B,I O (Av ts en n),I O 0,.string ⟨#[]⟩,zc none 0 0] 49 (0,0)):=by simp [World.setCell,Array.getElem?_modify,bm]
 have bp:(wC.setCell ⟨a.heap.size,0,none⟩ (I O B)).heap[w.heap.size]? = _:=Ap ca (by simp;omega);have af:(wC.setCell ⟨a.heap.size,0,none⟩ (I O B)).heap[A.heap.size]? = _:=Ap bi (by simp;omega);have c:=Ak a7 (p:=⟨a.heap.size,0,none⟩) (by simp;omega) (I O B);have T:=HX.out.keep c (Ap ay.1 (by simp;omega)) de;have br:∀ b,a.heap.size < b->b < A.heap.size->(wC.setCell ⟨a.heap.size,0,none⟩ (I O B)).heap[b]? = A.heap[b]?:=fun b g i=>by rw [Below.heap_setCell _ _ _ _ (by simp;omega)];exact be.block b i (by simp;omega)
 clear be;clear x P l cc bn a9 cb b7 a8 az b4 ca bm bi ay F U;go_wp2_with fail;generalize wC.setCell ⟨a.heap.size,0,none⟩ (I O B)=wD at ag bp af c T br ⊢;have ct:=Aa br;clear br;clear e0 e1 e2 e3 e4 ef el q0 q1 q2 q3 q4 qf ql a7;obtain ⟨e0,e1,e2,e3,e4,ef,el⟩:=De ag;obtain ⟨q0,q1,q2,q3,q4,qf,ql⟩:=De af;have C:=fun W h=>HIH.out (n1+1) W h;rw [h2] at C;have x:=Aa C;clear C HIH h1 h2;have ax:St rb tv ts en (n1+1) wD.drew:=T;have cr:Hid (IntKind.i64.wrap ((deep:Int)+1)=(deep:Int)+1):=by show _=_;rw [IntKind.wrap_i64];omega
 have a4:w.grownBy wD.drew (some rb):=⟨c.os,c.tape,c.output,c.size,c.block⟩;have cp:=Aa (show wD.drew.heap[a.heap.size]? = _ from ag);have co:=Aa (show wD.drew.heap[A.heap.size]? = _ from af);have cq:=Aa (show wD.drew.heap[w.heap.size]? = _ from bp);have cs:=Aa bh;clear bh;have dq:A.heap.size < wD.heap.size:=ql;go_region_with (go_at_call 133;rw [cr.out];refine (x.out _ ?_).mono ?_;exact ax;intro e J ce;obtain ⟨bj,a2,m2,x2,bv,M,ae,rfl,E,cl,S⟩:=Dh ce;have bl:=Ae cp.out E (by omega);have b3:=Ae co.out E (by omega);obtain ⟨E0,E1,E2,E3,E4,EF,EL⟩:=De bl;obtain ⟨Q0,Q1,Q2,Q3,Q4,QF,QL⟩:=De b3);all_goals
  clear e0 e1 e2 e3 e4 ef q0 q1 q2 q3 q4 qf E0 E1 E2 E3 E4 EF Q0 Q1 Q2 Q3 Q4 QF ce x cr ax;have a6:=Ab a4 E;have d3:wD.heap.size<=J.heap.size:=E.size;have b9:=Ae cq.out E (by omega);generalize hwF:(J.setCell ⟨a.heap.size,4,none⟩ (zc (some ⟨J.heap.size,0,none⟩) 2 2)).alloc (Obj.cells #[I O K,I O a1,I O m1,.string x1,zc L j u,I O bj,I O a2,I O m2,.string x2,zc bv M ae] 49)=wF;have a5:w.grownBy wF (some rb):=by rw [<-hwF];exact DG (Ak a6 (by simp;omega) _) _
  have b6:wF.heap[a.heap.size]? = some (Obj.cells #[I O B,I O (Av ts en n),I O 0,.string ⟨#[]⟩,zc (some ⟨J.heap.size,0,none⟩) 2 2] 49 (0,0)):=by rw [<-hwF];exact Cj (by simp [World.setCell,Array.getElem?_modify,bl])
  have b5:wF.heap[J.heap.size]? = some (Obj.cells #[I O K,I O a1,I O m1,.string x1,zc L j u,I O bj,I O a2,I O m2,.string x2,zc bv M ae] 49 (0,0)):=by rw [<-hwF];simpa [World.setCell] using heap_alloc_new (J.setCell ⟨a.heap.size,4,none⟩ (zc (some ⟨J.heap.size,0,none⟩) 2 2)) (Obj.cells #[I O K,I O a1,I O m1,.string x1,zc L j u,I O bj,I O a2,I O m2,.string x2,zc bv M ae] 49)
  have b8:wF.heap[w.heap.size]? = some (Obj.cells #[I O 0,I O 0,I O 0,.string ⟨#[]⟩,zc none 0 0] 49 (0,0)):=by rw [<-hwF];exact Cj (Ap b9 (by simp;omega))
  have aw:St rb tv ts en n2 wF:=HX.out.keep a5 (by rw [<-hwF];exact Cj (Ap S.1 (by simp;omega))) S.2.1;have bs:∀ b,a.heap.size < b->b < J.heap.size->wF.heap[b]? = J.heap[b]?:=fun b g i=>by rw [<-hwF,Below.heap_alloc _ _ _ (by simpa [World.setCell] using i),Below.heap_setCell _ _ _ _ (by simp;omega)]
  have cn:∀ b,a.heap.size < b->b < A.heap.size->wF.heap[b]? = A.heap[b]?:=fun b g i=>by rw [bs b g (by omega),E.block b (show b < wD.heap.size by omega) (by simp;omega)];exact ct.out b g i
  have bg:=RE.mono (S':=fun b=>a.heap.size < b) (fun b hb _=>hb) (fun b g i=>cn b g i) f f _ _ (Nat.le_refl _) cs.out;have bf:=RE.mono (S':=fun b=>a.heap.size < b) (fun b (hb:wD.heap.size<=b) _=>show a.heap.size < b by omega) (fun b (g:wD.heap.size<=b) i=>bs b (by omega) i) f f _ _ (Nat.le_refl _) cl;have di:=Aa (show RE (fun b=>a.heap.size < b) wF (f+1) [I O B,I O (Av ts en n),I O 0,.string ⟨#[]⟩,zc (some ⟨J.heap.size,0,none⟩) 2 2] (eD B (Av ts en n) 0 ⟨#[]⟩ [da,db]) from ⟨B,Av ts en n,0,⟨#[]⟩,_,[da,db],rfl,rfl,Oo b5 (show a.heap.size < J.heap.size by omega) bg bf⟩);clear hwF bg bf cn bs b5 S b9 bl b3 a6 E cl cs ct cq cp co a4 c T bp ag af;have ci:=CS hcl (by simp);have x:=Aa (I9 rb tv ts en n2 ⟨#[41]⟩ wF aw hcl ci);go_wp2_with fail;refine (x.out).mono ?_;rintro e wY ⟨rfl,ah,av⟩;have cj:=Ab a5 ah;obtain ⟨p0,p1,p2,p3,p4,pf,pl⟩:=De (Ae b8 ah (by omega));obtain ⟨e0,e1,e2,e3,e4,ef,el⟩:=De (Ae b6 ah (by omega));have HR:=Aa av.1;clear b8 b6 aw av;go_wp2_with fail;refine bodyPost_ret (v:=zg #[I O B,I O (Av ts en n),I O 0,.string ⟨#[]⟩,zc (some ⟨J.heap.size,0,none⟩) 2 2]) (by simp [results,Tryz.results133,go_sem,p0,p1,p2,p3,p4]) rfl ?_;have ck:=Ak (Ak (Ak (Ak (Ak (cj) (p:=⟨w.heap.size,0,none⟩) (by simp) (I O B)) (p:=⟨w.heap.size,1,none⟩) (by simp) (I O (Av ts en n))) (p:=⟨w.heap.size,2,none⟩) (by simp) (I O 0)) (p:=⟨w.heap.size,3,none⟩) (by simp) (.string ⟨#[]⟩)) (p:=⟨w.heap.size,4,none⟩) (by simp) (zc (some ⟨J.heap.size,0,none⟩) 2 2);rw [<-dj.out];refine ⟨ck,[I O B,I O (Av ts en n),I O 0,.string ⟨#[]⟩,zc (some ⟨J.heap.size,0,none⟩) 2 2],rfl,RE.mono (fun b (hb:a.heap.size < b) _=>show w.heap.size<=b by omega) (fun b (g:a.heap.size < b) i=>?_) (f+1) (f+1) _ _ (Nat.le_refl _) di.out,HX.out.keep ck ?_ ci⟩
  ·rw [Below.heap_setCell _ _ _ _ (by simp;omega),Below.heap_setCell _ _ _ _ (by simp;omega),Below.heap_setCell _ _ _ _ (by simp;omega),Below.heap_setCell _ _ _ _ (by simp;omega),Below.heap_setCell _ _ _ _ (by simp;omega)];exact ah.block b i (by simp;omega)
  ·exact Ap (Ap (Ap (Ap (Ap (HR.out) (by simp;omega)) (by simp;omega)) (by simp;omega)) (by simp;omega)) (by simp;omega)
theorem N1 (rb:Nat) (tv:Value) (ts:List Tok) (hall:ts.all Ao=true) (en:Nat):∀ (f deep n:Nat) (w:World),61<=f+deep->deep<=60->St rb tv ts en n w ->
  Calls Tryz.prog 133 #[zf (some ⟨rb,0,none⟩),I O (deep:Int)] w (Cx rb tv ts en f w (pE ts en f deep n)):=by
 intro f
 induction f with
 | zero=>intro deep n w b c;omega
 | succ f ih=>
  intro deep n w r l h;by_cases hk:(Ag ts n).kind=2
  ·exact JQ rb tv ts hall en n f deep w h hk
  unfold pE;rw [if_neg hk]
  cases hm:isT ts n [45] with
  | true=>
   rw [if_pos rfl]
   cases hz:isT ts (n+1) [48] with
   | true=>exact Ga rb tv ts hall en n f deep w h hk hm hz
   | false=>
    rw [if_neg (by simp)];by_cases hq:(Ag ts (n+1)).kind=2
    ·rw [if_pos hq]
     exact Lk rb tv ts hall en n f deep w h hk hm hz hq
    ·rw [if_neg hq]
     exact Hi rb tv ts hall en n f deep w h hk hm hz hq
  | false=>
   rw [if_neg (by simp)]
   cases hN:AN (Ag ts n) with
   | true=>
    rw [if_pos rfl];exact MJ rb tv ts hall en n f deep w h hk hm hN
   | false=>
    rw [if_neg (by simp)];by_cases hd6:deep < 60
    ·cases ho:isT ts n [40] with
     | false=>
      rw [if_neg (by simp)];exact MI rb tv ts hall en n f deep w h hk hm hN hd6 ho
     | true=>
      rw [if_pos ⟨hd6,rfl⟩];have a:Hid (∀ n w,St rb tv ts en n w->Calls Tryz.prog 133 #[zf (some ⟨rb,0,none⟩),I O ((deep:Int)+1)] w (Cx rb tv ts en f w (pE ts en f (deep+1) n))):=
       Aa fun n w j=>by
        have:=ih (deep+1) n w (by omega) (by omega) j;rw [Int.natCast_add] at this;exact this
      cases b:pE ts en f (deep+1) (n+1) with
      | inr m=>exact Kx rb tv ts hall en n f deep w h hk hm hN hd6 ho a m b
      | inl p1=>
       obtain ⟨g,n1⟩:=p1;by_cases hop:A0 (Ag ts n1).text.data.toList=0
       ·simp only [if_pos hop]
        exact Ms rb tv ts hall en n f deep w h hk hm hN hd6 ho a g n1 b hop
       ·simp only [if_neg hop]
        cases c:pE ts en f (deep+1) (n1+1) with
        | inr m=>exact Kw rb tv ts hall en n f deep w h hk hm hN hd6 ho a g n1 m b hop c
        | inl p2=>
         obtain ⟨i,n2⟩:=p2
         cases hc:isT ts n2 [41] with
         | false=>
          simp only [hc,Bool.false_eq_true,if_false];exact IB rb tv ts hall en n f deep w h hk hm hN hd6 ho a g i n1 n2 b hop c hc
         | true=>
          simp only [hc,if_true];exact O9 rb tv ts hall en n f deep w h hk hm hN hd6 ho a g i n1 n2 b hop c hc
    ·rw [if_neg (by simp [hd6])]
     exact MK rb tv ts hall en n f deep w h hk hm hN hd6 l
end Go.Proofs.YtipngnjffjajpaaGreatDoor
namespace Go.Proofs.YtipngnjffjajpaaGreatDoor.Tx
open Go.RowKit
open Go.Value renaming int -> I, slice -> zc, bool -> zd, pointer -> zf, agg -> zg, tuple -> zi
open Go.IntKind renaming i64 -> O
open Go.Obj renaming cells -> ze
open Go.Ending renaming returned -> zh
theorem Aa {p:Prop} (h:p):Hx p:=h
abbrev Af (cs:List Value) (w:World) (b:Nat):Prop:=∀ (j:Nat) (u:Value),cs[j]? = some u->w.cell? ⟨b,j,none⟩=some u
theorem Af.over {cs:List Value} {w w':World} {b:Nat} (h:Af cs w b) (hb:Ov w w'):Af cs w' b:=fun j u hu=>ce1 hb (h j u hu)
theorem Ac {w0 w1 w2:World} (h:Ov w0 w1) (h2:Ov w1 w2):Ov w0 w2:=h.trans (h2.mono h.size)
theorem Ny {W W':World} {B e s:Nat} {v:Value} {k:Nat} {xs:List Value} (h:W.ownsRow B e s v k xs) (hb:Ov W W'):W'.ownsRow B e s v k xs:=by
 obtain ⟨l,a⟩:=h;refine ⟨l,?_⟩;rcases a with a | ⟨g,c,b,i,j,f,r⟩
 ·exact Or.inl a
 ·refine Or.inr ⟨g,c,b,i,j,?_,r⟩
  rw [hb.block g (Array.getElem?_eq_some_iff.1 f).1];exact f
theorem AO {W:World} {B e s:Nat} {v:Value} {k:Nat} {xs:List Value} (h:W.ownsRow B e s v k xs) {g:Nat} (hg:v.ownBlock=some g):B<=g/\g < W.heap.size:=by
 rcases h.2 with ⟨rfl,_⟩ | ⟨i,f,c,rfl,a,b,_⟩
 ·cases hg
 ·simp [Value.ownBlock] at hg
  subst hg;exact ⟨a,(Array.getElem?_eq_some_iff.1 b).1⟩
theorem NW {w:World} {r n j:Nat} {u:Value}:w.grownBy ((w.drewN n).setCell ⟨r,j,none⟩ u) (some r):=by
 have h:=Below.heap_setCell (w.drewN n) ⟨r,j,none⟩ u;refine ⟨rfl,rfl,rfl,by simp [World.setCell],fun k b a=>?_⟩;rw [h k (fun e=>a (by rw [e]))];rfl
theorem CV {w:World} {r j:Nat} {u:Value}:w.grownBy (w.setCell ⟨r,j,none⟩ u) (some r):=NW (n:=0)
theorem AP {w:World} {B e s:Nat} {v:Value} {n:Nat} {xs:List Value} (h:w.ownsRow B e s v n xs):∃ a n c,v=zc a n c:=by
 obtain ⟨r,⟨h,_⟩ | ⟨g,i,f,b,l,j⟩⟩:=h
 ·exact ⟨_,_,_,h⟩
 ·exact ⟨_,_,_,b⟩
theorem CY {W:World} {B e s n:Nat} {a:Option Addr} {k c:Nat} {xs:List Value} (h:W.ownsRow B e s (zc a k c) n xs):k=n:=by
 rcases h.2 with ⟨h,i⟩ | ⟨g,r,l,h,v,u,-⟩
 ·injection h with j f b
  omega
 ·injection h with j i b
theorem AV {ops:Array Oper} {o:Oper} {a:Act} {W:World} {K:Act->World->Prop} {Q:Exit->Act->World->Prop} {E:Prop} (hg:o.guard=none) (s x:Operand) (t:TypeId) (hop:o.op=Op.call { callee:=Callee.builtin Builtin.append,args:=#[s,x],argTypes:=#[t,t] }) (v u v':Value) (W':World) (hs:a.eval s=v) (hx:a.eval x=u)
  (hr:(Builtin.append_ #[t,t] o.type #[v,u]).run Tryz.prog W=.ok v' W') (h:K (a.put o.dst v') W'):if Region.wanted o (yielded ops a.tmps)=true then Oper.wp Tryz.prog o a W K Q else E:=by
 have hw:Region.wanted o (yielded ops a.tmps)=true:=by simp [Region.wanted,hg]
 rw [if_pos hw];unfold Oper.wp execOp;simp only [hop,resolve,invoke,builtin,Sem.run_bind,Sem.run_pure,Result.andThen_ok,List.map_toArray,List.map_cons,List.map_nil,hs,hx,hr];exact h
def Off (B:Nat) (g:Option Nat) (w:World) (P:World->Prop):Prop:=∀ W:World,(∀ k,B<=k->k < w.heap.size->some k≠g->W.heap[k]? = w.heap[k]?)->P W
section
variable {B B':Nat} {g:Option Nat} {w w':World} {P P':World->Prop} {v v':Value}
theorem Off.imp (h:Off B g w P) (f:∀ W,P W->P' W):Off B g w P':=fun W hW=>f W (h W hW)
theorem Off.over (h:Off B g w P) (hb:Ov w w'):Off B g w' P:=fun W hW=>h W fun k h1 h2 h3=>(hW k h1 (Nat.lt_of_lt_of_le h2 hb.size) h3).trans (hb.block k h2)
theorem Off.base (h:Off B g w P) (hb:B'<=B):Off B' g w P:=fun W hW=>h W fun k h1 h2 h3=>hW k (Nat.le_trans hb h1) h2 h3
theorem Off.row (h:Off B v.ownBlock w P) (hg:w.grownBy w' v.ownBlock) (hv:v'.ownBlock=v.ownBlock\/v'.ownBlock=some w.heap.size):Off B v'.ownBlock w' P:=fun W hW=>h W fun k h1 h2 h3=>
 (hW k h1 (Nat.lt_of_lt_of_le h2 hg.size) (by
  rcases hv with e | e
  ·rw [e];exact h3
  ·rw [e];intro q;injection q with q;omega)).trans (hg.block k h2 h3)
theorem Off.weak (h:Off B none w P) (hb:B'<=B) (hg:∀ k,g=some k->k < B):Off B' g w P:=fun W hW=>h W fun k h1 h2 _=>hW k (Nat.le_trans hb h1) h2 (fun e=>by have:=hg k e.symm;omega)
theorem Off.set {b j:Nat} {u:Value} (h:Off B g w P) (hb:b < B):Off B g (w.setCell ⟨b,j,none⟩ u) P:=fun W hW=>h W fun k h1 h2 h3=>
 (hW k h1 (by simpa [World.setCell] using h2) h3).trans ((CV (w:=w) (r:=b) (j:=j) (u:=u)).block k h2 (fun e=>by injection e with e;omega))
end
def Cop (B T s:Nat) (P:Nat->List Value->World->Prop) (n:Nat) (v:Value) (w:World):Prop:=
 ∃ xs,w.ownsRow B T s v n xs/\∀ i,i < n->∃ cs:List Value,cs.length=s/\(∀ j u,cs[j]? = some u->xs[i*s+j]? = some u)/\Off B v.ownBlock w (P i cs)
section
variable {B T s n:Nat} {P:Nat->List Value->World->Prop} {v v':Value} {w w' w2:World}
theorem Cop.nil:Cop B T s P 0 (zc none 0 0) w:=⟨[],World.ownsRow_nil w B T s,fun i hi=>absurd hi (Nat.not_lt_zero _)⟩
theorem Cop.over (h:Cop B T s P n v w) (hb:Ov w w'):Cop B T s P n v w':=by
 obtain ⟨a,b,f⟩:=h;refine ⟨a,Ny b hb,fun i c=>?_⟩;obtain ⟨r,l,j,g⟩:=f i c;exact ⟨r,l,j,g.over hb⟩
theorem Cop.set {b j:Nat} {u:Value} (h:Cop B T s P n v w) (hb:b < B):Cop B T s P n v (w.setCell ⟨b,j,none⟩ u):=by
 obtain ⟨c,a,g⟩:=h;refine ⟨c,a.kept CV (Or.inr (fun e=>by have:=(AO a e).1;omega)),fun i f=>?_⟩;obtain ⟨y,x,r,l⟩:=g i f;exact ⟨y,x,r,l.set hb⟩
theorem Cop.add {xs cs:List Value} {B1:Nat} (ho:w.ownsRow B T s v n xs) (he:∀ i,i < n->∃ cs:List Value,cs.length=s/\(∀ j u,cs[j]? = some u->xs[i*s+j]? = some u)/\Off B v.ownBlock w (P i cs))
  (hl:cs.length=s) (hn:Off B1 none w (P n cs)) (hB:B<=B1) (hrow:∀ k,v.ownBlock=some k->k < B1) (ho':w2.ownsRow B T s v' (n+1) (xs++cs)) (hg:w.grownBy w2 v.ownBlock) (hat:v'.ownBlock=v.ownBlock\/v'.ownBlock=some w.heap.size):Cop B T s P (n+1) v' w2:=by
 refine ⟨xs++cs,ho',fun i l=>?_⟩;by_cases h:i < n
 ·obtain ⟨g,f,c,b⟩:=he i h
  refine ⟨g,f,fun j u a=>?_,b.row hg hat⟩;have:=c j u a;rw [List.getElem?_append_left (List.getElem?_eq_some_iff.1 this).1];exact this
 ·obtain rfl:i=n:=by omega
  refine ⟨cs,hl,fun j u a=>?_,(hn.weak hB hrow).row hg hat⟩;rw [List.getElem?_append_right (by rw [ho.1];omega),ho.1,Nat.add_sub_cancel_left];exact a
theorem Cop.cells (h:Cop B T s P n v w) (hs:0 < s):∃ (a:Option Addr) (c:Nat),v=zc a n c/\Off B none w (fun W=>(n≠0->∃ b,a=some ⟨b,0,none⟩/\Fz0 W b 0/\∀ i,i < n->∃ cs:List Value,cs.length=s/\(∀ j u,cs[j]? = some u->W.cell? ⟨b,i*s+j,none⟩=some u)/\P i cs W)):=by
 obtain ⟨S,F,O⟩:=h;rcases F.2 with ⟨y,H⟩ | ⟨g,E,R,y,G,r,X,V,U,Q⟩
 ·exact ⟨none,0,by rw [y,H],fun W _ f=>absurd H f⟩
 ·refine ⟨some ⟨g,0,none⟩,E,y,fun W hW f=>⟨g,rfl,(Fz0.new r).of_block (hW g G (Array.getElem?_eq_some_iff.1 r).1 (by simp)),fun i N=>?_⟩⟩
  obtain ⟨cs,q1,J,I⟩:=O i N;refine ⟨cs,q1,fun j u M=>?_,I W fun k L K _=>hW k L K (by simp)⟩;have C:g < w.heap.size:=(Array.getElem?_eq_some_iff.1 r).1;have x:=J j u M;have l:W.heap[g]? = w.heap[g]?:=hW g G C (by simp);rw [World.cell?_of_block (a:=⟨g,i*s+j,none⟩) l,Lib.cell_of_heap r];have A:i*s+j < n*s:=by rw [<-F.1];exact (List.getElem?_eq_some_iff.1 x).1
  rw [<-Q,List.getElem?_take,if_pos A] at x;simpa using x
end
section
variable {B rb:Nat} {g:Option Nat} {w w':World} {P:World->Prop}
theorem Off.keep (h:Off B g w P) (hg:w.grownBy w' (some rb)) (hb:rb < B):Off B g w' P:=fun W hW=>h W fun k h1 h2 h3=>(hW k h1 (Nat.lt_of_lt_of_le h2 hg.size) h3).trans (hg.block k h2 (fun e=>by injection e with e;omega))
theorem Cop.keep {T s n:Nat} {P:Nat->List Value->World->Prop} {v:Value} (h:Cop B T s P n v w) (hg:w.grownBy w' (some rb)) (hb:rb < B):Cop B T s P n v w':=by
 obtain ⟨b,a,f⟩:=h;refine ⟨b,a.kept hg (Or.inr (fun e=>by have:=(AO a e).1;omega)),fun i c=>?_⟩;obtain ⟨r,l,j,g⟩:=f i c;exact ⟨r,l,j,g.keep hg hb⟩
end
end Go.Proofs.YtipngnjffjajpaaGreatDoor.Tx
