/- The reader of package tree reads an expression. -/
import Derived.Test.YtipngnjffjajpaaGreatDoorK04
import Derived.Deep.RegionWith
import Derived.Maps.AppendAt
set_option linter.unusedVariables false
set_option maxHeartbeats 8000000
set_option maxRecDepth 100000
namespace Go.Proofs.YtipngnjffjajpaaGreatDoor
open Go.RowKit
open Go.Value renaming int -> O, slice -> zd, bool -> ze, agg -> zf, pointer -> zh, tuple -> zj
open Go.IntKind renaming i64 -> zc
open Go.Obj renaming cells -> zg
open Go.Ending renaming returned -> zi
theorem MV {ts:List Tok} {en f deep n:Nat} (h:(Ag ts n).kind=2):pE ts en (f+1) deep n=.inl (eD 1 (Al ts en n) (Dm (Ag ts n).text.data.toList) ⟨#[]⟩ [],n+1):=by
 simp only [pE,h,if_true]
theorem Kr (rb:Nat) (tv:Value) (ts:List Tok) (hall:ts.all Ai=true) (en n f deep:Nat) (w:World) (h:St rb tv ts en n w) (hx:(Ag ts n).kind=2) :
  Calls Tryz.prog 133 #[zh (some ⟨rb,0,none⟩),O zc (deep:Int)] w (CC rb tv ts en (f+1) w (pE ts en (f+1) deep n)):=by
 rw [MV hx];have hal:Below w.heap.size w (w.alloc (Obj.cells #[O zc 0,O zc 0,O zc 0,.string ⟨#[]⟩,zd none 0 0] 49)):=(Below.refl _ w).alloc (Nat.le_refl _) _;have K:=h.below hal;have U:=Aa (BT rb tv ts en n _ K);go_enter Tryz.func133,Tryz.ntmps133;go_wp2_with fail;refine (U.out).mono ?_;rintro e c ⟨rfl,j⟩;have R:=K.below j;have B:c.heap[w.heap.size]? = some (Obj.cells #[O zc 0,O zc 0,O zc 0,.string ⟨#[]⟩,zd none 0 0] 49 (0,0)):=Au (heap_alloc_new w _) j;have y:Below w.heap.size w c:=hal.trans (j.mono hal.size);clear hal K j U;obtain ⟨A,g⟩:∃ A,A=c.alloc (Obj.cells #[O zc 0,O zc (Al ts en n),O zc 0,.string ⟨#[]⟩,zd none 0 0] 49):=⟨_,rfl⟩;have a:Below c.heap.size c A:=by rw [g];exact (Below.refl _ c).alloc (Nat.le_refl _) _
 have J:=R.below a;have k1:A.heap[c.heap.size]? = some (Obj.cells #[O zc 0,O zc (Al ts en n),O zc 0,.string ⟨#[]⟩,zd none 0 0] 49 (0,0)):=by rw [g];exact heap_alloc_new c _
 have E:=Au B a;have x:Below w.heap.size w A:=y.trans (a.mono y.size);have F:=Bk rb tv ts en n A J;rw [hx] at F;unfold AC at F;rw [g] at F;have S:=Aa F;have ad:=BL 2 (Ag ts n).pos (Ag ts n).text;obtain ⟨N,aa⟩:∃ N,N=Al ts en n:=⟨_,rfl⟩;clear F;go_wp2_with fail;refine (S.out).mono ?_;rintro e M ⟨rfl,b⟩;rw [<-g] at b;have Q:=J.below b;have H:Below w.heap.size w M:=x.trans (b.mono x.size);have l:=Au E b;have C:=Au k1 b;have T:=Aa (G6 rb tv ts hall en n M Q hx);have ac:w.heap.size < c.heap.size:=(Array.getElem?_eq_some_iff.1 B).1;have Z:=h.lt;clear S g J E k1 x a R B y b Q;go_wp2_with fail;refine (T.out).mono ?_;rintro e V ⟨rfl,i,P⟩;have B:=Af l i (by omega);have k1:=Af C i (by omega);obtain ⟨p0,p1,Y,X,W,pf,pl⟩:=Dv B;obtain ⟨e0,e1,e2,e3,e4,ef,el⟩:=Dv k1;have I:w.grownBy V (some rb):=Ac (Ae H) i;have hn:=Gd hx;have HR:=Aa P.1;obtain ⟨r,u⟩:∃ r,r=(Dm (Ag ts n).text.data.toList:Int):=⟨_,rfl⟩;rw [<-u];have HX:=Aa h;have L:=Aa u;clear T l C H i P B k1 h u;go_wp2_with fail;refine bodyPost_ret (v:=zf #[O zc 1,O zc (Al ts en n),O zc r,.string ⟨#[]⟩,zd none 0 0]) (by simp [results,Tryz.results133,go_sem,p0,p1,Y,X,W]) rfl ?_;have G:=Aj (Aj (Aj (Aj (Aj (Aj (Aj I (p:=⟨c.heap.size,0,none⟩) (by simp;omega) (O zc 1)) (p:=⟨c.heap.size,2,none⟩) (by simp;omega) (O zc r)) (p:=⟨w.heap.size,0,none⟩) (by simp) (O zc 1)) (p:=⟨w.heap.size,1,none⟩) (by simp) (O zc (Al ts en n))) (p:=⟨w.heap.size,2,none⟩) (by simp) (O zc r)) (p:=⟨w.heap.size,3,none⟩) (by simp) (.string ⟨#[]⟩)) (p:=⟨w.heap.size,4,none⟩) (by simp) (zd none 0 0);refine ⟨G,[O zc 1,O zc (Al ts en n),O zc r,.string ⟨#[]⟩,zd none 0 0],rfl,?_,HX.out.keep G ?_ hn⟩
 ·exact ⟨1,Al ts en n,r,⟨#[]⟩,zd none 0 0,[],rfl,by rw [L.out],RS.nil _ _ _ _ _ _⟩
 ·exact Am (Am (Am (Am (Am (Am (Am HR.out (by simp;omega)) (by simp;omega)) (by simp;omega)) (by simp;omega)) (by simp;omega)) (by simp;omega)) (by simp;omega)
theorem RS.form {S:Nat->Prop} {size:Nat} {R:List Value->D->Prop} {w:World} {v:Value} {ds:List D} (h:RS S size R w v ds):∃ ao cap,v=zd ao ds.length cap:=by
 obtain ⟨ao,cap,a,_⟩:=h;exact ⟨ao,cap,a⟩
theorem RE.form {S:Nat->Prop} {w:World} {k:Nat} {cs:List Value} {d:D} (h:RE S w k cs d):∃ (kd a n:Int) (x:ByteArray) (ao:Option Addr) (len cap:Nat),cs=[O zc kd,O zc a,O zc n,.string x,zd ao len cap]:=by
 cases k with
 | zero=>exact h.elim
 | succ k=>
  obtain ⟨kd,a,n,x,v,f,b,c,hr⟩:=h;obtain ⟨ao,cap,rfl⟩:=hr.form;exact ⟨kd,a,n,x,ao,_,cap,b⟩
theorem Dy {rb:Nat} {tv:Value} {ts:List Tok} {en k n:Nat} {w w':World} {d:D} {e:Ending} (h:CC rb tv ts en k w (.inl (d,n)) e w') :
  ∃ (kd a m:Int) (x:ByteArray) (ao:Option Addr) (len cap:Nat),e=zi (zf #[O zc kd,O zc a,O zc m,.string x,zd ao len cap])/\w.grownBy w' (some rb) /\
   RE (fun b=>w.heap.size<=b) w' k [O zc kd,O zc a,O zc m,.string x,zd ao len cap] d/\St rb tv ts en n w':=by
 obtain ⟨f,i,g,hr,c⟩:=h;obtain ⟨kd,a,m,x,ao,len,cap,rfl⟩:=hr.form;exact ⟨kd,a,m,x,ao,len,cap,g,f,hr,c⟩
theorem F8 {rb:Nat} {tv:Value} {ts:List Tok} {en k m:Nat} {w w':World} {e:Ending} (h:CC rb tv ts en k w (.inr m) e w'):e=Ah (Al ts en m)/\w.grownBy w' (some rb):=⟨h.2,h.1⟩
theorem Pj {S:Nat->Prop} {R:List Value->D->Prop} {w:World} {g T:Nat} {c0 c1 c2 c3 c4 c5 c6 c7 c8 c9:Value} {da db:D}
  (hk:w.heap[g]? = some (Obj.cells #[c0,c1,c2,c3,c4,c5,c6,c7,c8,c9] T (0,0))) (hS:S g) (hA:R [c0,c1,c2,c3,c4] da) (hB:R [c5,c6,c7,c8,c9] db) :
  RS S 5 R w (zd (some ⟨g,0,none⟩) 2 2) [da,db]:=by
 refine ⟨_,2,rfl,fun _=>⟨g,0,rfl,hS,Fz0.new hk,fun i d b=>?_⟩⟩;rcases i with _ | _ | i
 ·obtain rfl:da=d:=by simpa using b
  refine ⟨_,rfl,fun j u a=>?_,hA⟩;rw [Lib.cell_of_heap hk];rcases j with _ | _ | _ | _ | _ | j <;> simp at a ⊢ <;> exact a
 ·obtain rfl:db=d:=by simpa using b
  refine ⟨_,rfl,fun j u a=>?_,hB⟩;rw [Lib.cell_of_heap hk];rcases j with _ | _ | _ | _ | _ | j <;> simp at a ⊢ <;> exact a
 ·simp at b
theorem Lz (rb:Nat) (tv:Value) (ts:List Tok) (hall:ts.all Ai=true) (en n f deep:Nat) (w:World) (h:St rb tv ts en n w) (hx2:¬ (Ag ts n).kind=2) (hm:isT ts n [45]=false) (hN:AJ (Ag ts n)=false) (hd:deep < 60) (ho:isT ts n [40]=true)
  (HIH:Hid (∀ n w,St rb tv ts en n w->Calls Tryz.prog 133 #[zh (some ⟨rb,0,none⟩),O zc ((deep:Int)+1)] w (CC rb tv ts en f w (pE ts en f (deep+1) n)))) (m:Nat) (h1:pE ts en f (deep+1) (n+1)=.inr m) :
  Calls Tryz.prog 133 #[zh (some ⟨rb,0,none⟩),O zc (deep:Int)] w (CC rb tv ts en (f+1) w (.inr m)):=by
 have hn:=Cf ho (by simp);have hal:Below w.heap.size w (w.alloc (Obj.cells #[O zc 0,O zc 0,O zc 0,.string ⟨#[]⟩,zd none 0 0] 49)):=(Below.refl _ w).alloc (Nat.le_refl _) _;have HH:=Aa (BT rb tv ts en n _ (h.below hal));have au:=h.lt;have HX:=Aa h;go_enter Tryz.func133,Tryz.ntmps133;go_wp2_with fail;refine (HH.out).mono ?_;rintro e B ⟨rfl,U⟩;have R:=Au (heap_alloc_new w _) U;have aw:w.heap.size < B.heap.size:=(Array.getElem?_eq_some_iff.1 R).1;have W:Below w.heap.size w B:=hal.trans (U.mono hal.size);obtain ⟨X,c⟩:∃ X,X=B.alloc (Obj.cells #[O zc 0,O zc (Al ts en n),O zc 0,.string ⟨#[]⟩,zd none 0 0] 49):=⟨_,rfl⟩;have v:Below B.heap.size B X:=by rw [c];exact (Below.refl _ B).alloc (Nat.le_refl _) _
 have G:X.heap[B.heap.size]? = some (Obj.cells #[O zc 0,O zc (Al ts en n),O zc 0,.string ⟨#[]⟩,zd none 0 0] 49 (0,0)):=by rw [c];exact heap_alloc_new B _
 have K:=Au R v;have V:Below w.heap.size w X:=W.trans (v.mono W.size);have l:=h.below V;have Q:=Ae (r:=some rb) V;have hp:=Bk rb tv ts en n X l;obtain ⟨kk,S⟩:∃ y,y=(Ag ts n).kind:=⟨_,rfl⟩;obtain ⟨pp,aa⟩:∃ y,y=(Ag ts n).pos:=⟨_,rfl⟩;obtain ⟨tx,Y⟩:∃ y,y=(Ag ts n).text:=⟨_,rfl⟩;rw [<-S,<-aa,<-Y] at hp;have bk:(kk == 2)=false:=by rw [S];simpa using hx2
 unfold AC at hp;rw [c] at hp;have HP:=Aa hp;have ax:=BL kk pp tx;clear hp S aa Y HH hal U h W;go_wp2_with fail;refine (HP.out).mono ?_;rintro e w3 ⟨rfl,A⟩;rw [<-c] at A;clear HP c R v V hx2;have g1:=Ae (r:=some rb) A;have j:=l.below A;have J:=Af K g1 (by omega);have F:=Af G g1 (by omega);have P:=Ac Q g1;clear g1 K G Q l;clear A;have x:=Aa (B5 rb tv ts en n ⟨#[45]⟩ _ j hm);go_wp2_with fail;refine (x.out).mono ?_;rintro e al ⟨rfl,b⟩;clear x;have g2:=Ae (r:=some rb) b;have i:=j.below b;have I:=Af J g2 (by omega);have E:=Af F g2 (by omega);have N:=Ac P g2;clear g2 J F P j;clear b;have T:=BR rb tv ts en n _ i;rw [hN] at T;have x:=Aa T;clear T;go_wp2_with fail;refine (x.out).mono ?_;rintro e ak ⟨rfl,a⟩;clear x;have g3:=Ae (r:=some rb) a;have L:=i.below a;have H:=Af I g3 (by omega);have C:=Af E g3 (by omega);have M:=Ac N g3;clear g3 I E N i;clear a;clear hN hm;have x:=Aa (BX rb tv ts en n ⟨#[40]⟩ _ L ho hn);go_wp2_with fail;refine (x.out).mono ?_;rintro e aj ⟨rfl,u,g⟩;clear x;have g4:=u;have Z:=g;have ao:=Af H g4 (by omega);have an:=Af C g4 (by omega);have ac:=Ac M g4;clear g4 H C M L;clear u g;have T:=HIH.out (n+1) _ Z;rw [h1] at T;have x:=Aa T;clear T;go_wp2_with fail;refine (x.out).mono ?_;intro e wA ah;clear x;obtain ⟨rfl,ai⟩:=F8 ah;unfold Ah;go_wp2_with fail;exact ⟨rfl,Ac ac ai,rfl⟩
theorem MX (rb:Nat) (tv:Value) (ts:List Tok) (hall:ts.all Ai=true) (en n f deep:Nat) (w:World) (h:St rb tv ts en n w) (hx2:¬ (Ag ts n).kind=2) (hm:isT ts n [45]=false) (hN:AJ (Ag ts n)=false) (hd:deep < 60) (ho:isT ts n [40]=true)
  (HIH:Hid (∀ n w,St rb tv ts en n w->Calls Tryz.prog 133 #[zh (some ⟨rb,0,none⟩),O zc ((deep:Int)+1)] w (CC rb tv ts en f w (pE ts en f (deep+1) n)))) (da:D) (n1:Nat) (h1:pE ts en f (deep+1) (n+1)=.inl (da,n1)) (hop:A0 (Ag ts n1).text.data.toList=0) :
  Calls Tryz.prog 133 #[zh (some ⟨rb,0,none⟩),O zc (deep:Int)] w (CC rb tv ts en (f+1) w (.inr n1)):=by
 have hn:=Cf ho (by simp);have hal:Below w.heap.size w (w.alloc (Obj.cells #[O zc 0,O zc 0,O zc 0,.string ⟨#[]⟩,zd none 0 0] 49)):=(Below.refl _ w).alloc (Nat.le_refl _) _;have HH:=Aa (BT rb tv ts en n _ (h.below hal));have bj:=h.lt;have HX:=Aa h;go_enter Tryz.func133,Tryz.ntmps133;go_wp2_with fail;refine (HH.out).mono ?_;rintro e J ⟨rfl,ah⟩;have af:=Au (heap_alloc_new w _) ah;have bo:w.heap.size < J.heap.size:=(Array.getElem?_eq_some_iff.1 af).1;have aj:Below w.heap.size w J:=hal.trans (ah.mono hal.size);obtain ⟨w2,u⟩:∃ w2,w2=J.alloc (Obj.cells #[O zc 0,O zc (Al ts en n),O zc 0,.string ⟨#[]⟩,zd none 0 0] 49):=⟨_,rfl⟩;have H:Below J.heap.size J w2:=by rw [u];exact (Below.refl _ J).alloc (Nat.le_refl _) _
 have R:w2.heap[J.heap.size]? = some (Obj.cells #[O zc 0,O zc (Al ts en n),O zc 0,.string ⟨#[]⟩,zd none 0 0] 49 (0,0)):=by rw [u];exact heap_alloc_new J _
 have W:=Au af H;have ai:Below w.heap.size w w2:=aj.trans (H.mono aj.size);have B:=h.below ai;have ad:=Ae (r:=some rb) ai;have hp:=Bk rb tv ts en n w2 B;obtain ⟨kk,ag⟩:∃ y,y=(Ag ts n).kind:=⟨_,rfl⟩;obtain ⟨pp,ar⟩:∃ y,y=(Ag ts n).pos:=⟨_,rfl⟩;obtain ⟨tx,ao⟩:∃ y,y=(Ag ts n).text:=⟨_,rfl⟩;rw [<-ag,<-ar,<-ao] at hp;have bk:(kk == 2)=false:=by rw [ag];simpa using hx2
 unfold AC at hp;rw [u] at hp;have HP:=Aa hp;have bp:=BL kk pp tx;clear hp ag ar ao HH hal ah h aj;go_wp2_with fail;refine (HP.out).mono ?_;rintro e w3 ⟨rfl,M⟩;rw [<-u] at M;clear HP u af H ai hx2;have g1:=Ae (r:=some rb) M;have A:=B.below M;have V:=Af W g1 (by omega);have Q:=Af R g1 (by omega);have ac:=Ac ad g1;clear g1 W R ad B;clear M;have i:=Aa (B5 rb tv ts en n ⟨#[45]⟩ _ A hm);go_wp2_with fail;refine (i.out).mono ?_;rintro e a9 ⟨rfl,c⟩;clear i;have g2:=Ae (r:=some rb) c;have x:=A.below c;have U:=Af V g2 (by omega);have P:=Af Q g2 (by omega);have ab:=Ac ac g2;clear g2 V Q ac A;clear c;have G:=BR rb tv ts en n _ x;rw [hN] at G;have i:=Aa G;clear G;go_wp2_with fail;refine (i.out).mono ?_;rintro e a8 ⟨rfl,a⟩;clear i;have g3:=Ae (r:=some rb) a;have Z:=x.below a;have T:=Af U g3 (by omega);have N:=Af P g3 (by omega);have aa:=Ac ab g3;clear g3 U P ab x;clear a;clear hN hm;have i:=Aa (BX rb tv ts en n ⟨#[40]⟩ _ Z ho hn);go_wp2_with fail;refine (i.out).mono ?_;rintro e a7 ⟨rfl,E,v⟩;clear i;have g4:=E;have Y:=v;have S:=Af T g4 (by omega);have l:=Af N g4 (by omega);have C:=Ac aa g4;clear g4 T N aa Z;clear E v;have G:=HIH.out (n+1) _ Y;rw [h1] at G;have i:=Aa G;clear G;go_wp2_with fail;refine (i.out).mono ?_;intro e K aq;clear i;obtain ⟨ae,a1,m1,x1,ak,j,I,rfl,F,ay,X⟩:=Dy aq;have bb:w.heap.size<=K.heap.size:=by have:=C.size;have:=F.size;omega
 have bc:RE (fun b=>J.heap.size < b) K f [O zc ae,O zc a1,O zc m1,.string x1,zd ak j I] da:=RE.mono (fun b hb _=>by have:=(Array.getElem?_eq_some_iff.1 l).1;omega) (fun _ _ _=>rfl) f f _ _ (Nat.le_refl _) ay;have a5:=Af S F (by omega);have an:=Af l F (by omega);have aw:=Ac C F;clear S l C Y F aq ay;obtain ⟨wB,L⟩:∃ wB,wB=K.alloc (Obj.cells #[O zc ae,O zc a1,O zc m1,.string x1,zd ak j I] 49):=⟨_,rfl⟩;have g:Below K.heap.size K wB:=by rw [L];exact (Below.refl _ K).alloc (Nat.le_refl _) _
 have bg:wB.heap[K.heap.size]? = some (Obj.cells #[O zc ae,O zc a1,O zc m1,.string x1,zd ak j I] 49 (0,0)):=by rw [L];exact heap_alloc_new K _
 have bi:=Au a5 g;have bh:=Au an g;have av:=Ac aw (Ae g);have ap:=X.below g;have bn:J.heap.size < K.heap.size:=(Array.getElem?_eq_some_iff.1 an).1;have bl:=X.lt;have G:=J8 rb tv ts en n1 wB ap hop;rw [L] at G;have i:=Aa G;clear G;go_wp2_with fail;refine (i.out).mono ?_;rintro e wz ⟨rfl,ax⟩;rw [<-L] at ax;unfold Ah;go_wp2_with fail;exact ⟨rfl,Ac av (Ae ax),rfl⟩
theorem Ly (rb:Nat) (tv:Value) (ts:List Tok) (hall:ts.all Ai=true) (en n f deep:Nat) (w:World) (h:St rb tv ts en n w) (hx2:¬ (Ag ts n).kind=2) (hm:isT ts n [45]=false) (hN:AJ (Ag ts n)=false) (hd:deep < 60) (ho:isT ts n [40]=true)
  (HIH:Hid (∀ n w,St rb tv ts en n w->Calls Tryz.prog 133 #[zh (some ⟨rb,0,none⟩),O zc ((deep:Int)+1)] w (CC rb tv ts en f w (pE ts en f (deep+1) n)))) (da:D) (n1 m:Nat) (h1:pE ts en f (deep+1) (n+1)=.inl (da,n1)) (hop:¬ A0 (Ag ts n1).text.data.toList=0) (h2:pE ts en f (deep+1) (n1+1)=.inr m) :
  Calls Tryz.prog 133 #[zh (some ⟨rb,0,none⟩),O zc (deep:Int)] w (CC rb tv ts en (f+1) w (.inr m)):=by
 have hn:=Cf ho (by simp);have hal:Below w.heap.size w (w.alloc (Obj.cells #[O zc 0,O zc 0,O zc 0,.string ⟨#[]⟩,zd none 0 0] 49)):=(Below.refl _ w).alloc (Nat.le_refl _) _;have HH:=Aa (BT rb tv ts en n _ (h.below hal));have cr:=h.lt;have HX:=Aa h;go_enter Tryz.func133,Tryz.ntmps133;go_wp2_with fail;refine (HH.out).mono ?_;rintro e g ⟨rfl,X⟩;have a5:=Au (heap_alloc_new w _) X;have cv:w.heap.size < g.heap.size:=(Array.getElem?_eq_some_iff.1 a5).1;have bc:Below w.heap.size w g:=hal.trans (X.mono hal.size);obtain ⟨w2,G⟩:∃ w2,w2=g.alloc (Obj.cells #[O zc 0,O zc (Al ts en n),O zc 0,.string ⟨#[]⟩,zd none 0 0] 49):=⟨_,rfl⟩;have S:Below g.heap.size g w2:=by rw [G];exact (Below.refl _ g).alloc (Nat.le_refl _) _
 have ab:w2.heap[g.heap.size]? = some (Obj.cells #[O zc 0,O zc (Al ts en n),O zc 0,.string ⟨#[]⟩,zd none 0 0] 49 (0,0)):=by rw [G];exact heap_alloc_new g _
 have ag:=Au a5 S;have bb:Below w.heap.size w w2:=bc.trans (S.mono bc.size);have M:=h.below bb;have aw:=Ae (r:=some rb) bb;have hp:=Bk rb tv ts en n w2 M;obtain ⟨kk,a7⟩:∃ y,y=(Ag ts n).kind:=⟨_,rfl⟩;obtain ⟨pp,br⟩:∃ y,y=(Ag ts n).pos:=⟨_,rfl⟩;obtain ⟨tx,bp⟩:∃ y,y=(Ag ts n).text:=⟨_,rfl⟩;rw [<-a7,<-br,<-bp] at hp;have bk:(kk == 2)=false:=by rw [a7];simpa using hx2
 unfold AC at hp;rw [G] at hp;have HP:=Aa hp;have cw:=BL kk pp tx;clear hp a7 br bp HH hal X h bc;go_wp2_with fail;refine (HP.out).mono ?_;rintro e w3 ⟨rfl,V⟩;rw [<-G] at V;clear HP G a5 S bb hx2;have g1:=Ae (r:=some rb) V;have L:=M.below V;have af:=Af ag g1 (by omega);have aa:=Af ab g1 (by omega);have av:=Ac aw g1;clear g1 ag ab aw M;clear V;have j:=Aa (B5 rb tv ts en n ⟨#[45]⟩ _ L hm);go_wp2_with fail;refine (j.out).mono ?_;rintro e b8 ⟨rfl,A⟩;clear j;have g2:=Ae (r:=some rb) A;have J:=L.below A;have ae:=Af af g2 (by omega);have Z:=Af aa g2 (by omega);have au:=Ac av g2;clear g2 af aa av L;clear A;have l:=BR rb tv ts en n _ J;rw [hN] at l;have j:=Aa l;clear l;go_wp2_with fail;refine (j.out).mono ?_;rintro e b7 ⟨rfl,x⟩;clear j;have g3:=Ae (r:=some rb) x;have am:=J.below x;have ad:=Af ae g3 (by omega);have Y:=Af Z g3 (by omega);have ar:=Ac au g3;clear g3 ae Z au J;clear x;clear hN hm;have j:=Aa (BX rb tv ts en n ⟨#[40]⟩ _ am ho hn);go_wp2_with fail;refine (j.out).mono ?_;rintro e b6 ⟨rfl,Q,H⟩;clear j;have g4:=Q;have al:=H;have ac:=Af ad g4 (by omega);have E:=Af Y g4 (by omega);have P:=Ac ar g4;clear g4 ad Y ar am;clear Q H;have l:=HIH.out (n+1) _ al;rw [h1] at l;have j:=Aa l;clear l;go_wp2_with fail;refine (j.out).mono ?_;intro e B bq;clear j;obtain ⟨a0,a1,m1,x1,bd,C,T,rfl,R,bt,I⟩:=Dy bq;have cf:w.heap.size<=B.heap.size:=by have:=P.size;have:=R.size;omega
 have cg:RE (fun b=>g.heap.size < b) B f [O zc a0,O zc a1,O zc m1,.string x1,zd bd C T] da:=RE.mono (fun b hb _=>by have:=(Array.getElem?_eq_some_iff.1 E).1;omega) (fun _ _ _=>rfl) f f _ _ (Nat.le_refl _) bt;have bo:=Af ac R (by omega);have a4:=Af E R (by omega);have aq:=Ac P R;clear ac E P al R bq bt;obtain ⟨wB,F⟩:∃ wB,wB=B.alloc (Obj.cells #[O zc a0,O zc a1,O zc m1,.string x1,zd bd C T] 49):=⟨_,rfl⟩;have c:Below B.heap.size B wB:=by rw [F];exact (Below.refl _ B).alloc (Nat.le_refl _) _
 have bi:wB.heap[B.heap.size]? = some (Obj.cells #[O zc a0,O zc a1,O zc m1,.string x1,zd bd C T] 49 (0,0)):=by rw [F];exact heap_alloc_new B _
 have bn:=Au bo c;have bj:=Au a4 c;have ap:=Ac aq (Ae c);have ak:=I.below c;have cu:g.heap.size < B.heap.size:=(Array.getElem?_eq_some_iff.1 a4).1;have cs:=I.lt;have b3:n1 < ts.length:=Cj (D7 _ hop);have l:=Eg rb tv ts en n1 wB ak hop;obtain ⟨U,N⟩:∃ U,U=A0 (Ag ts n1).text.data.toList:=⟨_,rfl⟩;rw [<-N] at l;have c1:=Aa N;rw [F] at l;have j:=Aa l;clear l hop N;go_wp2_with fail;refine (j.out).mono ?_;rintro e wC ⟨rfl,u,aj⟩;rw [<-F] at u;have bm:=Af bn u (by omega);have a3:=Af bj u (by omega);have az:=Af bi u (by omega);have ao:=Ac ap u;have ax:=Ac (Ae (r:=some rb) c) u;obtain ⟨e0,e1,e2,e3,e4,ef,el⟩:=Dv a3;obtain ⟨q0,q1,q2,q3,q4,qf,ql⟩:=Dv az;have a2:(wC.setCell ⟨g.heap.size,0,none⟩ (O zc U)).heap[g.heap.size]? = some (Obj.cells #[O zc U,O zc (Al ts en n),O zc 0,.string ⟨#[]⟩,zd none 0 0] 49 (0,0)):=by simp [World.setCell,Array.getElem?_modify,a3]
 have bl:(wC.setCell ⟨g.heap.size,0,none⟩ (O zc U)).heap[w.heap.size]? = _:=Am bm (by simp;omega);have ay:(wC.setCell ⟨g.heap.size,0,none⟩ (O zc U)).heap[B.heap.size]? = _:=Am az (by simp;omega);have a:=Aj ao (p:=⟨g.heap.size,0,none⟩) (by simp;omega) (O zc U);have ai:=HX.out.keep a (Am aj.1 (by simp;omega)) b3;have ba:∀ b,g.heap.size < b->b < B.heap.size->(wC.setCell ⟨g.heap.size,0,none⟩ (O zc U)).heap[b]? = B.heap[b]?:=fun b X b4=>by rw [Below.heap_setCell _ _ _ _ (by simp;omega)];exact ax.block b b4 (by simp;omega)
 clear ax;clear j F c bo a4 aq bn bj ap ak bi bm a3 az aj u I;go_wp2_with fail;generalize wC.setCell ⟨g.heap.size,0,none⟩ (O zc U)=wD at a2 bl ay a ai ba ⊢;have c2:=Aa ba;clear ba;clear e0 e1 e2 e3 e4 ef el q0 q1 q2 q3 q4 qf ql ao;obtain ⟨e0,e1,e2,e3,e4,ef,el⟩:=Dv a2;obtain ⟨q0,q1,q2,q3,q4,qf,ql⟩:=Dv ay;have l:=fun W h=>HIH.out (n1+1) W h;rw [h2] at l;have j:=Aa l;clear l HIH h1 h2;have ah:St rb tv ts en (n1+1) wD.drew:=ai;have bu:Hid (IntKind.i64.wrap ((deep:Int)+1)=(deep:Int)+1):=by show _=_;rw [IntKind.wrap_i64];omega
 have an:w.grownBy wD.drew (some rb):=⟨a.os,a.tape,a.output,a.size,a.block⟩;have cy:=Aa (show wD.drew.heap[g.heap.size]? = _ from a2);have cx:=Aa (show wD.drew.heap[B.heap.size]? = _ from ay);have cz:=Aa (show wD.drew.heap[w.heap.size]? = _ from bl);refine wp_region_any (by kernel_rfl) ?_
 change wpAny _ _ _ _ _ _ _ (World.drew _)
 refine wpAny_take (i:=1) (v:=?_) rfl (by kernel_rfl) (by kernel_rfl) (by kernel_rfl) (fun _ _ _ h=>h) (Or.inl ⟨by rfl,?_⟩) ?_;rotate_left 1
 ·intro w;go_simp;try with_reducible rfl
 refine wpAny_take (i:=2) (v:=?_) rfl (by kernel_rfl) (by kernel_rfl) (by kernel_rfl) (fun _ _ _ h=>h) (Or.inl ⟨by rfl,?_⟩) ?_;rotate_left 1
 ·intro w;go_simp;try with_reducible rfl
 refine wpAny_take (i:=3) (v:=?_) rfl (by kernel_rfl) (by kernel_rfl) (by kernel_rfl) (fun _ _ _ h=>h) (Or.inl ⟨by rfl,?_⟩) ?_;rotate_left 1
 ·intro w;go_simp;try with_reducible rfl
 refine wpAny_ready (rs:=[0,4]) (by kernel_rfl) (by simp) ?_;refine AllReady.cons rfl (fun K hK=>?_) (AllReady.cons rfl (fun K hK=>?_) AllReady.nil)
 ·go_simp
  refine hK _ _ ?_;clear hK K;refine wpAny_ready (rs:=[4]) (by kernel_rfl) (by simp) ?_;refine AllReady.cons rfl (fun K hK=>?_) AllReady.nil;go_simp;clear hK
  go_at_call 133;rw [bu.out];refine (j.out _ ?_).mono ?_;exact ah;intro e wE a6;obtain ⟨rfl,a8⟩:=F8 a6;have a9:w.grownBy wE (some rb):=Ac an a8;clear j;unfold Ah;go_wp2_with fail;exact ⟨rfl,a9,rfl⟩
 ·go_simp
  clear hK
  go_at_call 133;rw [bu.out];refine (j.out _ ?_).mono ?_;exact ah;intro e wE a6;obtain ⟨rfl,a8⟩:=F8 a6;have a9:w.grownBy wE (some rb):=Ac an a8;clear j;unfold Ah;go_wp2_with fail;exact ⟨rfl,a9,rfl⟩
theorem I4 (rb:Nat) (tv:Value) (ts:List Tok) (hall:ts.all Ai=true) (en n f deep:Nat) (w:World) (h:St rb tv ts en n w) (hx2:¬ (Ag ts n).kind=2) (hm:isT ts n [45]=false) (hN:AJ (Ag ts n)=false) (hd:deep < 60) (ho:isT ts n [40]=true)
  (HIH:Hid (∀ n w,St rb tv ts en n w->Calls Tryz.prog 133 #[zh (some ⟨rb,0,none⟩),O zc ((deep:Int)+1)] w (CC rb tv ts en f w (pE ts en f (deep+1) n)))) (da db:D) (n1 n2:Nat) (h1:pE ts en f (deep+1) (n+1)=.inl (da,n1)) (hop:¬ A0 (Ag ts n1).text.data.toList=0) (h2:pE ts en f (deep+1) (n1+1)=.inl (db,n2)) (hcl:isT ts n2 [41]=false) :
  Calls Tryz.prog 133 #[zh (some ⟨rb,0,none⟩),O zc (deep:Int)] w (CC rb tv ts en (f+1) w (.inr n2)):=by
 have hn:=Cf ho (by simp);have hal:Below w.heap.size w (w.alloc (Obj.cells #[O zc 0,O zc 0,O zc 0,.string ⟨#[]⟩,zd none 0 0] 49)):=(Below.refl _ w).alloc (Nat.le_refl _) _;have HH:=Aa (BT rb tv ts en n _ (h.below hal));have dk:=h.lt;have HX:=Aa h;go_enter Tryz.func133,Tryz.ntmps133;go_wp2_with fail;refine (HH.out).mono ?_;rintro e a ⟨rfl,g⟩;have bh:=Au (heap_alloc_new w _) g;have dp:w.heap.size < a.heap.size:=(Array.getElem?_eq_some_iff.1 bh).1;have bo:Below w.heap.size w a:=hal.trans (g.mono hal.size);obtain ⟨w2,N⟩:∃ w2,w2=a.alloc (Obj.cells #[O zc 0,O zc (Al ts en n),O zc 0,.string ⟨#[]⟩,zd none 0 0] 49):=⟨_,rfl⟩;have ab:Below a.heap.size a w2:=by rw [N];exact (Below.refl _ a).alloc (Nat.le_refl _) _
 have aj:w2.heap[a.heap.size]? = some (Obj.cells #[O zc 0,O zc (Al ts en n),O zc 0,.string ⟨#[]⟩,zd none 0 0] 49 (0,0)):=by rw [N];exact heap_alloc_new a _
 have ao:=Au bh ab;have bn:Below w.heap.size w w2:=bo.trans (ab.mono bo.size);have V:=h.below bn;have a7:=Ae (r:=some rb) bn;have hp:=Bk rb tv ts en n w2 V;obtain ⟨kk,bj⟩:∃ y,y=(Ag ts n).kind:=⟨_,rfl⟩;obtain ⟨pp,b9⟩:∃ y,y=(Ag ts n).pos:=⟨_,rfl⟩;obtain ⟨tx,b5⟩:∃ y,y=(Ag ts n).text:=⟨_,rfl⟩;rw [<-bj,<-b9,<-b5] at hp;have bk:(kk == 2)=false:=by rw [bj];simpa using hx2
 unfold AC at hp;rw [N] at hp;have HP:=Aa hp;have dq:=BL kk pp tx;clear hp bj b9 b5 HH hal g h bo;go_wp2_with fail;refine (HP.out).mono ?_;rintro e w3 ⟨rfl,af⟩;rw [<-N] at af;clear HP N bh ab bn hx2;have g1:=Ae (r:=some rb) af;have U:=V.below af;have an:=Af ao g1 (by omega);have ai:=Af aj g1 (by omega);have a6:=Ac a7 g1;clear g1 ao aj a7 V;clear af;have v:=Aa (B5 rb tv ts en n ⟨#[45]⟩ _ U hm);go_wp2_with fail;refine (v.out).mono ?_;rintro e c7 ⟨rfl,F⟩;clear v;have g2:=Ae (r:=some rb) F;have T:=U.below F;have am:=Af an g2 (by omega);have ah:=Af ai g2 (by omega);have a5:=Ac a6 g2;clear g2 an ai a6 U;clear F;have A:=BR rb tv ts en n _ T;rw [hN] at A;have v:=Aa A;clear A;go_wp2_with fail;refine (v.out).mono ?_;rintro e c6 ⟨rfl,E⟩;clear v;have g3:=Ae (r:=some rb) E;have av:=T.below E;have al:=Af am g3 (by omega);have ag:=Af ah g3 (by omega);have a4:=Ac a5 g3;clear g3 am ah a5 T;clear E;clear hN hm;have v:=Aa (BX rb tv ts en n ⟨#[40]⟩ _ av ho hn);go_wp2_with fail;refine (v.out).mono ?_;rintro e c5 ⟨rfl,Z,P⟩;clear v;have g4:=Z;have au:=P;have ak:=Af al g4 (by omega);have L:=Af ag g4 (by omega);have Y:=Ac a4 g4;clear g4 al ag a4 av;clear Z P;have A:=HIH.out (n+1) _ au;rw [h1] at A;have v:=Aa A;clear A;go_wp2_with fail;refine (v.out).mono ?_;intro e x b8;clear v;obtain ⟨H,a1,m1,x1,I,i,l,rfl,aa,cc,S⟩:=Dy b8;have c9:w.heap.size<=x.heap.size:=by have:=Y.size;have:=aa.size;omega
 have bb:RE (fun b=>a.heap.size < b) x f [O zc H,O zc a1,O zc m1,.string x1,zd I i l] da:=RE.mono (fun b hb _=>by have:=(Array.getElem?_eq_some_iff.1 L).1;omega) (fun _ _ _=>rfl) f f _ _ (Nat.le_refl _) cc;have b4:=Af ak aa (by omega);have bg:=Af L aa (by omega);have a3:=Ac Y aa;clear ak L Y au aa b8 cc;obtain ⟨wB,M⟩:∃ wB,wB=x.alloc (Obj.cells #[O zc H,O zc a1,O zc m1,.string x1,zd I i l] 49):=⟨_,rfl⟩;have j:Below x.heap.size x wB:=by rw [M];exact (Below.refl _ x).alloc (Nat.le_refl _) _
 have bw:wB.heap[x.heap.size]? = some (Obj.cells #[O zc H,O zc a1,O zc m1,.string x1,zd I i l] 49 (0,0)):=by rw [M];exact heap_alloc_new x _
 have b3:=Au b4 j;have b0:=Au bg j;have a0:=Ac a3 (Ae j);have ar:=S.below j;have dn:a.heap.size < x.heap.size:=(Array.getElem?_eq_some_iff.1 bg).1;have dl:=S.lt;have cv:n1 < ts.length:=Cj (D7 _ hop);have A:=Eg rb tv ts en n1 wB ar hop;obtain ⟨G,X⟩:∃ G,G=A0 (Ag ts n1).text.data.toList:=⟨_,rfl⟩;rw [<-X] at A;have dz:=Aa X;rw [M] at A;have v:=Aa A;clear A hop X;go_wp2_with fail;refine (v.out).mono ?_;rintro e wC ⟨rfl,C,aq⟩;rw [<-M] at C;have b2:=Af b3 C (by omega);have bf:=Af b0 C (by omega);have bc:=Af bw C (by omega);have az:=Ac a0 C;have a8:=Ac (Ae (r:=some rb) j) C;obtain ⟨e0,e1,e2,e3,e4,ef,el⟩:=Dv bf;obtain ⟨q0,q1,q2,q3,q4,qf,ql⟩:=Dv bc;have ae:(wC.setCell ⟨a.heap.size,0,none⟩ (O zc G)).heap[a.heap.size]? = some (Obj.cells #[O zc G,O zc (Al ts en n),O zc 0,.string ⟨#[]⟩,zd none 0 0] 49 (0,0)):=by simp [World.setCell,Array.getElem?_modify,bf]
 have bi:(wC.setCell ⟨a.heap.size,0,none⟩ (O zc G)).heap[w.heap.size]? = _:=Am b2 (by simp;omega);have ad:(wC.setCell ⟨a.heap.size,0,none⟩ (O zc G)).heap[x.heap.size]? = _:=Am bc (by simp;omega);have c:=Aj az (p:=⟨a.heap.size,0,none⟩) (by simp;omega) (O zc G);have R:=HX.out.keep c (Am aq.1 (by simp;omega)) cv;have bl:∀ b,a.heap.size < b->b < x.heap.size->(wC.setCell ⟨a.heap.size,0,none⟩ (O zc G)).heap[b]? = x.heap[b]?:=fun b g u=>by rw [Below.heap_setCell _ _ _ _ (by simp;omega)];exact a8.block b u (by simp;omega)
 clear a8;clear v M j b4 bg a3 b3 b0 a0 ar bw b2 bf bc aq C S;go_wp2_with fail;generalize wC.setCell ⟨a.heap.size,0,none⟩ (O zc G)=wD at ae bi ad c R bl ⊢;have cj:=Aa bl;clear bl;clear e0 e1 e2 e3 e4 ef el q0 q1 q2 q3 q4 qf ql az;obtain ⟨e0,e1,e2,e3,e4,ef,el⟩:=Dv ae;obtain ⟨q0,q1,q2,q3,q4,qf,ql⟩:=Dv ad;have A:=fun W h=>HIH.out (n1+1) W h;rw [h2] at A;have v:=Aa A;clear A HIH h1 h2;have ap:St rb tv ts en (n1+1) wD.drew:=R;have ch:Hid (IntKind.i64.wrap ((deep:Int)+1)=(deep:Int)+1):=by show _=_;rw [IntKind.wrap_i64];omega
 have aw:w.grownBy wD.drew (some rb):=⟨c.os,c.tape,c.output,c.size,c.block⟩;have cf:=Aa (show wD.drew.heap[a.heap.size]? = _ from ae);have ce:=Aa (show wD.drew.heap[x.heap.size]? = _ from ad);have cg:=Aa (show wD.drew.heap[w.heap.size]? = _ from bi);have ci:=Aa bb;clear bb;have dc:x.heap.size < wD.heap.size:=ql;go_region_with (go_at_call 133;rw [ch.out];refine (v.out _ ?_).mono ?_;exact ap;intro e J b7;obtain ⟨bd,a2,m2,x2,bp,K,ac,rfl,B,cb,Q⟩:=Dy b7;have be:=Af cf.out B (by omega);have bv:=Af ce.out B (by omega);obtain ⟨E0,E1,E2,E3,E4,EF,EL⟩:=Dv be;obtain ⟨Q0,Q1,Q2,Q3,Q4,QF,QL⟩:=Dv bv);all_goals
  clear e0 e1 e2 e3 e4 ef q0 q1 q2 q3 q4 qf E0 E1 E2 E3 E4 EF Q0 Q1 Q2 Q3 Q4 QF b7 v ch ap;have ay:=Ac aw B;have dr:wD.heap.size<=J.heap.size:=B.size;have b1:=Af cg.out B (by omega);generalize hwF:(J.setCell ⟨a.heap.size,4,none⟩ (zd (some ⟨J.heap.size,0,none⟩) 2 2)).alloc (Obj.cells #[O zc H,O zc a1,O zc m1,.string x1,zd I i l,O zc bd,O zc a2,O zc m2,.string x2,zd bp K ac] 49)=wF;have ax:w.grownBy wF (some rb):=by rw [<-hwF];exact DZ (Aj ay (by simp;omega) _) _
  have di:wF.heap[a.heap.size]? = some (Obj.cells #[O zc G,O zc (Al ts en n),O zc 0,.string ⟨#[]⟩,zd (some ⟨J.heap.size,0,none⟩) 2 2] 49 (0,0)):=by rw [<-hwF];exact Cn (by simp [World.setCell,Array.getElem?_modify,be])
  have bz:wF.heap[J.heap.size]? = some (Obj.cells #[O zc H,O zc a1,O zc m1,.string x1,zd I i l,O zc bd,O zc a2,O zc m2,.string x2,zd bp K ac] 49 (0,0)):=by rw [<-hwF];simpa [World.setCell] using heap_alloc_new (J.setCell ⟨a.heap.size,4,none⟩ (zd (some ⟨J.heap.size,0,none⟩) 2 2)) (Obj.cells #[O zc H,O zc a1,O zc m1,.string x1,zd I i l,O zc bd,O zc a2,O zc m2,.string x2,zd bp K ac] 49)
  have dj:wF.heap[w.heap.size]? = some (Obj.cells #[O zc 0,O zc 0,O zc 0,.string ⟨#[]⟩,zd none 0 0] 49 (0,0)):=by rw [<-hwF];exact Cn (Am b1 (by simp;omega))
  have b6:St rb tv ts en n2 wF:=HX.out.keep ax (by rw [<-hwF];exact Cn (Am Q.1 (by simp;omega))) Q.2.1;have bm:∀ b,a.heap.size < b->b < J.heap.size->wF.heap[b]? = J.heap[b]?:=fun b g u=>by rw [<-hwF,Below.heap_alloc _ _ _ (by simpa [World.setCell] using u),Below.heap_setCell _ _ _ _ (by simp;omega)]
  have cd:∀ b,a.heap.size < b->b < x.heap.size->wF.heap[b]? = x.heap[b]?:=fun b g u=>by rw [bm b g (by omega),B.block b (show b < wD.heap.size by omega) (by simp;omega)];exact cj.out b g u
  have ba:=RE.mono (S':=fun b=>a.heap.size < b) (fun b hb _=>hb) (fun b g u=>cd b g u) f f _ _ (Nat.le_refl _) ci.out;have a9:=RE.mono (S':=fun b=>a.heap.size < b) (fun b (hb:wD.heap.size<=b) _=>show a.heap.size < b by omega) (fun b (g:wD.heap.size<=b) u=>bm b (by omega) u) f f _ _ (Nat.le_refl _) cb;have dy:=Aa (show RE (fun b=>a.heap.size < b) wF (f+1) [O zc G,O zc (Al ts en n),O zc 0,.string ⟨#[]⟩,zd (some ⟨J.heap.size,0,none⟩) 2 2] (eD G (Al ts en n) 0 ⟨#[]⟩ [da,db]) from ⟨G,Al ts en n,0,⟨#[]⟩,_,[da,db],rfl,rfl,Pj bz (show a.heap.size < J.heap.size by omega) ba a9⟩);clear hwF ba a9 cd bm bz Q b1 be bv ay B cb ci cj cg cf ce aw c R bi ae ad;have v:=Aa (Ma rb tv ts en n2 ⟨#[41]⟩ wF b6 hcl);go_wp2_with fail;refine (v.out).mono ?_;rintro e wz ⟨rfl,cw⟩;unfold Ah;go_wp2_with fail;exact ⟨rfl,Ac ax (Ae cw),rfl⟩
theorem PW (rb:Nat) (tv:Value) (ts:List Tok) (hall:ts.all Ai=true) (en n f deep:Nat) (w:World) (h:St rb tv ts en n w) (hx2:¬ (Ag ts n).kind=2) (hm:isT ts n [45]=false) (hN:AJ (Ag ts n)=false) (hd:deep < 60) (ho:isT ts n [40]=true)
  (HIH:Hid (∀ n w,St rb tv ts en n w->Calls Tryz.prog 133 #[zh (some ⟨rb,0,none⟩),O zc ((deep:Int)+1)] w (CC rb tv ts en f w (pE ts en f (deep+1) n)))) (da db:D) (n1 n2:Nat) (h1:pE ts en f (deep+1) (n+1)=.inl (da,n1)) (hop:¬ A0 (Ag ts n1).text.data.toList=0) (h2:pE ts en f (deep+1) (n1+1)=.inl (db,n2)) (hcl:isT ts n2 [41]=true) :
  Calls Tryz.prog 133 #[zh (some ⟨rb,0,none⟩),O zc (deep:Int)] w (CC rb tv ts en (f+1) w (.inl (eD (A0 (Ag ts n1).text.data.toList) (Al ts en n) 0 ⟨#[]⟩ [da,db],n2+1))):=by
 have hn:=Cf ho (by simp);have hal:Below w.heap.size w (w.alloc (Obj.cells #[O zc 0,O zc 0,O zc 0,.string ⟨#[]⟩,zd none 0 0] 49)):=(Below.refl _ w).alloc (Nat.le_refl _) _;have HH:=Aa (BT rb tv ts en n _ (h.below hal));have dv:=h.lt;have HX:=Aa h;go_enter Tryz.func133,Tryz.ntmps133;go_wp2_with fail;refine (HH.out).mono ?_;rintro e a ⟨rfl,g⟩;have bm:=Au (heap_alloc_new w _) g;have dz:w.heap.size < a.heap.size:=(Array.getElem?_eq_some_iff.1 bm).1;have bs:Below w.heap.size w a:=hal.trans (g.mono hal.size);obtain ⟨w2,P⟩:∃ w2,w2=a.alloc (Obj.cells #[O zc 0,O zc (Al ts en n),O zc 0,.string ⟨#[]⟩,zd none 0 0] 49):=⟨_,rfl⟩;have ac:Below a.heap.size a w2:=by rw [P];exact (Below.refl _ a).alloc (Nat.le_refl _) _
 have al:w2.heap[a.heap.size]? = some (Obj.cells #[O zc 0,O zc (Al ts en n),O zc 0,.string ⟨#[]⟩,zd none 0 0] 49 (0,0)):=by rw [P];exact heap_alloc_new a _
 have aq:=Au bm ac;have br:Below w.heap.size w w2:=bs.trans (ac.mono bs.size);have X:=h.below br;have bb:=Ae (r:=some rb) br;have hp:=Bk rb tv ts en n w2 X;obtain ⟨kk,bo⟩:∃ y,y=(Ag ts n).kind:=⟨_,rfl⟩;obtain ⟨pp,ce⟩:∃ y,y=(Ag ts n).pos:=⟨_,rfl⟩;obtain ⟨tx,cb⟩:∃ y,y=(Ag ts n).text:=⟨_,rfl⟩;rw [<-bo,<-ce,<-cb] at hp;have bk:(kk == 2)=false:=by rw [bo];simpa using hx2
 unfold AC at hp;rw [P] at hp;have HP:=Aa hp;have d0:=BL kk pp tx;clear hp bo ce cb HH hal g h bs;go_wp2_with fail;refine (HP.out).mono ?_;rintro e w3 ⟨rfl,ah⟩;rw [<-P] at ah;clear HP P bm ac br hx2;have g1:=Ae (r:=some rb) ah;have V:=X.below ah;have ap:=Af aq g1 (by omega);have ak:=Af al g1 (by omega);have ba:=Ac bb g1;clear g1 aq al bb X;clear ah;have x:=Aa (B5 rb tv ts en n ⟨#[45]⟩ _ V hm);go_wp2_with fail;refine (x.out).mono ?_;rintro e dk ⟨rfl,H⟩;clear x;have g2:=Ae (r:=some rb) H;have U:=V.below H;have ao:=Af ap g2 (by omega);have aj:=Af ak g2 (by omega);have a9:=Ac ba g2;clear g2 ap ak ba V;clear H;have C:=BR rb tv ts en n _ U;rw [hN] at C;have x:=Aa C;clear C;go_wp2_with fail;refine (x.out).mono ?_;rintro e dj ⟨rfl,G⟩;clear x;have g3:=Ae (r:=some rb) G;have az:=U.below G;have an:=Af ao g3 (by omega);have ai:=Af aj g3 (by omega);have a8:=Ac a9 g3;clear g3 ao aj a9 U;clear G;clear hN hm;have x:=Aa (BX rb tv ts en n ⟨#[40]⟩ _ az ho hn);go_wp2_with fail;refine (x.out).mono ?_;rintro e di ⟨rfl,aa,Q⟩;clear x;have g4:=aa;have ay:=Q;have am:=Af an g4 (by omega);have M:=Af ai g4 (by omega);have Z:=Ac a8 g4;clear g4 an ai a8 az;clear aa Q;have C:=HIH.out (n+1) _ ay;rw [h1] at C;have x:=Aa C;clear C;go_wp2_with fail;refine (x.out).mono ?_;intro e A cd;clear x;obtain ⟨J,a1,m1,x1,K,j,u,rfl,ab,ck,T⟩:=Dy cd;have dm:w.heap.size<=A.heap.size:=by have:=Z.size;have:=ab.size;omega
 have bf:RE (fun b=>a.heap.size < b) A f [O zc J,O zc a1,O zc m1,.string x1,zd K j u] da:=RE.mono (fun b hb _=>by have:=(Array.getElem?_eq_some_iff.1 M).1;omega) (fun _ _ _=>rfl) f f _ _ (Nat.le_refl _) ck;have ca:=Af am ab (by omega);have bl:=Af M ab (by omega);have a7:=Ac Z ab;clear am M Z ay ab cd ck;obtain ⟨wB,N⟩:∃ wB,wB=A.alloc (Obj.cells #[O zc J,O zc a1,O zc m1,.string x1,zd K j u] 49):=⟨_,rfl⟩;have l:Below A.heap.size A wB:=by rw [N];exact (Below.refl _ A).alloc (Nat.le_refl _) _
 have b2:wB.heap[A.heap.size]? = some (Obj.cells #[O zc J,O zc a1,O zc m1,.string x1,zd K j u] 49 (0,0)):=by rw [N];exact heap_alloc_new A _
 have b9:=Au ca l;have b5:=Au bl l;have a6:=Ac a7 (Ae l);have ax:=T.below l;have dy:a.heap.size < A.heap.size:=(Array.getElem?_eq_some_iff.1 bl).1;have dw:=T.lt;have dc:n1 < ts.length:=Cj (D7 _ hop);have C:=Eg rb tv ts en n1 wB ax hop;obtain ⟨B,Y⟩:∃ B,B=A0 (Ag ts n1).text.data.toList:=⟨_,rfl⟩;rw [<-Y] at C;have dh:=Aa Y;rw [N] at C;have x:=Aa C;clear C hop Y;go_wp2_with fail;refine (x.out).mono ?_;rintro e wC ⟨rfl,F,aw⟩;rw [<-N] at F;have b8:=Af b9 F (by omega);have bj:=Af b5 F (by omega);have bg:=Af b2 F (by omega);have a5:=Ac a6 F;have bc:=Ac (Ae (r:=some rb) l) F;obtain ⟨e0,e1,e2,e3,e4,ef,el⟩:=Dv bj;obtain ⟨q0,q1,q2,q3,q4,qf,ql⟩:=Dv bg;have af:(wC.setCell ⟨a.heap.size,0,none⟩ (O zc B)).heap[a.heap.size]? = some (Obj.cells #[O zc B,O zc (Al ts en n),O zc 0,.string ⟨#[]⟩,zd none 0 0] 49 (0,0)):=by simp [World.setCell,Array.getElem?_modify,bj]
 have bn:(wC.setCell ⟨a.heap.size,0,none⟩ (O zc B)).heap[w.heap.size]? = _:=Am b8 (by simp;omega);have ae:(wC.setCell ⟨a.heap.size,0,none⟩ (O zc B)).heap[A.heap.size]? = _:=Am bg (by simp;omega);have c:=Aj a5 (p:=⟨a.heap.size,0,none⟩) (by simp;omega) (O zc B);have S:=HX.out.keep c (Am aw.1 (by simp;omega)) dc;have bp:∀ b,a.heap.size < b->b < A.heap.size->(wC.setCell ⟨a.heap.size,0,none⟩ (O zc B)).heap[b]? = A.heap[b]?:=fun b g i=>by rw [Below.heap_setCell _ _ _ _ (by simp;omega)];exact bc.block b i (by simp;omega)
 clear bc;clear x N l ca bl a7 b9 b5 a6 ax b2 b8 bj bg aw F T;go_wp2_with fail;generalize wC.setCell ⟨a.heap.size,0,none⟩ (O zc B)=wD at af bn ae c S bp ⊢;have cr:=Aa bp;clear bp;clear e0 e1 e2 e3 e4 ef el q0 q1 q2 q3 q4 qf ql a5;obtain ⟨e0,e1,e2,e3,e4,ef,el⟩:=Dv af;obtain ⟨q0,q1,q2,q3,q4,qf,ql⟩:=Dv ae;have C:=fun W h=>HIH.out (n1+1) W h;rw [h2] at C;have x:=Aa C;clear C HIH h1 h2;have av:St rb tv ts en (n1+1) wD.drew:=S;have cp:Hid (IntKind.i64.wrap ((deep:Int)+1)=(deep:Int)+1):=by show _=_;rw [IntKind.wrap_i64];omega
 have a0:w.grownBy wD.drew (some rb):=⟨c.os,c.tape,c.output,c.size,c.block⟩;have cn:=Aa (show wD.drew.heap[a.heap.size]? = _ from af);have cm:=Aa (show wD.drew.heap[A.heap.size]? = _ from ae);have co:=Aa (show wD.drew.heap[w.heap.size]? = _ from bn);have cq:=Aa bf;clear bf;have dn:A.heap.size < wD.heap.size:=ql;go_region_with (go_at_call 133;rw [cp.out];refine (x.out _ ?_).mono ?_;exact av;intro e I cc;obtain ⟨bh,a2,m2,x2,bt,L,ad,rfl,E,cj,R⟩:=Dy cc;have bi:=Af cn.out E (by omega);have b1:=Af cm.out E (by omega);obtain ⟨E0,E1,E2,E3,E4,EF,EL⟩:=Dv bi;obtain ⟨Q0,Q1,Q2,Q3,Q4,QF,QL⟩:=Dv b1);all_goals
  clear e0 e1 e2 e3 e4 ef q0 q1 q2 q3 q4 qf E0 E1 E2 E3 E4 EF Q0 Q1 Q2 Q3 Q4 QF cc x cp av;have a4:=Ac a0 E;have d1:wD.heap.size<=I.heap.size:=E.size;have b7:=Af co.out E (by omega);generalize hwF:(I.setCell ⟨a.heap.size,4,none⟩ (zd (some ⟨I.heap.size,0,none⟩) 2 2)).alloc (Obj.cells #[O zc J,O zc a1,O zc m1,.string x1,zd K j u,O zc bh,O zc a2,O zc m2,.string x2,zd bt L ad] 49)=wF;have a3:w.grownBy wF (some rb):=by rw [<-hwF];exact DZ (Aj a4 (by simp;omega) _) _
  have b4:wF.heap[a.heap.size]? = some (Obj.cells #[O zc B,O zc (Al ts en n),O zc 0,.string ⟨#[]⟩,zd (some ⟨I.heap.size,0,none⟩) 2 2] 49 (0,0)):=by rw [<-hwF];exact Cn (by simp [World.setCell,Array.getElem?_modify,bi])
  have b3:wF.heap[I.heap.size]? = some (Obj.cells #[O zc J,O zc a1,O zc m1,.string x1,zd K j u,O zc bh,O zc a2,O zc m2,.string x2,zd bt L ad] 49 (0,0)):=by rw [<-hwF];simpa [World.setCell] using heap_alloc_new (I.setCell ⟨a.heap.size,4,none⟩ (zd (some ⟨I.heap.size,0,none⟩) 2 2)) (Obj.cells #[O zc J,O zc a1,O zc m1,.string x1,zd K j u,O zc bh,O zc a2,O zc m2,.string x2,zd bt L ad] 49)
  have b6:wF.heap[w.heap.size]? = some (Obj.cells #[O zc 0,O zc 0,O zc 0,.string ⟨#[]⟩,zd none 0 0] 49 (0,0)):=by rw [<-hwF];exact Cn (Am b7 (by simp;omega))
  have au:St rb tv ts en n2 wF:=HX.out.keep a3 (by rw [<-hwF];exact Cn (Am R.1 (by simp;omega))) R.2.1;have bq:∀ b,a.heap.size < b->b < I.heap.size->wF.heap[b]? = I.heap[b]?:=fun b g i=>by rw [<-hwF,Below.heap_alloc _ _ _ (by simpa [World.setCell] using i),Below.heap_setCell _ _ _ _ (by simp;omega)]
  have cl:∀ b,a.heap.size < b->b < A.heap.size->wF.heap[b]? = A.heap[b]?:=fun b g i=>by rw [bq b g (by omega),E.block b (show b < wD.heap.size by omega) (by simp;omega)];exact cr.out b g i
  have be:=RE.mono (S':=fun b=>a.heap.size < b) (fun b hb _=>hb) (fun b g i=>cl b g i) f f _ _ (Nat.le_refl _) cq.out;have bd:=RE.mono (S':=fun b=>a.heap.size < b) (fun b (hb:wD.heap.size<=b) _=>show a.heap.size < b by omega) (fun b (g:wD.heap.size<=b) i=>bq b (by omega) i) f f _ _ (Nat.le_refl _) cj;have dg:=Aa (show RE (fun b=>a.heap.size < b) wF (f+1) [O zc B,O zc (Al ts en n),O zc 0,.string ⟨#[]⟩,zd (some ⟨I.heap.size,0,none⟩) 2 2] (eD B (Al ts en n) 0 ⟨#[]⟩ [da,db]) from ⟨B,Al ts en n,0,⟨#[]⟩,_,[da,db],rfl,rfl,Pj b3 (show a.heap.size < I.heap.size by omega) be bd⟩);clear hwF be bd cl bq b3 R b7 bi b1 a4 E cj cq cr co cn cm a0 c S bn af ae;have cg:=Cf hcl (by simp);have x:=Aa (JF rb tv ts en n2 ⟨#[41]⟩ wF au hcl cg);go_wp2_with fail;refine (x.out).mono ?_;rintro e wY ⟨rfl,ag,ar⟩;have ch:=Ac a3 ag;obtain ⟨p0,p1,p2,p3,p4,pf,pl⟩:=Dv (Af b6 ag (by omega));obtain ⟨e0,e1,e2,e3,e4,ef,el⟩:=Dv (Af b4 ag (by omega));have HR:=Aa ar.1;clear b6 b4 au ar;go_wp2_with fail;refine bodyPost_ret (v:=zf #[O zc B,O zc (Al ts en n),O zc 0,.string ⟨#[]⟩,zd (some ⟨I.heap.size,0,none⟩) 2 2]) (by simp [results,Tryz.results133,go_sem,p0,p1,p2,p3,p4]) rfl ?_;have ci:=Aj (Aj (Aj (Aj (Aj (ch) (p:=⟨w.heap.size,0,none⟩) (by simp) (O zc B)) (p:=⟨w.heap.size,1,none⟩) (by simp) (O zc (Al ts en n))) (p:=⟨w.heap.size,2,none⟩) (by simp) (O zc 0)) (p:=⟨w.heap.size,3,none⟩) (by simp) (.string ⟨#[]⟩)) (p:=⟨w.heap.size,4,none⟩) (by simp) (zd (some ⟨I.heap.size,0,none⟩) 2 2);rw [<-dh.out];refine ⟨ci,[O zc B,O zc (Al ts en n),O zc 0,.string ⟨#[]⟩,zd (some ⟨I.heap.size,0,none⟩) 2 2],rfl,RE.mono (fun b (hb:a.heap.size < b) _=>show w.heap.size<=b by omega) (fun b (g:a.heap.size < b) i=>?_) (f+1) (f+1) _ _ (Nat.le_refl _) dg.out,HX.out.keep ci ?_ cg⟩
  ·rw [Below.heap_setCell _ _ _ _ (by simp;omega),Below.heap_setCell _ _ _ _ (by simp;omega),Below.heap_setCell _ _ _ _ (by simp;omega),Below.heap_setCell _ _ _ _ (by simp;omega),Below.heap_setCell _ _ _ _ (by simp;omega)];exact ag.block b i (by simp;omega)
  ·exact Am (Am (Am (Am (Am (HR.out) (by simp;omega)) (by simp;omega)) (by simp;omega)) (by simp;omega)) (by simp;omega)
theorem OW (rb:Nat) (tv:Value) (ts:List Tok) (hall:ts.all Ai=true) (en:Nat):∀ (f deep n:Nat) (w:World),61<=f+deep->deep<=60->St rb tv ts en n w ->
  Calls Tryz.prog 133 #[zh (some ⟨rb,0,none⟩),O zc (deep:Int)] w (CC rb tv ts en f w (pE ts en f deep n)):=by
 intro f
 induction f with
 | zero=>intro deep n w b c;omega
 | succ f ih=>
  intro deep n w r l h;by_cases hk:(Ag ts n).kind=2
  ·exact Kr rb tv ts hall en n f deep w h hk
  unfold pE;rw [if_neg hk]
  cases hm:isT ts n [45] with
  | true=>
   rw [if_pos rfl]
   cases hz:isT ts (n+1) [48] with
   | true=>exact Gx rb tv ts hall en n f deep w h hk hm hz
   | false=>
    rw [if_neg (by simp)];by_cases hq:(Ag ts (n+1)).kind=2
    ·rw [if_pos hq]
     exact LG rb tv ts hall en n f deep w h hk hm hz hq
    ·rw [if_neg hq]
     exact Ij rb tv ts hall en n f deep w h hk hm hz hq
  | false=>
   rw [if_neg (by simp)]
   cases hN:AJ (Ag ts n) with
   | true=>
    rw [if_pos rfl];exact Nf rb tv ts hall en n f deep w h hk hm hN
   | false=>
    rw [if_neg (by simp)];by_cases hd6:deep < 60
    ·cases ho:isT ts n [40] with
     | false=>
      rw [if_neg (by simp)];exact Nd rb tv ts hall en n f deep w h hk hm hN hd6 ho
     | true=>
      rw [if_pos ⟨hd6,rfl⟩];have a:Hid (∀ n w,St rb tv ts en n w->Calls Tryz.prog 133 #[zh (some ⟨rb,0,none⟩),O zc ((deep:Int)+1)] w (CC rb tv ts en f w (pE ts en f (deep+1) n))):=
       Aa fun n w j=>by
        have:=ih (deep+1) n w (by omega) (by omega) j;rw [Int.natCast_add] at this;exact this
      cases b:pE ts en f (deep+1) (n+1) with
      | inr m=>exact Lz rb tv ts hall en n f deep w h hk hm hN hd6 ho a m b
      | inl p1=>
       obtain ⟨g,n1⟩:=p1;by_cases hop:A0 (Ag ts n1).text.data.toList=0
       ·simp only [if_pos hop]
        exact MX rb tv ts hall en n f deep w h hk hm hN hd6 ho a g n1 b hop
       ·simp only [if_neg hop]
        cases c:pE ts en f (deep+1) (n1+1) with
        | inr m=>exact Ly rb tv ts hall en n f deep w h hk hm hN hd6 ho a g n1 m b hop c
        | inl p2=>
         obtain ⟨i,n2⟩:=p2
         cases hc:isT ts n2 [41] with
         | false=>
          simp only [hc,Bool.false_eq_true,if_false];exact I4 rb tv ts hall en n f deep w h hk hm hN hd6 ho a g i n1 n2 b hop c hc
         | true=>
          simp only [hc,if_true];exact PW rb tv ts hall en n f deep w h hk hm hN hd6 ho a g i n1 n2 b hop c hc
    ·rw [if_neg (by simp [hd6])]
     exact Ng rb tv ts hall en n f deep w h hk hm hN hd6 l
end Go.Proofs.YtipngnjffjajpaaGreatDoor
namespace Go.Proofs.YtipngnjffjajpaaGreatDoor.Tx
open Go.RowKit
open Go.Value renaming int -> O, slice -> zd, bool -> ze, agg -> zf, pointer -> zh, tuple -> zj
open Go.IntKind renaming i64 -> zc
open Go.Obj renaming cells -> zg
open Go.Ending renaming returned -> zi
theorem Aa {p:Prop} (h:p):Hx p:=h
abbrev Ad (cs:List Value) (w:World) (b:Nat):Prop:=∀ (j:Nat) (u:Value),cs[j]? = some u->w.cell? ⟨b,j,none⟩=some u
theorem Ad.over {cs:List Value} {w w':World} {b:Nat} (h:Ad cs w b) (hb:Ov w w'):Ad cs w' b:=fun j u hu=>ce1 hb (h j u hu)
theorem Ab {w0 w1 w2:World} (h:Ov w0 w1) (h2:Ov w1 w2):Ov w0 w2:=h.trans (h2.mono h.size)
theorem aov {w V:World} {o:Obj} (e:V=w.alloc o):Hx (Ov w V):=by subst e;exact bA _ _
theorem zoz {w V:World} {b:Nat} (h:Hx (Ov w V)) (e:b=V.heap.size):Hx (w.heap.size<=b):=by subst e;exact h.o.size
theorem CJ {cs:List Value} {w W:World} {b o:Nat} (hB:Ov w W) (h:∀ (j:Nat) (u:Value),cs[j]? = some u->w.cell? ⟨b,o+j,none⟩=some u):∀ i,i < cs.length->W.cell? ⟨b,o+i,none⟩=cs[i]?:=fun i hi=>by
 rw [List.getElem?_eq_getElem hi];exact ce1 hB (h i _ (List.getElem?_eq_getElem hi))
theorem CK {cs:List Value} {w W:World} {b o:Nat} {u:Value} (hB:Ov w W) (h:∀ (j:Nat) (u:Value),cs[j]? = some u->w.cell? ⟨b,o+j,none⟩=some u) (h0:cs[0]? = some u):W.cell? ⟨b,o,none⟩=some u:=ce1 hB (h 0 u h0)
theorem C2 {cs:List Value} {w V:World} {b T:Nat} (e:V=w.alloc (.cells cs.toArray T)) (h:b=w.heap.size):Hx (Ad cs V b):=by subst e h;exact A5 w cs T
theorem J7 {W W':World} {B e s:Nat} {v:Value} {k:Nat} {xs:List Value} (h:W.ownsRow B e s v k xs) (hb:Ov W W'):W'.ownsRow B e s v k xs:=by
 obtain ⟨l,a⟩:=h;refine ⟨l,?_⟩;rcases a with a | ⟨g,c,b,i,j,f,r⟩
 ·exact Or.inl a
 ·refine Or.inr ⟨g,c,b,i,j,?_,r⟩
  rw [hb.block g (Array.getElem?_eq_some_iff.1 f).1];exact f
theorem AL {W:World} {B e s:Nat} {v:Value} {k:Nat} {xs:List Value} (h:W.ownsRow B e s v k xs) {g:Nat} (hg:v.ownBlock=some g):B<=g/\g < W.heap.size:=by
 rcases h.2 with ⟨rfl,_⟩ | ⟨i,f,c,rfl,a,b,_⟩
 ·cases hg
 ·simp [Value.ownBlock] at hg
  subst hg;exact ⟨a,(Array.getElem?_eq_some_iff.1 b).1⟩
theorem OS {w:World} {r n j:Nat} {u:Value}:w.grownBy ((w.drewN n).setCell ⟨r,j,none⟩ u) (some r):=by
 have h:=Below.heap_setCell (w.drewN n) ⟨r,j,none⟩ u;refine ⟨rfl,rfl,rfl,by simp [World.setCell],fun k b a=>?_⟩;rw [h k (fun e=>a (by rw [e]))];rfl
theorem Ct {w:World} {r j:Nat} {u:Value}:w.grownBy (w.setCell ⟨r,j,none⟩ u) (some r):=OS (n:=0)
theorem AP {w:World} {B e s:Nat} {v:Value} {n:Nat} {xs:List Value} (h:w.ownsRow B e s v n xs):∃ a n c,v=zd a n c:=by
 obtain ⟨r,⟨h,_⟩ | ⟨g,i,f,b,l,j⟩⟩:=h
 ·exact ⟨_,_,_,h⟩
 ·exact ⟨_,_,_,b⟩
theorem Cq {W:World} {B e s n:Nat} {a:Option Addr} {k c:Nat} {xs:List Value} (h:W.ownsRow B e s (zd a k c) n xs):k=n:=by
 rcases h.2 with ⟨h,i⟩ | ⟨g,r,l,h,v,u,-⟩
 ·injection h with j f b
  omega
 ·injection h with j i b
theorem A4 {ops:Array Oper} {o:Oper} {a:Act} {W:World} {K:Act->World->Prop} {Q:Exit->Act->World->Prop} {E:Prop} (hg:o.guard=none) (s x:Operand) (t:TypeId) (hop:o.op=Op.call { callee:=Callee.builtin Builtin.append,args:=#[s,x],argTypes:=#[t,t] }) (v u v':Value) (W':World) (hs:a.eval s=v) (hx:a.eval x=u)
  (hr:(Builtin.append_ #[t,t] o.type #[v,u]).run Tryz.prog W=.ok v' W') (h:K (a.put o.dst v') W'):if Region.wanted o (yielded ops a.tmps)=true then Oper.wp Tryz.prog o a W K Q else E:=by
 have hw:Region.wanted o (yielded ops a.tmps)=true:=by simp [Region.wanted,hg]
 rw [if_pos hw];unfold Oper.wp execOp;simp only [hop,resolve,invoke,builtin,Sem.run_bind,Sem.run_pure,Result.andThen_ok,List.map_toArray,List.map_cons,List.map_nil,hs,hx,hr];exact h
def Off (B:Nat) (g:Option Nat) (w:World) (P:World->Prop):Prop:=∀ W:World,(∀ k,B<=k->k < w.heap.size->some k≠g->W.heap[k]? = w.heap[k]?)->P W
section
variable {B B':Nat} {g:Option Nat} {w w':World} {P P':World->Prop} {v v':Value}
theorem Off.self (h:Off B g w P):P w:=h w fun _ _ _ _=>rfl
theorem Off.imp (h:Off B g w P) (f:∀ W,P W->P' W):Off B g w P':=fun W hW=>f W (h W hW)
theorem Off.over (h:Off B g w P) (hb:Ov w w'):Off B g w' P:=fun W hW=>h W fun k h1 h2 h3=>(hW k h1 (Nat.lt_of_lt_of_le h2 hb.size) h3).trans (hb.block k h2)
theorem Off.base (h:Off B g w P) (hb:B'<=B):Off B' g w P:=fun W hW=>h W fun k h1 h2 h3=>hW k (Nat.le_trans hb h1) h2 h3
theorem Off.row (h:Off B v.ownBlock w P) (hg:w.grownBy w' v.ownBlock) (hv:v'.ownBlock=v.ownBlock\/v'.ownBlock=some w.heap.size):Off B v'.ownBlock w' P:=fun W hW=>h W fun k h1 h2 h3=>
 (hW k h1 (Nat.lt_of_lt_of_le h2 hg.size) (by
  rcases hv with e | e
  ·rw [e];exact h3
  ·rw [e];intro q;injection q with q;omega)).trans (hg.block k h2 h3)
theorem Off.weak (h:Off B none w P) (hb:B'<=B) (hg:∀ k,g=some k->k < B):Off B' g w P:=fun W hW=>h W fun k h1 h2 _=>hW k (Nat.le_trans hb h1) h2 (fun e=>by have:=hg k e.symm;omega)
theorem Off.set {b j:Nat} {u:Value} (h:Off B g w P) (hb:b < B):Off B g (w.setCell ⟨b,j,none⟩ u) P:=fun W hW=>h W fun k h1 h2 h3=>
 (hW k h1 (by simpa [World.setCell] using h2) h3).trans ((Ct (w:=w) (r:=b) (j:=j) (u:=u)).block k h2 (fun e=>by injection e with e;omega))
end
theorem zos {B b j:Nat} {g:Option Nat} {u:Value} {w w':World} {P:World->Prop} (h:Hx (Off B g w P)) (e:w'=w.setCell ⟨b,j,none⟩ u) (hb:Hx (b < B)):Hx (Off B g w' P):=by subst e;exact h.o.set hb.o
theorem zoo {B:Nat} {g:Option Nat} {o:Obj} {w w':World} {P:World->Prop} (h:Hx (Off B g w P)) (e:w'=w.alloc o):Hx (Off B g w' P):=by subst e;exact h.o.over (bA _ _)
def Cop (B T s:Nat) (P:Nat->List Value->World->Prop) (n:Nat) (v:Value) (w:World):Prop:=
 ∃ xs,w.ownsRow B T s v n xs/\∀ i,i < n->∃ cs:List Value,cs.length=s/\(∀ j u,cs[j]? = some u->xs[i*s+j]? = some u)/\Off B v.ownBlock w (P i cs)
section
variable {B T s n:Nat} {P:Nat->List Value->World->Prop} {v v':Value} {w w' w2:World}
theorem Cop.nil:Cop B T s P 0 (zd none 0 0) w:=⟨[],World.ownsRow_nil w B T s,fun i hi=>absurd hi (Nat.not_lt_zero _)⟩
theorem Cop.over (h:Cop B T s P n v w) (hb:Ov w w'):Cop B T s P n v w':=by
 obtain ⟨a,b,f⟩:=h;refine ⟨a,J7 b hb,fun i c=>?_⟩;obtain ⟨r,l,j,g⟩:=f i c;exact ⟨r,l,j,g.over hb⟩
theorem Cop.set {b j:Nat} {u:Value} (h:Cop B T s P n v w) (hb:b < B):Cop B T s P n v (w.setCell ⟨b,j,none⟩ u):=by
 obtain ⟨c,a,g⟩:=h;refine ⟨c,a.kept Ct (Or.inr (fun e=>by have:=(AL a e).1;omega)),fun i f=>?_⟩;obtain ⟨y,x,r,l⟩:=g i f;exact ⟨y,x,r,l.set hb⟩
theorem Cop.add {xs cs:List Value} {B1:Nat} (ho:w.ownsRow B T s v n xs) (he:∀ i,i < n->∃ cs:List Value,cs.length=s/\(∀ j u,cs[j]? = some u->xs[i*s+j]? = some u)/\Off B v.ownBlock w (P i cs))
  (hl:cs.length=s) (hn:Off B1 none w (P n cs)) (hB:B<=B1) (hrow:∀ k,v.ownBlock=some k->k < B1) (ho':w2.ownsRow B T s v' (n+1) (xs++cs)) (hg:w.grownBy w2 v.ownBlock) (hat:v'.ownBlock=v.ownBlock\/v'.ownBlock=some w.heap.size):Cop B T s P (n+1) v' w2:=by
 refine ⟨xs++cs,ho',fun i l=>?_⟩;by_cases h:i < n
 ·obtain ⟨g,f,c,b⟩:=he i h
  refine ⟨g,f,fun j u a=>?_,b.row hg hat⟩;have:=c j u a;rw [List.getElem?_append_left (List.getElem?_eq_some_iff.1 this).1];exact this
 ·obtain rfl:i=n:=by omega
  refine ⟨cs,hl,fun j u a=>?_,(hn.weak hB hrow).row hg hat⟩;rw [List.getElem?_append_right (by rw [ho.1];omega),ho.1,Nat.add_sub_cancel_left];exact a
theorem Cop.cells (h:Cop B T s P n v w) (hs:0 < s):∃ (a:Option Addr) (c:Nat),v=zd a n c/\Off B none w (fun W=>(n≠0->∃ b,a=some ⟨b,0,none⟩/\Fz0 W b 0 (n*s)/\∀ i,i < n->∃ cs:List Value,cs.length=s/\(∀ j u,cs[j]? = some u->W.cell? ⟨b,i*s+j,none⟩=some u)/\P i cs W)):=by
 obtain ⟨Q,F,M⟩:=h;rcases F.2 with ⟨y,H⟩ | ⟨g,E,O,y,G,r,U,S,R,N⟩
 ·exact ⟨none,0,by rw [y,H],fun W _ f=>absurd H f⟩
 ·refine ⟨some ⟨g,0,none⟩,E,y,fun W hW f=>⟨g,rfl,(Fz0.new r).of_block (hW g G (Array.getElem?_eq_some_iff.1 r).1 (by simp)),fun i L=>?_⟩⟩
  obtain ⟨cs,q1,J,I⟩:=M i L;refine ⟨cs,q1,fun j u K=>?_,I W fun k k1 k2 _=>hW k k1 k2 (by simp)⟩;have C:g < w.heap.size:=(Array.getElem?_eq_some_iff.1 r).1;have x:=J j u K;have l:W.heap[g]? = w.heap[g]?:=hW g G C (by simp);rw [World.cell?_of_block (a:=⟨g,i*s+j,none⟩) l,Lib.cell_of_heap r];have A:i*s+j < n*s:=by rw [<-F.1];exact (List.getElem?_eq_some_iff.1 x).1
  rw [<-N,List.getElem?_take,if_pos A] at x;simpa using x
end
section
variable {B rb:Nat} {g:Option Nat} {w w':World} {P:World->Prop}
theorem Off.keep (h:Off B g w P) (hg:w.grownBy w' (some rb)) (hb:rb < B):Off B g w' P:=fun W hW=>h W fun k h1 h2 h3=>(hW k h1 (Nat.lt_of_lt_of_le h2 hg.size) h3).trans (hg.block k h2 (fun e=>by injection e with e;omega))
theorem Cop.keep {T s n:Nat} {P:Nat->List Value->World->Prop} {v:Value} (h:Cop B T s P n v w) (hg:w.grownBy w' (some rb)) (hb:rb < B):Cop B T s P n v w':=by
 obtain ⟨b,a,f⟩:=h;refine ⟨b,a.kept hg (Or.inr (fun e=>by have:=(AL a e).1;omega)),fun i c=>?_⟩;obtain ⟨r,l,j,g⟩:=f i c;exact ⟨r,l,j,g.keep hg hb⟩
end
end Go.Proofs.YtipngnjffjajpaaGreatDoor.Tx
namespace Go.Proofs.YtipngnjffjajpaaGreatDoor.Tx
open Go.RowKit
open Go.Value renaming int -> O, slice -> zd, bool -> ze, agg -> zf, pointer -> zh, tuple -> zj
open Go.IntKind renaming i64 -> zc
open Go.Obj renaming cells -> zg
open Go.Ending renaming returned -> zi
theorem alq {cs:List Value} {w V:World} {T:Nat} (_:V=w.alloc (.cells cs.toArray T)):∀ (j:Nat) (u:Value),cs[j]? = some u->(w.alloc (.cells cs.toArray T)).cell? ⟨w.heap.size,j,none⟩=some u:=A5 w cs T
theorem hal {w V:World} {o:Obj} {b:Nat} (e:V=w.alloc o) (h:b=w.heap.size):V.heap[b]? = some o:=by subst e h;exact heap_alloc_new w _
end Go.Proofs.YtipngnjffjajpaaGreatDoor.Tx
