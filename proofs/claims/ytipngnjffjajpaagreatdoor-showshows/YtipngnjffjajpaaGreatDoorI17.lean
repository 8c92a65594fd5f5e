/- The document's reader in memory: expressions. -/
import Derived.Test.YtipngnjffjajpaaGreatDoorI16
set_option linter.unusedVariables false
set_option maxHeartbeats 8000000
set_option maxRecDepth 100000
namespace Go.Proofs.YtipngnjffjajpaaGreatDoor.Tx
open Go.RowKit
open Go.Value renaming int -> A, slice -> O, bool -> zc, agg -> ze, pointer -> zf, tuple -> zh
open Go.IntKind renaming i64 -> J
open Go.Obj renaming cells -> zd
open Go.Ending renaming returned -> zg
section
variable {rb:Nat} {tv:Value} {ts:List Tok} {en:Nat}
theorem AD (x:ByteArray) (l:List UInt8) (hl:x.data.toList=l) (hx:l≠[]) (s:Sg) (w:World) (h:Sd rb tv ts en s w):Calls Tryz.prog 26 #[zf (some ⟨rb,0,none⟩),.string x] w fun e w'=>e=zg (zh #[])/\Qo rb tv ts en w s (Af ts l s) w':=by
 rw [<-hl];exact Ot x (by rw [hl];exact hx) s w h
def CH (rb:Nat) (tv:Value) (ts:List Tok) (en f:Nat) (w:World) (s:Sg) (r:D × Sg) (e:Ending) (w':World):Prop:=∃ (kd a n:Int) (x:ByteArray) (ao:Option Addr) (l c:Nat),e=zg (ze #[A J kd,A J a,A J n,.string x,O ao l c])/\Off w.heap.size none w' (fun W=>XE W f [A J kd,A J a,A J n,.string x,O ao l c] r.1)/\Qo rb tv ts en w s r.2 w'
def Oc (rb:Nat) (tv:Value) (ts:List Tok) (en f deep:Nat):Prop:=∀ (s:Sg) (w:World),Sd rb tv ts en s w->Calls Tryz.prog 60 #[zf (some ⟨rb,0,none⟩),A J (deep:Int)] w (CH rb tv ts en f w s (AQ ts en f deep s))
theorem Off.bx {B b:Nat} {cs:List Value} {V:World} (h:Bx b cs V) (hb:B<=b):Off B none V (fun W=>Ac cs W b/\Fz0 W b 0):=fun W hW=>⟨fun j u hu=>by
 rw [World.cell?_of_block (a:=⟨b,j,none⟩) (hW b hb h.lt (by simp))];exact h.row j u hu,Fz0.of_block ⟨h.lt,h.fz 0⟩ (hW b hb h.lt (by simp))⟩
theorem LS.two {α:Type} {R:List Value->α->Prop} {w:World} {b:Nat} {a0 a1 a2 a3 a4 b0 b1 b2 b3 b4:Value} {d1 d2:α} (hr0:Ac [a0,a1,a2,a3,a4,b0,b1,b2,b3,b4] w b/\Fz0 w b 0) (r1:R [a0,a1,a2,a3,a4] d1) (r2:R [b0,b1,b2,b3,b4] d2):LS 5 R w (O (some ⟨b,0,none⟩) 2 2) [d1,d2]:=by
 have hr:=hr0.1;refine ⟨by show 2<=maxLen;decide,some ⟨b,0,none⟩,2,rfl,fun _=>⟨b,0,rfl,hr0.2,fun i a f=>?_⟩⟩
 match i,f with
 | 0,f=>
  injection f with f;subst f;refine ⟨_,rfl,fun j u c=>?_,r1⟩;have g:j < 5:=(List.getElem?_eq_some_iff.1 c).1;have:[a0,a1,a2,a3,a4,b0,b1,b2,b3,b4][j]? = some u:=by
   match j,c with
   | 0,c=>exact c
   | 1,c=>exact c
   | 2,c=>exact c
   | 3,c=>exact c
   | 4,c=>exact c
  simpa using hr j u this
 | 1,f=>
  injection f with f;subst f;refine ⟨_,rfl,fun j u c=>?_,r2⟩;have g:j < 5:=(List.getElem?_eq_some_iff.1 c).1;have:[a0,a1,a2,a3,a4,b0,b1,b2,b3,b4][5+j]? = some u:=by
   match j,c with
   | 0,c=>exact c
   | 1,c=>exact c
   | 2,c=>exact c
   | 3,c=>exact c
   | 4,c=>exact c
  simpa using hr (5+j) u this
 | i+2,f=>cases f
def opU (j:Nat) (l:List UInt8):Int:=if Bz l < 3+(j:Int) then Bz l else 0
theorem O5 (l:List UInt8):opU 0 l=0:=by
 unfold opU Bz
 repeat' split
 all_goals first | rfl | omega
theorem O4 (l:List UInt8):opU 5 l=Bz l:=by
 unfold opU Bz
 repeat' split
 all_goals first | rfl | omega
theorem Om (l:List UInt8) (j:Nat) (hj:j < 5):∃ y:ByteArray,[Value.string ⟨#[43]⟩,.string ⟨#[45]⟩,.string ⟨#[42]⟩,.string ⟨#[60]⟩,.string ⟨#[61,61]⟩][j]? = some (.string y)/\(l=y.data.toList->opU (j+1) l=3+(j:Int))/\(¬ l=y.data.toList->opU (j+1) l=opU j l):=by
 have h:j=0\/j=1\/j=2\/j=3\/j=4:=by omega
 rcases h with rfl | rfl | rfl | rfl | rfl
 ·refine ⟨_,rfl,fun h=>by rw [h];decide,fun h=>?_⟩
  have a:¬ l=[43]:=h;unfold opU Bz;simp only [a,if_false]
  repeat' split
  all_goals first | rfl | omega
 ·refine ⟨_,rfl,fun h=>by rw [h];decide,fun h=>?_⟩
  have a:¬ l=[45]:=h;unfold opU Bz;simp only [a,if_false]
  repeat' split
  all_goals first | rfl | omega
 ·refine ⟨_,rfl,fun h=>by rw [h];decide,fun h=>?_⟩
  have a:¬ l=[42]:=h;unfold opU Bz;simp only [a,if_false]
  repeat' split
  all_goals first | rfl | omega
 ·refine ⟨_,rfl,fun h=>by rw [h];decide,fun h=>?_⟩
  have a:¬ l=[60]:=h;unfold opU Bz;simp only [a,if_false]
  repeat' split
  all_goals first | rfl | omega
 ·refine ⟨_,rfl,fun h=>by rw [h];decide,fun h=>?_⟩
  have a:¬ l=[61,61]:=h;unfold opU Bz;simp only [a,if_false]
  repeat' split
  all_goals first | rfl | omega
theorem NL (hall:ts.all Ak=true) (f deep:Nat) (s:Sg) (w:World) (h:Sd rb tv ts en s w) (h1:¬ (tl ts s 0=[40]/\deep < 60)) (h2:¬ tl ts s 0=[45]) (h3:¬ Cv (tl ts s 0)=true) (hq40:tl ts s 0=[40]):Calls Tryz.prog 60 #[zf (some ⟨rb,0,none⟩),A J (deep:Int)] w (CH rb tv ts en (f+1) w s (AQ ts en (f+1) deep s)):=by
 obtain ⟨am,r⟩:=nm (AQ ts en (f+1) deep s);rw [<-r];have C:Hx (am=(fun p:ByteArray × Sg=>(eD 2 (AA ts en s.1) 0 p.1 [],p.2)) (Ay ts s)):=by show _=_;rw [r,AQ];rw [if_neg h1,if_neg h2,if_neg h3]
 obtain ⟨Q,I⟩:=nm s.1;have c:Hx (Rq rb tv ts en w Q (s) w):=by show Rq _ _ _ _ _ _ _ _;rw [I];exact Rq.start h
 have au:=Aa I;clear r I h;obtain ⟨V1,B⟩:=nm (w.alloc (zd #[A J 0,A J 0,A J 0,.string ⟨#[]⟩,O none 0 0] 49));obtain ⟨j,K⟩:=nm w.heap.size;have q:=K;have ae:Hx (w.heap.size<=j):=by show _<=_;rw [q];exact c.o.size
 have a:Hx (Bx j [A J 0,A J 0,A J 0,.string ⟨#[]⟩,O none 0 0] V1):=by show Bx _ _ _;rw [B,q];exact Bx.new w [A J 0,A J 0,A J 0,.string ⟨#[]⟩,O none 0 0] 49
 replace c:Hx (Rq rb tv ts en w Q (s) V1):=by show Rq _ _ _ _ _ _ _ _;rw [B];exact c.o.over (bA _ _)
 go_enter Tryz.func60,Tryz.ntmps60;obtain ⟨p,hp⟩:=nm (AA ts en (s).1);have KH:Hx (Ro 28 #[zf (some ⟨rb,0,none⟩)] V1 (A J p)):=by rw [hp];exact B5 s _ c.o.st
 go_wp2_with fail;rw [<-B,<-K];clear q;clear K B;refine KH.o.mono ?_;rintro e w2 ⟨rfl,G⟩;clear KH;replace a:=Aa (a.o.over G);replace c:Hx (Rq rb tv ts en w Q (s) w2):=c.o.over G;clear G;rw [<-hp] at C;clear hp;obtain ⟨V3,u⟩:=nm (w2.alloc (zd #[A J 1,A J p,A J 0,.string ⟨#[]⟩,O none 0 0] 49));obtain ⟨n,L⟩:=nm w2.heap.size;have l:=L;have P:Hx (w.heap.size<=n):=by show _<=_;rw [l];exact c.o.size
 have i:Hx (j < n):=by show _ < _;rw [l];exact a.o.lt
 have b:Hx (Bx n [A J 1,A J p,A J 0,.string ⟨#[]⟩,O none 0 0] V3):=by show Bx _ _ _;rw [u,l];exact Bx.new w2 [A J 1,A J p,A J 0,.string ⟨#[]⟩,O none 0 0] 49
 replace a:Hx (Bx j [A J 0,A J 0,A J 0,.string ⟨#[]⟩,O none 0 0] V3):=by show Bx _ _ _;rw [u];exact a.o.over (bA _ _)
 replace c:Hx (Rq rb tv ts en w Q (s) V3):=by show Rq _ _ _ _ _ _ _ _;rw [u];exact c.o.over (bA _ _)
 obtain ⟨t,ht⟩:=nm (tx ts s 0);have KT:Hx (Ro 57 #[zf (some ⟨rb,0,none⟩),A J 0] V3 (.string t)):=by rw [ht];exact AP 0 (by omega) s _ c.o.st
 have Ht:=Aa ht;clear ht;go_wp2_with fail;rw [<-u,<-L];clear l;clear L u;refine KT.o.mono ?_;rintro e w4 ⟨rfl,G⟩;clear KT;replace a:=Aa (a.o.over G);replace b:=Aa (b.o.over G);replace c:Hx (Rq rb tv ts en w Q (s) w4):=c.o.over G;clear G;have q1:(t.toList == [40])=true:=CO Ht.o hq40;have q2:(t.toList == [45])=false:=A9 Ht.o h2;have q3:(t.toList == [])=false:=A9 Ht.o (by rw [hq40];simp);have a1:¬ (deep:Int) < 60:=fun e=>h1 ⟨hq40,by omega⟩;have h0:0 < t.size:=by
  have e:t.data.toList.length=t.size:=rfl;have e2:t.data.toList=[40]:=by rw [Ht.o];exact hq40
  rw [e2] at e;simp at e;omega
 have R:isD t[0]=false:=by rw [<-CX t h0,Ht.o];exact Bool.eq_false_iff.2 h3
 clear h1 h2 h3 hq40;have KD:Hx (∀ X,Calls Tryz.prog 101 #[A .u8 (t[0].toNat:Int)] X fun e w'=>e=zg (zc false)/\X=w'):=fun X=>by
  have:=A3 t[0] X;rw [R] at this;exact this.mono fun e w' h=>⟨h.1,h.2.symm⟩
 clear R;go_wp2_with fail;refine (KD.o _).mono ?_;rintro e w' ⟨rfl,rfl⟩;clear KD;have E:j≠n:=by have:=i.o;omega
 have F:n≠j:=by have:=i.o;omega
 obtain ⟨ac,ce1,ab,aa,Z⟩:=rc5 b.o.row;obtain ⟨Y,V,U,T,S⟩:=fz5 b.o.fz;obtain ⟨V5,y⟩:=nm (w4.setCell ⟨n,0,none⟩ (A J 2));have g:w4.grownBy V5 (some n):=by rw [y];exact (gst (Ad _ _))
 replace b:Hx (Bx n [A J 2,A J p,A J 0,.string ⟨#[]⟩,O none 0 0] V5):=by show Bx _ _ _;rw [y];exact (b.o.se 0)
 replace a:=Aa (a.o.keep g (by have:=i.o;omega));replace c:=Aa (c.o.box g P.o);clear g;obtain ⟨px,H⟩:=nm (Ay ts s);obtain ⟨x,s1⟩:=px;have KM:=Aa (B2 hall s _ c.o.st);rw [<-H] at KM C;dsimp only at KM C;have bf:=Aa H;clear H;go_wp2_with fail;rw [<-y];clear S T U V Y Z aa ab ce1 ac F E;clear y;refine KM.o.mono ?_;rintro e w6 ⟨rfl,hq⟩;clear KM;have hg:=hq.1;replace a:=bkp a c.o.rlt ae hg;replace b:=bkp b c.o.rlt P hg;replace c:Hx (Rq rb tv ts en w Q (s1) w6):=Qo.rq c.o hq;clear hg hq;have E:j≠n:=by have:=i.o;omega
 have F:n≠j:=by have:=i.o;omega
 obtain ⟨ac,ce1,ab,aa,Z⟩:=rc5 b.o.row;obtain ⟨Y,V,U,T,S⟩:=fz5 b.o.fz;obtain ⟨bd,bc,bb,ba,a9⟩:=rc5 a.o.row;obtain ⟨a7,a6,a5,a4,a3⟩:=fz5 a.o.fz;obtain ⟨V7,N⟩:=nm (w6.setCell ⟨n,3,none⟩ (.string x));have g:w6.grownBy V7 (some n):=by rw [N];exact (gst (Ad _ _))
 replace b:Hx (Bx n [A J 2,A J p,A J 0,.string x,O none 0 0] V7):=by show Bx _ _ _;rw [N];exact (b.o.se 3)
 replace a:=Aa (a.o.keep g (by have:=i.o;omega));replace c:=Aa (c.o.box g P.o);clear g;obtain ⟨V8,M⟩:=nm (((((V7.setCell ⟨j,0,none⟩ (A J 2)).setCell ⟨j,1,none⟩ (A J p)).setCell ⟨j,2,none⟩ (A J 0)).setCell ⟨j,3,none⟩ (.string x)).setCell ⟨j,4,none⟩ (O none 0 0));have g:V7.grownBy V8 (some j):=by rw [M];exact (gst (gst (gst (gst (gst (Ad _ _))))))
 replace a:Hx (Bx j [A J 2,A J p,A J 0,.string x,O none 0 0] V8):=by show Bx _ _ _;rw [M];exact (((((a.o.se 0).se 1).se 2).se 3).se 4)
 replace b:=Aa (b.o.keep g (by have:=i.o;omega));replace c:=Aa (c.o.box g ae.o);clear g;go_wp2_with fail;refine bodyPost_ret (v:=ze #[A J 2,A J p,A J 0,.string x,O none 0 0]) (by simp [results,Tryz.results60,go_sem, *]) rfl ?_;rw [<-N,<-M];rw [C.o];refine ⟨_,_,_,_,_,_,_,rfl,fun W hW=>?_,c.o.gr,c.o.st,by rw [<-au.o];exact c.o.le⟩;exact ⟨2,p,0,x,_,[],rfl,rfl,LS.nil⟩
theorem NK (hall:ts.all Ak=true) (f deep:Nat) (s:Sg) (w:World) (h:Sd rb tv ts en s w) (h1:¬ (tl ts s 0=[40]/\deep < 60)) (h2:¬ tl ts s 0=[45]) (h3:¬ Cv (tl ts s 0)=true) (hq0:tl ts s 0=[]):Calls Tryz.prog 60 #[zf (some ⟨rb,0,none⟩),A J (deep:Int)] w (CH rb tv ts en (f+1) w s (AQ ts en (f+1) deep s)):=by
 obtain ⟨ai,r⟩:=nm (AQ ts en (f+1) deep s);rw [<-r];have C:Hx (ai=(fun p:ByteArray × Sg=>(eD 2 (AA ts en s.1) 0 p.1 [],p.2)) (Ay ts s)):=by show _=_;rw [r,AQ];rw [if_neg h1,if_neg h2,if_neg h3]
 obtain ⟨Q,I⟩:=nm s.1;have c:Hx (Rq rb tv ts en w Q (s) w):=by show Rq _ _ _ _ _ _ _ _;rw [I];exact Rq.start h
 have ap:=Aa I;clear r I h;obtain ⟨V1,B⟩:=nm (w.alloc (zd #[A J 0,A J 0,A J 0,.string ⟨#[]⟩,O none 0 0] 49));obtain ⟨j,K⟩:=nm w.heap.size;have q:=K;have ab:Hx (w.heap.size<=j):=by show _<=_;rw [q];exact c.o.size
 have a:Hx (Bx j [A J 0,A J 0,A J 0,.string ⟨#[]⟩,O none 0 0] V1):=by show Bx _ _ _;rw [B,q];exact Bx.new w [A J 0,A J 0,A J 0,.string ⟨#[]⟩,O none 0 0] 49
 replace c:Hx (Rq rb tv ts en w Q (s) V1):=by show Rq _ _ _ _ _ _ _ _;rw [B];exact c.o.over (bA _ _)
 go_enter Tryz.func60,Tryz.ntmps60;obtain ⟨p,hp⟩:=nm (AA ts en (s).1);have KH:Hx (Ro 28 #[zf (some ⟨rb,0,none⟩)] V1 (A J p)):=by rw [hp];exact B5 s _ c.o.st
 go_wp2_with fail;rw [<-B,<-K];clear q;clear K B;refine KH.o.mono ?_;rintro e w2 ⟨rfl,G⟩;clear KH;replace a:=Aa (a.o.over G);replace c:Hx (Rq rb tv ts en w Q (s) w2):=c.o.over G;clear G;rw [<-hp] at C;clear hp;obtain ⟨V3,u⟩:=nm (w2.alloc (zd #[A J 1,A J p,A J 0,.string ⟨#[]⟩,O none 0 0] 49));obtain ⟨n,L⟩:=nm w2.heap.size;have l:=L;have P:Hx (w.heap.size<=n):=by show _<=_;rw [l];exact c.o.size
 have i:Hx (j < n):=by show _ < _;rw [l];exact a.o.lt
 have b:Hx (Bx n [A J 1,A J p,A J 0,.string ⟨#[]⟩,O none 0 0] V3):=by show Bx _ _ _;rw [u,l];exact Bx.new w2 [A J 1,A J p,A J 0,.string ⟨#[]⟩,O none 0 0] 49
 replace a:Hx (Bx j [A J 0,A J 0,A J 0,.string ⟨#[]⟩,O none 0 0] V3):=by show Bx _ _ _;rw [u];exact a.o.over (bA _ _)
 replace c:Hx (Rq rb tv ts en w Q (s) V3):=by show Rq _ _ _ _ _ _ _ _;rw [u];exact c.o.over (bA _ _)
 obtain ⟨t,ht⟩:=nm (tx ts s 0);have KT:Hx (Ro 57 #[zf (some ⟨rb,0,none⟩),A J 0] V3 (.string t)):=by rw [ht];exact AP 0 (by omega) s _ c.o.st
 have Ht:=Aa ht;clear ht;go_wp2_with fail;rw [<-u,<-L];clear l;clear L u;refine KT.o.mono ?_;rintro e w4 ⟨rfl,G⟩;clear KT;replace a:=Aa (a.o.over G);replace b:=Aa (b.o.over G);replace c:Hx (Rq rb tv ts en w Q (s) w4):=c.o.over G;clear G;have q1:(t.toList == [40])=false:=A9 Ht.o (by rw [hq0];simp);have q2:(t.toList == [45])=false:=A9 Ht.o h2;have q3:(t.toList == [])=true:=CO Ht.o hq0;clear h1 h2 h3 hq0;have E:j≠n:=by have:=i.o;omega
 have F:n≠j:=by have:=i.o;omega
 obtain ⟨aa,ce1,Z,Y,X⟩:=rc5 b.o.row;obtain ⟨V,U,T,S,R⟩:=fz5 b.o.fz;obtain ⟨V5,y⟩:=nm (w4.setCell ⟨n,0,none⟩ (A J 2));have g:w4.grownBy V5 (some n):=by rw [y];exact (gst (Ad _ _))
 replace b:Hx (Bx n [A J 2,A J p,A J 0,.string ⟨#[]⟩,O none 0 0] V5):=by show Bx _ _ _;rw [y];exact (b.o.se 0)
 replace a:=Aa (a.o.keep g (by have:=i.o;omega));replace c:=Aa (c.o.box g P.o);clear g;obtain ⟨px,H⟩:=nm (Ay ts s);obtain ⟨x,s1⟩:=px;have KM:=Aa (B2 hall s _ c.o.st);rw [<-H] at KM C;dsimp only at KM C;have a7:=Aa H;clear H;go_wp2_with fail;rw [<-y];clear R S T U V X Y Z ce1 aa F E;clear y;refine KM.o.mono ?_;rintro e w6 ⟨rfl,hq⟩;clear KM;have hg:=hq.1;replace a:=bkp a c.o.rlt ab hg;replace b:=bkp b c.o.rlt P hg;replace c:Hx (Rq rb tv ts en w Q (s1) w6):=Qo.rq c.o hq;clear hg hq;have E:j≠n:=by have:=i.o;omega
 have F:n≠j:=by have:=i.o;omega
 obtain ⟨aa,ce1,Z,Y,X⟩:=rc5 b.o.row;obtain ⟨V,U,T,S,R⟩:=fz5 b.o.fz;obtain ⟨a6,a5,a4,a3,a2⟩:=rc5 a.o.row;obtain ⟨a1,a0,az,ay,ax⟩:=fz5 a.o.fz;obtain ⟨V7,N⟩:=nm (w6.setCell ⟨n,3,none⟩ (.string x));have g:w6.grownBy V7 (some n):=by rw [N];exact (gst (Ad _ _))
 replace b:Hx (Bx n [A J 2,A J p,A J 0,.string x,O none 0 0] V7):=by show Bx _ _ _;rw [N];exact (b.o.se 3)
 replace a:=Aa (a.o.keep g (by have:=i.o;omega));replace c:=Aa (c.o.box g P.o);clear g;obtain ⟨V8,M⟩:=nm (((((V7.setCell ⟨j,0,none⟩ (A J 2)).setCell ⟨j,1,none⟩ (A J p)).setCell ⟨j,2,none⟩ (A J 0)).setCell ⟨j,3,none⟩ (.string x)).setCell ⟨j,4,none⟩ (O none 0 0));have g:V7.grownBy V8 (some j):=by rw [M];exact (gst (gst (gst (gst (gst (Ad _ _))))))
 replace a:Hx (Bx j [A J 2,A J p,A J 0,.string x,O none 0 0] V8):=by show Bx _ _ _;rw [M];exact (((((a.o.se 0).se 1).se 2).se 3).se 4)
 replace b:=Aa (b.o.keep g (by have:=i.o;omega));replace c:=Aa (c.o.box g ab.o);clear g;go_wp2_with fail;refine bodyPost_ret (v:=ze #[A J 2,A J p,A J 0,.string x,O none 0 0]) (by simp [results,Tryz.results60,go_sem, *]) rfl ?_;rw [<-N,<-M];rw [C.o];refine ⟨_,_,_,_,_,_,_,rfl,fun W hW=>?_,c.o.gr,c.o.st,by rw [<-ap.o];exact c.o.le⟩;exact ⟨2,p,0,x,_,[],rfl,rfl,LS.nil⟩
theorem NJ (hall:ts.all Ak=true) (f deep:Nat) (s:Sg) (w:World) (h:Sd rb tv ts en s w) (h1:¬ (tl ts s 0=[40]/\deep < 60)) (h2:¬ tl ts s 0=[45]) (h3:¬ Cv (tl ts s 0)=true) (hq40:¬ tl ts s 0=[40]) (hq0:¬ tl ts s 0=[]):Calls Tryz.prog 60 #[zf (some ⟨rb,0,none⟩),A J (deep:Int)] w (CH rb tv ts en (f+1) w s (AQ ts en (f+1) deep s)):=by
 obtain ⟨am,r⟩:=nm (AQ ts en (f+1) deep s);rw [<-r];have C:Hx (am=(fun p:ByteArray × Sg=>(eD 2 (AA ts en s.1) 0 p.1 [],p.2)) (Ay ts s)):=by show _=_;rw [r,AQ];rw [if_neg h1,if_neg h2,if_neg h3]
 obtain ⟨Q,I⟩:=nm s.1;have c:Hx (Rq rb tv ts en w Q (s) w):=by show Rq _ _ _ _ _ _ _ _;rw [I];exact Rq.start h
 have au:=Aa I;clear r I h;obtain ⟨V1,B⟩:=nm (w.alloc (zd #[A J 0,A J 0,A J 0,.string ⟨#[]⟩,O none 0 0] 49));obtain ⟨j,K⟩:=nm w.heap.size;have q:=K;have ae:Hx (w.heap.size<=j):=by show _<=_;rw [q];exact c.o.size
 have a:Hx (Bx j [A J 0,A J 0,A J 0,.string ⟨#[]⟩,O none 0 0] V1):=by show Bx _ _ _;rw [B,q];exact Bx.new w [A J 0,A J 0,A J 0,.string ⟨#[]⟩,O none 0 0] 49
 replace c:Hx (Rq rb tv ts en w Q (s) V1):=by show Rq _ _ _ _ _ _ _ _;rw [B];exact c.o.over (bA _ _)
 go_enter Tryz.func60,Tryz.ntmps60;obtain ⟨p,hp⟩:=nm (AA ts en (s).1);have KH:Hx (Ro 28 #[zf (some ⟨rb,0,none⟩)] V1 (A J p)):=by rw [hp];exact B5 s _ c.o.st
 go_wp2_with fail;rw [<-B,<-K];clear q;clear K B;refine KH.o.mono ?_;rintro e w2 ⟨rfl,G⟩;clear KH;replace a:=Aa (a.o.over G);replace c:Hx (Rq rb tv ts en w Q (s) w2):=c.o.over G;clear G;rw [<-hp] at C;clear hp;obtain ⟨V3,u⟩:=nm (w2.alloc (zd #[A J 1,A J p,A J 0,.string ⟨#[]⟩,O none 0 0] 49));obtain ⟨n,L⟩:=nm w2.heap.size;have l:=L;have P:Hx (w.heap.size<=n):=by show _<=_;rw [l];exact c.o.size
 have i:Hx (j < n):=by show _ < _;rw [l];exact a.o.lt
 have b:Hx (Bx n [A J 1,A J p,A J 0,.string ⟨#[]⟩,O none 0 0] V3):=by show Bx _ _ _;rw [u,l];exact Bx.new w2 [A J 1,A J p,A J 0,.string ⟨#[]⟩,O none 0 0] 49
 replace a:Hx (Bx j [A J 0,A J 0,A J 0,.string ⟨#[]⟩,O none 0 0] V3):=by show Bx _ _ _;rw [u];exact a.o.over (bA _ _)
 replace c:Hx (Rq rb tv ts en w Q (s) V3):=by show Rq _ _ _ _ _ _ _ _;rw [u];exact c.o.over (bA _ _)
 obtain ⟨t,ht⟩:=nm (tx ts s 0);have KT:Hx (Ro 57 #[zf (some ⟨rb,0,none⟩),A J 0] V3 (.string t)):=by rw [ht];exact AP 0 (by omega) s _ c.o.st
 have Ht:=Aa ht;clear ht;go_wp2_with fail;rw [<-u,<-L];clear l;clear L u;refine KT.o.mono ?_;rintro e w4 ⟨rfl,G⟩;clear KT;replace a:=Aa (a.o.over G);replace b:=Aa (b.o.over G);replace c:Hx (Rq rb tv ts en w Q (s) w4):=c.o.over G;clear G;have q1:(t.toList == [40])=false:=A9 Ht.o hq40;have q2:(t.toList == [45])=false:=A9 Ht.o h2;have q3:(t.toList == [])=false:=A9 Ht.o hq0;have h0:0 < t.size:=by
  have e:t.data.toList.length=t.size:=rfl;have e2:t.data.toList≠[]:=by rw [Ht.o];exact hq0
  have:=List.length_pos_iff.2 e2;omega
 have R:isD t[0]=false:=by rw [<-CX t h0,Ht.o];exact Bool.eq_false_iff.2 h3
 clear h1 h2 h3 hq0 hq40;have KD:Hx (∀ X,Calls Tryz.prog 101 #[A .u8 (t[0].toNat:Int)] X fun e w'=>e=zg (zc false)/\X=w'):=fun X=>by
  have:=A3 t[0] X;rw [R] at this;exact this.mono fun e w' h=>⟨h.1,h.2.symm⟩
 clear R;go_wp2_with fail;refine (KD.o _).mono ?_;rintro e w' ⟨rfl,rfl⟩;clear KD;have E:j≠n:=by have:=i.o;omega
 have F:n≠j:=by have:=i.o;omega
 obtain ⟨ac,ce1,ab,aa,Z⟩:=rc5 b.o.row;obtain ⟨Y,V,U,T,S⟩:=fz5 b.o.fz;obtain ⟨V5,y⟩:=nm (w4.setCell ⟨n,0,none⟩ (A J 2));have g:w4.grownBy V5 (some n):=by rw [y];exact (gst (Ad _ _))
 replace b:Hx (Bx n [A J 2,A J p,A J 0,.string ⟨#[]⟩,O none 0 0] V5):=by show Bx _ _ _;rw [y];exact (b.o.se 0)
 replace a:=Aa (a.o.keep g (by have:=i.o;omega));replace c:=Aa (c.o.box g P.o);clear g;obtain ⟨px,H⟩:=nm (Ay ts s);obtain ⟨x,s1⟩:=px;have KM:=Aa (B2 hall s _ c.o.st);rw [<-H] at KM C;dsimp only at KM C;have bd:=Aa H;clear H;go_wp2_with fail;rw [<-y];clear S T U V Y Z aa ab ce1 ac F E;clear y;refine KM.o.mono ?_;rintro e w6 ⟨rfl,hq⟩;clear KM;have hg:=hq.1;replace a:=bkp a c.o.rlt ae hg;replace b:=bkp b c.o.rlt P hg;replace c:Hx (Rq rb tv ts en w Q (s1) w6):=Qo.rq c.o hq;clear hg hq;have E:j≠n:=by have:=i.o;omega
 have F:n≠j:=by have:=i.o;omega
 obtain ⟨ac,ce1,ab,aa,Z⟩:=rc5 b.o.row;obtain ⟨Y,V,U,T,S⟩:=fz5 b.o.fz;obtain ⟨bc,bb,ba,a9,a8⟩:=rc5 a.o.row;obtain ⟨a6,a5,a4,a3,a2⟩:=fz5 a.o.fz;obtain ⟨V7,N⟩:=nm (w6.setCell ⟨n,3,none⟩ (.string x));have g:w6.grownBy V7 (some n):=by rw [N];exact (gst (Ad _ _))
 replace b:Hx (Bx n [A J 2,A J p,A J 0,.string x,O none 0 0] V7):=by show Bx _ _ _;rw [N];exact (b.o.se 3)
 replace a:=Aa (a.o.keep g (by have:=i.o;omega));replace c:=Aa (c.o.box g P.o);clear g;obtain ⟨V8,M⟩:=nm (((((V7.setCell ⟨j,0,none⟩ (A J 2)).setCell ⟨j,1,none⟩ (A J p)).setCell ⟨j,2,none⟩ (A J 0)).setCell ⟨j,3,none⟩ (.string x)).setCell ⟨j,4,none⟩ (O none 0 0));have g:V7.grownBy V8 (some j):=by rw [M];exact (gst (gst (gst (gst (gst (Ad _ _))))))
 replace a:Hx (Bx j [A J 2,A J p,A J 0,.string x,O none 0 0] V8):=by show Bx _ _ _;rw [M];exact (((((a.o.se 0).se 1).se 2).se 3).se 4)
 replace b:=Aa (b.o.keep g (by have:=i.o;omega));replace c:=Aa (c.o.box g ae.o);clear g;go_wp2_with fail;refine bodyPost_ret (v:=ze #[A J 2,A J p,A J 0,.string x,O none 0 0]) (by simp [results,Tryz.results60,go_sem, *]) rfl ?_;rw [<-N,<-M];rw [C.o];refine ⟨_,_,_,_,_,_,_,rfl,fun W hW=>?_,c.o.gr,c.o.st,by rw [<-au.o];exact c.o.le⟩;exact ⟨2,p,0,x,_,[],rfl,rfl,LS.nil⟩
theorem OD (hall:ts.all Ak=true) (f deep:Nat) (s:Sg) (w:World) (h:Sd rb tv ts en s w) (h2:¬ tl ts s 0=[45]) (h3:Cv (tl ts s 0)=true):Calls Tryz.prog 60 #[zf (some ⟨rb,0,none⟩),A J (deep:Int)] w (CH rb tv ts en (f+1) w s (AQ ts en (f+1) deep s)):=by
 obtain ⟨aj,q⟩:=nm (AQ ts en (f+1) deep s);rw [<-q];have y:Hx (aj=(fun p:Int × Sg=>(eD 1 (AA ts en s.1) p.1 noS [],p.2)) (DH ts s)):=by show _=_;rw [q,AQ];rw [if_neg (fun e=>by rw [e.1] at h3;exact absurd h3 (by decide)),if_neg h2,if_pos h3]
 obtain ⟨M,G⟩:=nm s.1;have c:Hx (Rq rb tv ts en w M (s) w):=by show Rq _ _ _ _ _ _ _ _;rw [G];exact Rq.start h
 have ap:=Aa G;clear q G h;obtain ⟨V1,u⟩:=nm (w.alloc (zd #[A J 0,A J 0,A J 0,.string ⟨#[]⟩,O none 0 0] 49));obtain ⟨l,H⟩:=nm w.heap.size;have n:=H;have ab:Hx (w.heap.size<=l):=by show _<=_;rw [n];exact c.o.size
 have a:Hx (Bx l [A J 0,A J 0,A J 0,.string ⟨#[]⟩,O none 0 0] V1):=by show Bx _ _ _;rw [u,n];exact Bx.new w [A J 0,A J 0,A J 0,.string ⟨#[]⟩,O none 0 0] 49
 replace c:Hx (Rq rb tv ts en w M (s) V1):=by show Rq _ _ _ _ _ _ _ _;rw [u];exact c.o.over (bA _ _)
 go_enter Tryz.func60,Tryz.ntmps60;obtain ⟨p,hp⟩:=nm (AA ts en (s).1);have KH:Hx (Ro 28 #[zf (some ⟨rb,0,none⟩)] V1 (A J p)):=by rw [hp];exact B5 s _ c.o.st
 go_wp2_with fail;rw [<-u,<-H];clear n;clear H u;refine KH.o.mono ?_;rintro e w2 ⟨rfl,B⟩;clear KH;replace a:=Aa (a.o.over B);replace c:Hx (Rq rb tv ts en w M (s) w2):=c.o.over B;clear B;rw [<-hp] at y;clear hp;obtain ⟨V3,r⟩:=nm (w2.alloc (zd #[A J 1,A J p,A J 0,.string ⟨#[]⟩,O none 0 0] 49));obtain ⟨C,I⟩:=nm w2.heap.size;have i:=I;have ac:Hx (w.heap.size<=C):=by show _<=_;rw [i];exact c.o.size
 have j:Hx (l < C):=by show _ < _;rw [i];exact a.o.lt
 have b:Hx (Bx C [A J 1,A J p,A J 0,.string ⟨#[]⟩,O none 0 0] V3):=by show Bx _ _ _;rw [r,i];exact Bx.new w2 [A J 1,A J p,A J 0,.string ⟨#[]⟩,O none 0 0] 49
 replace a:Hx (Bx l [A J 0,A J 0,A J 0,.string ⟨#[]⟩,O none 0 0] V3):=by show Bx _ _ _;rw [r];exact a.o.over (bA _ _)
 replace c:Hx (Rq rb tv ts en w M (s) V3):=by show Rq _ _ _ _ _ _ _ _;rw [r];exact c.o.over (bA _ _)
 obtain ⟨t,ht⟩:=nm (tx ts s 0);have KT:Hx (Ro 57 #[zf (some ⟨rb,0,none⟩),A J 0] V3 (.string t)):=by rw [ht];exact AP 0 (by omega) s _ c.o.st
 have Ht:=Aa ht;clear ht;go_wp2_with fail;rw [<-r,<-I];clear i;clear I r;refine KT.o.mono ?_;rintro e w4 ⟨rfl,B⟩;clear KT;replace a:=Aa (a.o.over B);replace b:=Aa (b.o.over B);replace c:Hx (Rq rb tv ts en w M (s) w4):=c.o.over B;clear B;have q1:(t.toList == [40])=false:=A9 Ht.o fun e=>by rw [e] at h3;exact absurd h3 (by decide)
 have q2:(t.toList == [45])=false:=A9 Ht.o h2;have E:¬ tl ts s 0=[]:=fun e=>by rw [e] at h3;exact absurd h3 (by decide)
 have q3:(t.toList == [])=false:=A9 Ht.o E;have h0:0 < t.size:=by
  have e:t.data.toList.length=t.size:=rfl;have e2:t.data.toList≠[]:=by rw [Ht.o];exact E
  have:=List.length_pos_iff.2 e2;omega
 have N:isD t[0]=true:=by rw [<-CX t h0,Ht.o];exact h3
 clear E;clear h2 h3;have KD:Hx (∀ X,Calls Tryz.prog 101 #[A .u8 (t[0].toNat:Int)] X fun e w'=>e=zg (zc true)/\X=w'):=fun X=>by
  have:=A3 t[0] X;rw [N] at this;exact this.mono fun e w' h=>⟨h.1,h.2.symm⟩
 clear N;go_wp2_with fail;refine (KD.o _).mono ?_;rintro e w' ⟨rfl,rfl⟩;clear KD;obtain ⟨px,F⟩:=nm (DH ts s);obtain ⟨x,s1⟩:=px;have KM:=Aa (FV hall s _ c.o.st);rw [<-F] at KM y;dsimp only at KM y;have bc:=Aa F;clear F;obtain ⟨Z,ce1,Y,V,U⟩:=rc5 b.o.row;obtain ⟨T,S,R,Q,P⟩:=fz5 b.o.fz;go_wp2_with fail;clear P Q R S T U V Y ce1 Z;refine KM.o.mono ?_;rintro e w5 ⟨rfl,hq⟩;clear KM;have hg:=hq.1;replace a:=bkp a c.o.rlt ab hg;replace b:=bkp b c.o.rlt ac hg;replace c:Hx (Rq rb tv ts en w M (s1) w5):=Qo.rq c.o hq;clear hg hq;obtain ⟨Z,ce1,Y,V,U⟩:=rc5 b.o.row;obtain ⟨T,S,R,Q,P⟩:=fz5 b.o.fz;obtain ⟨bb,ba,a9,a8,a7⟩:=rc5 a.o.row;obtain ⟨a5,a4,a3,a2,a1⟩:=fz5 a.o.fz;have aq:l≠C:=by have:=j.o;omega
 have ar:C≠l:=by have:=j.o;omega
 obtain ⟨V6,L⟩:=nm (w5.setCell ⟨C,2,none⟩ (A J x));have g:w5.grownBy V6 (some C):=by rw [L];exact (gst (Ad _ _))
 replace b:Hx (Bx C [A J 1,A J p,A J x,.string ⟨#[]⟩,O none 0 0] V6):=by show Bx _ _ _;rw [L];exact (b.o.se 2)
 replace a:=Aa (a.o.keep g (by have:=j.o;omega));replace c:=Aa (c.o.box g ac.o);clear g;obtain ⟨V7,K⟩:=nm (((((V6.setCell ⟨l,0,none⟩ (A J 1)).setCell ⟨l,1,none⟩ (A J p)).setCell ⟨l,2,none⟩ (A J x)).setCell ⟨l,3,none⟩ (.string ⟨#[]⟩)).setCell ⟨l,4,none⟩ (O none 0 0));have g:V6.grownBy V7 (some l):=by rw [K];exact (gst (gst (gst (gst (gst (Ad _ _))))))
 replace a:Hx (Bx l [A J 1,A J p,A J x,.string ⟨#[]⟩,O none 0 0] V7):=by show Bx _ _ _;rw [K];exact (((((a.o.se 0).se 1).se 2).se 3).se 4)
 replace b:=Aa (b.o.keep g (by have:=j.o;omega));replace c:=Aa (c.o.box g ab.o);clear g;go_wp2_with fail;refine bodyPost_ret (v:=ze #[A J 1,A J p,A J x,.string ⟨#[]⟩,O none 0 0]) (by simp [results,Tryz.results60,go_sem, *]) rfl ?_;rw [<-L,<-K];rw [y.o];refine ⟨_,_,_,_,_,_,_,rfl,fun W hW=>?_,c.o.gr,c.o.st,by rw [<-ap.o];exact c.o.le⟩;exact ⟨1,p,x,⟨#[]⟩,_,[],rfl,rfl,LS.nil⟩
theorem GE (hall:ts.all Ak=true) (s:Sg) (x:Int) (s':Sg) (h:(x,s')=DH ts s):-9223372036854775807<=x/\x<=9223372036854775807:=by
 unfold DH at h;split at h
 ·rename_i a
  injection h with c b;have:=(Gr hall s a).2.2.1;omega
 ·injection h with c b
  omega
theorem OE (hall:ts.all Ak=true) (f deep:Nat) (s:Sg) (w:World) (h:Sd rb tv ts en s w) (h2:tl ts s 0=[45]):Calls Tryz.prog 60 #[zf (some ⟨rb,0,none⟩),A J (deep:Int)] w (CH rb tv ts en (f+1) w s (AQ ts en (f+1) deep s)):=by
 obtain ⟨a1,K⟩:=nm (AQ ts en (f+1) deep s);rw [<-K];have j:Hx (a1=(fun q:Sg=>(fun p:Int × Sg=>(eD 1 (AA ts en s.1) (-p.1) noS [],p.2)) (DH ts (if tl ts q 0=[48] then B8 q else q))) (Af ts [45] s)):=by show _=_;rw [K,AQ];rw [if_neg (fun e=>by rw [e.1] at h2;exact absurd h2 (by decide)),if_pos h2]
 obtain ⟨Y,ae⟩:=nm s.1;have c:Hx (Rq rb tv ts en w Y (s) w):=by show Rq _ _ _ _ _ _ _ _;rw [ae];exact Rq.start h
 have ap:=Aa ae;clear K ae h;obtain ⟨V1,ab⟩:=nm (w.alloc (zd #[A J 0,A J 0,A J 0,.string ⟨#[]⟩,O none 0 0] 49));obtain ⟨l,af⟩:=nm w.heap.size;have I:=af;have G:Hx (w.heap.size<=l):=by show _<=_;rw [I];exact c.o.size
 have a:Hx (Bx l [A J 0,A J 0,A J 0,.string ⟨#[]⟩,O none 0 0] V1):=by show Bx _ _ _;rw [ab,I];exact Bx.new w [A J 0,A J 0,A J 0,.string ⟨#[]⟩,O none 0 0] 49
 replace c:Hx (Rq rb tv ts en w Y (s) V1):=by show Rq _ _ _ _ _ _ _ _;rw [ab];exact c.o.over (bA _ _)
 go_enter Tryz.func60,Tryz.ntmps60;obtain ⟨p,hp⟩:=nm (AA ts en (s).1);have KH:Hx (Ro 28 #[zf (some ⟨rb,0,none⟩)] V1 (A J p)):=by rw [hp];exact B5 s _ c.o.st
 go_wp2_with fail;rw [<-ab,<-af];clear I;clear af ab;refine KH.o.mono ?_;rintro e w2 ⟨rfl,E⟩;clear KH;replace a:=Aa (a.o.over E);replace c:Hx (Rq rb tv ts en w Y (s) w2):=c.o.over E;clear E;rw [<-hp] at j;clear hp;obtain ⟨V3,L⟩:=nm (w2.alloc (zd #[A J 1,A J p,A J 0,.string ⟨#[]⟩,O none 0 0] 49));obtain ⟨F,ag⟩:=nm w2.heap.size;have C:=ag;have H:Hx (w.heap.size<=F):=by show _<=_;rw [C];exact c.o.size
 have i:Hx (l < F):=by show _ < _;rw [C];exact a.o.lt
 have b:Hx (Bx F [A J 1,A J p,A J 0,.string ⟨#[]⟩,O none 0 0] V3):=by show Bx _ _ _;rw [L,C];exact Bx.new w2 [A J 1,A J p,A J 0,.string ⟨#[]⟩,O none 0 0] 49
 replace a:Hx (Bx l [A J 0,A J 0,A J 0,.string ⟨#[]⟩,O none 0 0] V3):=by show Bx _ _ _;rw [L];exact a.o.over (bA _ _)
 replace c:Hx (Rq rb tv ts en w Y (s) V3):=by show Rq _ _ _ _ _ _ _ _;rw [L];exact c.o.over (bA _ _)
 obtain ⟨t,ht⟩:=nm (tx ts s 0);have KT:Hx (Ro 57 #[zf (some ⟨rb,0,none⟩),A J 0] V3 (.string t)):=by rw [ht];exact AP 0 (by omega) s _ c.o.st
 have Ht:=Aa ht;clear ht;go_wp2_with fail;rw [<-L,<-ag];clear C;clear ag L;refine KT.o.mono ?_;rintro e w4 ⟨rfl,E⟩;clear KT;replace a:=Aa (a.o.over E);replace b:=Aa (b.o.over E);replace c:Hx (Rq rb tv ts en w Y (s) w4):=c.o.over E;clear E;have q1:(t.toList == [40])=false:=A9 Ht.o (by rw [h2];simp);have q2:(t.toList == [45])=true:=CO Ht.o h2;clear h2;obtain ⟨q,Z⟩:=nm (Af ts [45] s);have KN:=Aa (AD ⟨#[45]⟩ [45] rfl (by decide) s _ c.o.st);rw [<-Z] at KN;rw [<-Z] at j;have b0:=Aa Z;clear Z;go_wp2_with fail;refine KN.o.mono ?_;rintro e w5 ⟨rfl,n⟩;clear KN;have y:=n.1;replace a:=bkp a c.o.rlt G y;replace b:=bkp b c.o.rlt H y;replace c:Hx (Rq rb tv ts en w Y (q) w5):=Qo.rq c.o n;clear y n;clear q1 q2;obtain ⟨u,hu⟩:=nm (tx ts q 0);have KT:Hx (Ro 57 #[zf (some ⟨rb,0,none⟩),A J 0] w5 (.string u)):=by rw [hu];exact AP 0 (by omega) q _ c.o.st
 have Hu:=Aa hu;clear hu;go_wp2_with fail;refine KT.o.mono ?_;rintro e w6 ⟨rfl,E⟩;clear KT;replace a:=Aa (a.o.over E);replace b:=Aa (b.o.over E);replace c:Hx (Rq rb tv ts en w Y (q) w6):=c.o.over E;clear E;by_cases hz:tl ts q 0=[48]
 ·have q4:(u.toList == [48])=true:=CO Hu.o hz
  rw [if_pos hz] at j;clear hz;obtain ⟨X,ce1,V,U,T⟩:=rc5 b.o.row;obtain ⟨S,R,Q,P,N⟩:=fz5 b.o.fz;obtain ⟨a4,a3,rc2,a2,a0,az⟩:=c.o.st.cells;have aa:=c.o.st.fail;obtain ⟨V7,ai⟩:=nm (w6.setCell ⟨rb,3,none⟩ (zc true));rw [<-ai] at aa;have n:Qo rb tv ts en w6 q (B8 q) V7:=⟨aa.2,aa.1,Nat.le_refl _⟩;clear aa;obtain ⟨s2,ad⟩:=nm (B8 q);rw [<-ad] at n;have bn:=Aa ad;clear ad;have y:=n.1;replace a:=bkp a c.o.rlt G y;replace b:=bkp b c.o.rlt H y;replace c:Hx (Rq rb tv ts en w Y (s2) V7):=Qo.rq c.o n;clear y n;rw [<-bn.o] at j;obtain ⟨px,r⟩:=nm (DH ts s2);obtain ⟨x,s3⟩:=px;have KM:=Aa (FV hall s2 _ c.o.st);rw [<-r] at KM j;dsimp only at KM j;have ak:=Aa r;clear r;go_wp2_with fail;rw [<-ai];clear az a0 a2 rc2 a3 a4 N P Q R S T U V ce1 X;clear ai;refine KM.o.mono ?_;rintro e w8 ⟨rfl,n⟩;clear KM;have y:=n.1;replace a:=bkp a c.o.rlt G y;replace b:=bkp b c.o.rlt H y;replace c:Hx (Rq rb tv ts en w Y (s3) w8):=Qo.rq c.o n;clear y n;have a6:-9223372036854775807<=x/\x<=9223372036854775807:=GE hall s2 x s3 ak.o;obtain ⟨X,ce1,V,U,T⟩:=rc5 b.o.row;obtain ⟨S,R,Q,P,N⟩:=fz5 b.o.fz;obtain ⟨bk,bj,bi,bh,bg⟩:=rc5 a.o.row;obtain ⟨bf,bd,bc,bb,ba⟩:=fz5 a.o.fz;have am:l≠F:=by have:=i.o;omega
  have an:F≠l:=by have:=i.o;omega
  obtain ⟨V9,B⟩:=nm (w8.setCell ⟨F,2,none⟩ (A J (-x)));have g:w8.grownBy V9 (some F):=by rw [B];exact (gst (Ad _ _))
  replace b:Hx (Bx F [A J 1,A J p,A J (-x),.string ⟨#[]⟩,O none 0 0] V9):=by show Bx _ _ _;rw [B];exact (b.o.se 2)
  replace a:=Aa (a.o.keep g (by have:=i.o;omega));replace c:=Aa (c.o.box g H.o);clear g;obtain ⟨ao,M⟩:=nm (((((V9.setCell ⟨l,0,none⟩ (A J 1)).setCell ⟨l,1,none⟩ (A J p)).setCell ⟨l,2,none⟩ (A J (-x))).setCell ⟨l,3,none⟩ (.string ⟨#[]⟩)).setCell ⟨l,4,none⟩ (O none 0 0));have g:V9.grownBy ao (some l):=by rw [M];exact (gst (gst (gst (gst (gst (Ad _ _))))))
  replace a:Hx (Bx l [A J 1,A J p,A J (-x),.string ⟨#[]⟩,O none 0 0] ao):=by show Bx _ _ _;rw [M];exact (((((a.o.se 0).se 1).se 2).se 3).se 4)
  replace b:=Aa (b.o.keep g (by have:=i.o;omega));replace c:=Aa (c.o.box g G.o);clear g;go_wp2_with fail;refine bodyPost_ret (v:=ze #[A J 1,A J p,A J (-x),.string ⟨#[]⟩,O none 0 0]) (by simp [results,Tryz.results60,go_sem, *]) rfl ?_;rw [<-B,<-M];rw [j.o];refine ⟨_,_,_,_,_,_,_,rfl,fun W hW=>?_,c.o.gr,c.o.st,by rw [<-ap.o];exact c.o.le⟩;exact ⟨1,p,-x,⟨#[]⟩,_,[],rfl,rfl,LS.nil⟩
 ·have q4:(u.toList == [48])=false:=A9 Hu.o hz
  rw [if_neg hz] at j;clear hz;obtain ⟨px,r⟩:=nm (DH ts q);obtain ⟨x,s3⟩:=px;have KM:=Aa (FV hall q _ c.o.st);rw [<-r] at KM j;dsimp only at KM j;have ak:=Aa r;clear r;obtain ⟨X,ce1,V,U,T⟩:=rc5 b.o.row;obtain ⟨S,R,Q,P,N⟩:=fz5 b.o.fz;go_wp2_with fail;clear N P Q R S T U V ce1 X;refine KM.o.mono ?_;rintro e w7 ⟨rfl,n⟩;clear KM;have y:=n.1;replace a:=bkp a c.o.rlt G y;replace b:=bkp b c.o.rlt H y;replace c:Hx (Rq rb tv ts en w Y (s3) w7):=Qo.rq c.o n;clear y n;have a6:-9223372036854775807<=x/\x<=9223372036854775807:=GE hall q x s3 ak.o;obtain ⟨X,ce1,V,U,T⟩:=rc5 b.o.row;obtain ⟨S,R,Q,P,N⟩:=fz5 b.o.fz;obtain ⟨bk,bj,bi,bh,bg⟩:=rc5 a.o.row;obtain ⟨bf,bd,bc,bb,ba⟩:=fz5 a.o.fz;have am:l≠F:=by have:=i.o;omega
  have an:F≠l:=by have:=i.o;omega
  obtain ⟨V8,ah⟩:=nm (w7.setCell ⟨F,2,none⟩ (A J (-x)));have g:w7.grownBy V8 (some F):=by rw [ah];exact (gst (Ad _ _))
  replace b:Hx (Bx F [A J 1,A J p,A J (-x),.string ⟨#[]⟩,O none 0 0] V8):=by show Bx _ _ _;rw [ah];exact (b.o.se 2)
  replace a:=Aa (a.o.keep g (by have:=i.o;omega));replace c:=Aa (c.o.box g H.o);clear g;obtain ⟨V9,B⟩:=nm (((((V8.setCell ⟨l,0,none⟩ (A J 1)).setCell ⟨l,1,none⟩ (A J p)).setCell ⟨l,2,none⟩ (A J (-x))).setCell ⟨l,3,none⟩ (.string ⟨#[]⟩)).setCell ⟨l,4,none⟩ (O none 0 0));have g:V8.grownBy V9 (some l):=by rw [B];exact (gst (gst (gst (gst (gst (Ad _ _))))))
  replace a:Hx (Bx l [A J 1,A J p,A J (-x),.string ⟨#[]⟩,O none 0 0] V9):=by show Bx _ _ _;rw [B];exact (((((a.o.se 0).se 1).se 2).se 3).se 4)
  replace b:=Aa (b.o.keep g (by have:=i.o;omega));replace c:=Aa (c.o.box g G.o);clear g;go_wp2_with fail;refine bodyPost_ret (v:=ze #[A J 1,A J p,A J (-x),.string ⟨#[]⟩,O none 0 0]) (by simp [results,Tryz.results60,go_sem, *]) rfl ?_;rw [<-ah,<-B];rw [j.o];refine ⟨_,_,_,_,_,_,_,rfl,fun W hW=>?_,c.o.gr,c.o.st,by rw [<-ap.o];exact c.o.le⟩;exact ⟨1,p,-x,⟨#[]⟩,_,[],rfl,rfl,LS.nil⟩
end
end Go.Proofs.YtipngnjffjajpaaGreatDoor.Tx
