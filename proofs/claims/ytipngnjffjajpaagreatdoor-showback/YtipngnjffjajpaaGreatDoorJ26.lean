/- The document's reader in memory: expressions. -/
import Derived.Test.YtipngnjffjajpaaGreatDoorJ25
set_option linter.unusedVariables false
set_option maxHeartbeats 8000000
set_option maxRecDepth 100000
namespace Go.Proofs.YtipngnjffjajpaaGreatDoor.Tx
open Go.RowKit
open Go.Value renaming int -> I, slice -> zc, bool -> zd, pointer -> zf, agg -> zg, tuple -> zi
open Go.IntKind renaming i64 -> O
open Go.Obj renaming cells -> ze
open Go.Ending renaming returned -> zh
section
variable {rb:Nat} {tv:Value} {ts:List Tok} {en:Nat}
theorem BX (x:ByteArray) (l:List UInt8) (hl:x.data.toList=l) (hx:l≠[]) (s:Sg) (w:World) (h:Sd rb tv ts en s w):Calls Tryz.prog 26 #[zf (some ⟨rb,0,none⟩),.string x] w fun e w'=>e=zh (zi #[])/\Qo rb tv ts en w s (AB ts l s) w':=by
 rw [<-hl];exact Qa x (by rw [hl];exact hx) s w h
def C3 (rb:Nat) (tv:Value) (ts:List Tok) (en f:Nat) (w:World) (s:Sg) (r:D × Sg) (e:Ending) (w':World):Prop:=∃ (kd a n:Int) (x:ByteArray) (ao:Option Addr) (l c:Nat),e=zh (zg #[I O kd,I O a,I O n,.string x,zc ao l c])/\Off w.heap.size none w' (fun W=>XE W f [I O kd,I O a,I O n,.string x,zc ao l c] r.1)/\Qo rb tv ts en w s r.2 w'
def PY (rb:Nat) (tv:Value) (ts:List Tok) (en f deep:Nat):Prop:=∀ (s:Sg) (w:World),Sd rb tv ts en s w->Calls Tryz.prog 60 #[zf (some ⟨rb,0,none⟩),I O (deep:Int)] w (C3 rb tv ts en f w s (BJ ts en f deep s))
theorem Off.bx {B b:Nat} {cs:List Value} {V:World} (h:Bx b cs V) (hb:B<=b):Off B none V (fun W=>Af cs W b/\Fz0 W b 0):=fun W hW=>⟨fun j u hu=>by
 rw [World.cell?_of_block (a:=⟨b,j,none⟩) (hW b hb h.lt (by simp))];exact h.row j u hu,Fz0.of_block ⟨h.lt,h.fz 0⟩ (hW b hb h.lt (by simp))⟩
theorem LS.two {α:Type} {R:List Value->α->Prop} {w:World} {b:Nat} {a0 a1 a2 a3 a4 b0 b1 b2 b3 b4:Value} {d1 d2:α} (hr0:Af [a0,a1,a2,a3,a4,b0,b1,b2,b3,b4] w b/\Fz0 w b 0) (r1:R [a0,a1,a2,a3,a4] d1) (r2:R [b0,b1,b2,b3,b4] d2):LS 5 R w (zc (some ⟨b,0,none⟩) 2 2) [d1,d2]:=by
 have hr:=hr0.1;refine ⟨by show 2<=maxLen;decide,some ⟨b,0,none⟩,2,rfl,fun _=>⟨b,0,rfl,hr0.2,fun i a f=>?_⟩⟩
 match i,f with
 | 0,f=>
  injection f with f;subst f;refine ⟨_,rfl,fun j u c=>?_,r1⟩;have g:j < 5:=(List.getElem?_eq_some_iff.1 c).1;have:[a0,a1,a2,a3,a4,b0,b1,b2,b3,b4][j]? = some u:=by
   match j,c with
   | 0,c=>exact c
   | 1,c=>exact c
   | 2,c=>exact c
   | 3,c=>exact c
   | 4,c=>exact c
  simpa using hr j u this
 | 1,f=>
  injection f with f;subst f;refine ⟨_,rfl,fun j u c=>?_,r2⟩;have g:j < 5:=(List.getElem?_eq_some_iff.1 c).1;have:[a0,a1,a2,a3,a4,b0,b1,b2,b3,b4][5+j]? = some u:=by
   match j,c with
   | 0,c=>exact c
   | 1,c=>exact c
   | 2,c=>exact c
   | 3,c=>exact c
   | 4,c=>exact c
  simpa using hr (5+j) u this
 | i+2,f=>cases f
def opU (j:Nat) (l:List UInt8):Int:=if A0 l < 3+(j:Int) then A0 l else 0
theorem Q7 (l:List UInt8):opU 0 l=0:=by
 unfold opU A0
 repeat' split
 all_goals first | rfl | omega
theorem Q6 (l:List UInt8):opU 5 l=A0 l:=by
 unfold opU A0
 repeat' split
 all_goals first | rfl | omega
theorem P9 (l:List UInt8) (j:Nat) (hj:j < 5):∃ y:ByteArray,[Value.string ⟨#[43]⟩,.string ⟨#[45]⟩,.string ⟨#[42]⟩,.string ⟨#[60]⟩,.string ⟨#[61,61]⟩][j]? = some (.string y)/\(l=y.data.toList->opU (j+1) l=3+(j:Int))/\(¬ l=y.data.toList->opU (j+1) l=opU j l):=by
 have h:j=0\/j=1\/j=2\/j=3\/j=4:=by omega
 rcases h with rfl | rfl | rfl | rfl | rfl
 ·refine ⟨_,rfl,fun h=>by rw [h];decide,fun h=>?_⟩
  have a:¬ l=[43]:=h;unfold opU A0;simp only [a,if_false]
  repeat' split
  all_goals first | rfl | omega
 ·refine ⟨_,rfl,fun h=>by rw [h];decide,fun h=>?_⟩
  have a:¬ l=[45]:=h;unfold opU A0;simp only [a,if_false]
  repeat' split
  all_goals first | rfl | omega
 ·refine ⟨_,rfl,fun h=>by rw [h];decide,fun h=>?_⟩
  have a:¬ l=[42]:=h;unfold opU A0;simp only [a,if_false]
  repeat' split
  all_goals first | rfl | omega
 ·refine ⟨_,rfl,fun h=>by rw [h];decide,fun h=>?_⟩
  have a:¬ l=[60]:=h;unfold opU A0;simp only [a,if_false]
  repeat' split
  all_goals first | rfl | omega
 ·refine ⟨_,rfl,fun h=>by rw [h];decide,fun h=>?_⟩
  have a:¬ l=[61,61]:=h;unfold opU A0;simp only [a,if_false]
  repeat' split
  all_goals first | rfl | omega
theorem Pt (hall:ts.all Ao=true) (f deep:Nat) (s:Sg) (w:World) (h:Sd rb tv ts en s w) (h1:¬ (tl ts s 0=[40]/\deep < 60)) (h2:¬ tl ts s 0=[45]) (h3:¬ C8 (tl ts s 0)=true) (hq40:tl ts s 0=[40]):Calls Tryz.prog 60 #[zf (some ⟨rb,0,none⟩),I O (deep:Int)] w (C3 rb tv ts en (f+1) w s (BJ ts en (f+1) deep s)):=by
 obtain ⟨am,u⟩:=nm (BJ ts en (f+1) deep s);rw [<-u];have C:Hx (am=(fun p:ByteArray × Sg=>(eD 2 (Av ts en s.1) 0 p.1 [],p.2)) (A9 ts s)):=by show _=_;rw [u,BJ];rw [if_neg h1,if_neg h2,if_neg h3]
 obtain ⟨Q,J⟩:=nm s.1;have c:Hx (Rq rb tv ts en w Q (s) w):=by show Rq _ _ _ _ _ _ _ _;rw [J];exact Rq.start h
 have au:=Aa J;clear u J h;obtain ⟨V1,B⟩:=nm (w.alloc (ze #[I O 0,I O 0,I O 0,.string ⟨#[]⟩,zc none 0 0] 49));obtain ⟨j,K⟩:=nm w.heap.size;have r:=K;have ae:Hx (w.heap.size<=j):=by show _<=_;rw [r];exact c.o.size
 have a:Hx (Bx j [I O 0,I O 0,I O 0,.string ⟨#[]⟩,zc none 0 0] V1):=by show Bx _ _ _;rw [B,r];exact Bx.new w [I O 0,I O 0,I O 0,.string ⟨#[]⟩,zc none 0 0] 49
 replace c:Hx (Rq rb tv ts en w Q (s) V1):=by show Rq _ _ _ _ _ _ _ _;rw [B];exact c.o.over (bA _ _)
 go_enter Tryz.func60,Tryz.ntmps60;obtain ⟨p,hp⟩:=nm (Av ts en (s).1);have KH:Hx (Ro 28 #[zf (some ⟨rb,0,none⟩)] V1 (I O p)):=by rw [hp];exact DZ s _ c.o.st
 go_wp2_with fail;rw [<-B,<-K];clear r;clear K B;refine KH.o.mono ?_;rintro e w2 ⟨rfl,G⟩;clear KH;replace a:=Aa (a.o.over G);replace c:Hx (Rq rb tv ts en w Q (s) w2):=c.o.over G;clear G;rw [<-hp] at C;clear hp;obtain ⟨V3,y⟩:=nm (w2.alloc (ze #[I O 1,I O p,I O 0,.string ⟨#[]⟩,zc none 0 0] 49));obtain ⟨n,L⟩:=nm w2.heap.size;have l:=L;have P:Hx (w.heap.size<=n):=by show _<=_;rw [l];exact c.o.size
 have i:Hx (j < n):=by show _ < _;rw [l];exact a.o.lt
 have b:Hx (Bx n [I O 1,I O p,I O 0,.string ⟨#[]⟩,zc none 0 0] V3):=by show Bx _ _ _;rw [y,l];exact Bx.new w2 [I O 1,I O p,I O 0,.string ⟨#[]⟩,zc none 0 0] 49
 replace a:Hx (Bx j [I O 0,I O 0,I O 0,.string ⟨#[]⟩,zc none 0 0] V3):=by show Bx _ _ _;rw [y];exact a.o.over (bA _ _)
 replace c:Hx (Rq rb tv ts en w Q (s) V3):=by show Rq _ _ _ _ _ _ _ _;rw [y];exact c.o.over (bA _ _)
 obtain ⟨t,ht⟩:=nm (tx ts s 0);have KT:Hx (Ro 57 #[zf (some ⟨rb,0,none⟩),I O 0] V3 (.string t)):=by rw [ht];exact BO 0 (by omega) s _ c.o.st
 have Ht:=Aa ht;clear ht;go_wp2_with fail;rw [<-y,<-L];clear l;clear L y;refine KT.o.mono ?_;rintro e w4 ⟨rfl,G⟩;clear KT;replace a:=Aa (a.o.over G);replace b:=Aa (b.o.over G);replace c:Hx (Rq rb tv ts en w Q (s) w4):=c.o.over G;clear G;have q1:(t.toList == [40])=true:=G7 Ht.o hq40;have q2:(t.toList == [45])=false:=DB Ht.o h2;have q3:(t.toList == [])=false:=DB Ht.o (by rw [hq40];simp);have a0:¬ (deep:Int) < 60:=fun e=>h1 ⟨hq40,by omega⟩;have h0:0 < t.size:=by
  have e:t.data.toList.length=t.size:=rfl;have e2:t.data.toList=[40]:=by rw [Ht.o];exact hq40
  rw [e2] at e;simp at e;omega
 have R:isD t[0]=false:=by rw [<-Dt t h0,Ht.o];exact Bool.eq_false_iff.2 h3
 clear h1 h2 h3 hq40;have KD:Hx (∀ X,Calls Tryz.prog 101 #[I .u8 (t[0].toNat:Int)] X fun e w'=>e=zh (zd false)/\X=w'):=fun X=>by
  have:=Bg t[0] X;rw [R] at this;exact this.mono fun e w' h=>⟨h.1,h.2.symm⟩
 clear R;go_wp2_with fail;refine (KD.o _).mono ?_;rintro e w' ⟨rfl,rfl⟩;clear KD;have E:j≠n:=by have:=i.o;omega
 have F:n≠j:=by have:=i.o;omega
 obtain ⟨ac,ce1,ab,aa,Z⟩:=rc5 b.o.row;obtain ⟨Y,V,U,T,S⟩:=fz5 b.o.fz;obtain ⟨V5,A⟩:=nm (w4.setCell ⟨n,0,none⟩ (I O 2));have g:w4.grownBy V5 (some n):=by rw [A];exact (gst (Ah _ _))
 replace b:Hx (Bx n [I O 2,I O p,I O 0,.string ⟨#[]⟩,zc none 0 0] V5):=by show Bx _ _ _;rw [A];exact (b.o.se 0)
 replace a:=Aa (a.o.keep g (by have:=i.o;omega));replace c:=Aa (c.o.box g P.o);clear g;obtain ⟨px,H⟩:=nm (A9 ts s);obtain ⟨x,s1⟩:=px;have KM:=Aa (Es hall s _ c.o.st);rw [<-H] at KM C;dsimp only at KM C;have bd:=Aa H;clear H;go_wp2_with fail;rw [<-A];clear S T U V Y Z aa ab ce1 ac F E;clear A;refine KM.o.mono ?_;rintro e w6 ⟨rfl,hq⟩;clear KM;have hg:=hq.1;replace a:=bkp a c.o.rlt ae hg;replace b:=bkp b c.o.rlt P hg;replace c:Hx (Rq rb tv ts en w Q (s1) w6):=Qo.rq c.o hq;clear hg hq;have E:j≠n:=by have:=i.o;omega
 have F:n≠j:=by have:=i.o;omega
 obtain ⟨ac,ce1,ab,aa,Z⟩:=rc5 b.o.row;obtain ⟨Y,V,U,T,S⟩:=fz5 b.o.fz;obtain ⟨bc,bb,ba,a9,a8⟩:=rc5 a.o.row;obtain ⟨a6,a5,a4,a3,a2⟩:=fz5 a.o.fz;obtain ⟨V7,N⟩:=nm (w6.setCell ⟨n,3,none⟩ (.string x));have g:w6.grownBy V7 (some n):=by rw [N];exact (gst (Ah _ _))
 replace b:Hx (Bx n [I O 2,I O p,I O 0,.string x,zc none 0 0] V7):=by show Bx _ _ _;rw [N];exact (b.o.se 3)
 replace a:=Aa (a.o.keep g (by have:=i.o;omega));replace c:=Aa (c.o.box g P.o);clear g;obtain ⟨V8,M⟩:=nm (((((V7.setCell ⟨j,0,none⟩ (I O 2)).setCell ⟨j,1,none⟩ (I O p)).setCell ⟨j,2,none⟩ (I O 0)).setCell ⟨j,3,none⟩ (.string x)).setCell ⟨j,4,none⟩ (zc none 0 0));have g:V7.grownBy V8 (some j):=by rw [M];exact (gst (gst (gst (gst (gst (Ah _ _))))))
 replace a:Hx (Bx j [I O 2,I O p,I O 0,.string x,zc none 0 0] V8):=by show Bx _ _ _;rw [M];exact (((((a.o.se 0).se 1).se 2).se 3).se 4)
 replace b:=Aa (b.o.keep g (by have:=i.o;omega));replace c:=Aa (c.o.box g ae.o);clear g;go_wp2_with fail;refine bodyPost_ret (v:=zg #[I O 2,I O p,I O 0,.string x,zc none 0 0]) (by simp [results,Tryz.results60,go_sem, *]) rfl ?_;rw [<-N,<-M];rw [C.o];refine ⟨_,_,_,_,_,_,_,rfl,fun W hW=>?_,c.o.gr,c.o.st,by rw [<-au.o];exact c.o.le⟩;exact ⟨2,p,0,x,_,[],rfl,rfl,LS.nil⟩
theorem Ps (hall:ts.all Ao=true) (f deep:Nat) (s:Sg) (w:World) (h:Sd rb tv ts en s w) (h1:¬ (tl ts s 0=[40]/\deep < 60)) (h2:¬ tl ts s 0=[45]) (h3:¬ C8 (tl ts s 0)=true) (hq0:tl ts s 0=[]):Calls Tryz.prog 60 #[zf (some ⟨rb,0,none⟩),I O (deep:Int)] w (C3 rb tv ts en (f+1) w s (BJ ts en (f+1) deep s)):=by
 obtain ⟨ai,u⟩:=nm (BJ ts en (f+1) deep s);rw [<-u];have C:Hx (ai=(fun p:ByteArray × Sg=>(eD 2 (Av ts en s.1) 0 p.1 [],p.2)) (A9 ts s)):=by show _=_;rw [u,BJ];rw [if_neg h1,if_neg h2,if_neg h3]
 obtain ⟨Q,J⟩:=nm s.1;have c:Hx (Rq rb tv ts en w Q (s) w):=by show Rq _ _ _ _ _ _ _ _;rw [J];exact Rq.start h
 have ap:=Aa J;clear u J h;obtain ⟨V1,B⟩:=nm (w.alloc (ze #[I O 0,I O 0,I O 0,.string ⟨#[]⟩,zc none 0 0] 49));obtain ⟨j,K⟩:=nm w.heap.size;have r:=K;have ab:Hx (w.heap.size<=j):=by show _<=_;rw [r];exact c.o.size
 have a:Hx (Bx j [I O 0,I O 0,I O 0,.string ⟨#[]⟩,zc none 0 0] V1):=by show Bx _ _ _;rw [B,r];exact Bx.new w [I O 0,I O 0,I O 0,.string ⟨#[]⟩,zc none 0 0] 49
 replace c:Hx (Rq rb tv ts en w Q (s) V1):=by show Rq _ _ _ _ _ _ _ _;rw [B];exact c.o.over (bA _ _)
 go_enter Tryz.func60,Tryz.ntmps60;obtain ⟨p,hp⟩:=nm (Av ts en (s).1);have KH:Hx (Ro 28 #[zf (some ⟨rb,0,none⟩)] V1 (I O p)):=by rw [hp];exact DZ s _ c.o.st
 go_wp2_with fail;rw [<-B,<-K];clear r;clear K B;refine KH.o.mono ?_;rintro e w2 ⟨rfl,G⟩;clear KH;replace a:=Aa (a.o.over G);replace c:Hx (Rq rb tv ts en w Q (s) w2):=c.o.over G;clear G;rw [<-hp] at C;clear hp;obtain ⟨V3,y⟩:=nm (w2.alloc (ze #[I O 1,I O p,I O 0,.string ⟨#[]⟩,zc none 0 0] 49));obtain ⟨n,L⟩:=nm w2.heap.size;have l:=L;have P:Hx (w.heap.size<=n):=by show _<=_;rw [l];exact c.o.size
 have i:Hx (j < n):=by show _ < _;rw [l];exact a.o.lt
 have b:Hx (Bx n [I O 1,I O p,I O 0,.string ⟨#[]⟩,zc none 0 0] V3):=by show Bx _ _ _;rw [y,l];exact Bx.new w2 [I O 1,I O p,I O 0,.string ⟨#[]⟩,zc none 0 0] 49
 replace a:Hx (Bx j [I O 0,I O 0,I O 0,.string ⟨#[]⟩,zc none 0 0] V3):=by show Bx _ _ _;rw [y];exact a.o.over (bA _ _)
 replace c:Hx (Rq rb tv ts en w Q (s) V3):=by show Rq _ _ _ _ _ _ _ _;rw [y];exact c.o.over (bA _ _)
 obtain ⟨t,ht⟩:=nm (tx ts s 0);have KT:Hx (Ro 57 #[zf (some ⟨rb,0,none⟩),I O 0] V3 (.string t)):=by rw [ht];exact BO 0 (by omega) s _ c.o.st
 have Ht:=Aa ht;clear ht;go_wp2_with fail;rw [<-y,<-L];clear l;clear L y;refine KT.o.mono ?_;rintro e w4 ⟨rfl,G⟩;clear KT;replace a:=Aa (a.o.over G);replace b:=Aa (b.o.over G);replace c:Hx (Rq rb tv ts en w Q (s) w4):=c.o.over G;clear G;have q1:(t.toList == [40])=false:=DB Ht.o (by rw [hq0];simp);have q2:(t.toList == [45])=false:=DB Ht.o h2;have q3:(t.toList == [])=true:=G7 Ht.o hq0;clear h1 h2 h3 hq0;have E:j≠n:=by have:=i.o;omega
 have F:n≠j:=by have:=i.o;omega
 obtain ⟨aa,ce1,Z,Y,X⟩:=rc5 b.o.row;obtain ⟨V,U,T,S,R⟩:=fz5 b.o.fz;obtain ⟨V5,A⟩:=nm (w4.setCell ⟨n,0,none⟩ (I O 2));have g:w4.grownBy V5 (some n):=by rw [A];exact (gst (Ah _ _))
 replace b:Hx (Bx n [I O 2,I O p,I O 0,.string ⟨#[]⟩,zc none 0 0] V5):=by show Bx _ _ _;rw [A];exact (b.o.se 0)
 replace a:=Aa (a.o.keep g (by have:=i.o;omega));replace c:=Aa (c.o.box g P.o);clear g;obtain ⟨px,H⟩:=nm (A9 ts s);obtain ⟨x,s1⟩:=px;have KM:=Aa (Es hall s _ c.o.st);rw [<-H] at KM C;dsimp only at KM C;have a6:=Aa H;clear H;go_wp2_with fail;rw [<-A];clear R S T U V X Y Z ce1 aa F E;clear A;refine KM.o.mono ?_;rintro e w6 ⟨rfl,hq⟩;clear KM;have hg:=hq.1;replace a:=bkp a c.o.rlt ab hg;replace b:=bkp b c.o.rlt P hg;replace c:Hx (Rq rb tv ts en w Q (s1) w6):=Qo.rq c.o hq;clear hg hq;have E:j≠n:=by have:=i.o;omega
 have F:n≠j:=by have:=i.o;omega
 obtain ⟨aa,ce1,Z,Y,X⟩:=rc5 b.o.row;obtain ⟨V,U,T,S,R⟩:=fz5 b.o.fz;obtain ⟨a5,a4,a3,a2,a1⟩:=rc5 a.o.row;obtain ⟨a0,az,ay,ax,aw⟩:=fz5 a.o.fz;obtain ⟨V7,N⟩:=nm (w6.setCell ⟨n,3,none⟩ (.string x));have g:w6.grownBy V7 (some n):=by rw [N];exact (gst (Ah _ _))
 replace b:Hx (Bx n [I O 2,I O p,I O 0,.string x,zc none 0 0] V7):=by show Bx _ _ _;rw [N];exact (b.o.se 3)
 replace a:=Aa (a.o.keep g (by have:=i.o;omega));replace c:=Aa (c.o.box g P.o);clear g;obtain ⟨V8,M⟩:=nm (((((V7.setCell ⟨j,0,none⟩ (I O 2)).setCell ⟨j,1,none⟩ (I O p)).setCell ⟨j,2,none⟩ (I O 0)).setCell ⟨j,3,none⟩ (.string x)).setCell ⟨j,4,none⟩ (zc none 0 0));have g:V7.grownBy V8 (some j):=by rw [M];exact (gst (gst (gst (gst (gst (Ah _ _))))))
 replace a:Hx (Bx j [I O 2,I O p,I O 0,.string x,zc none 0 0] V8):=by show Bx _ _ _;rw [M];exact (((((a.o.se 0).se 1).se 2).se 3).se 4)
 replace b:=Aa (b.o.keep g (by have:=i.o;omega));replace c:=Aa (c.o.box g ab.o);clear g;go_wp2_with fail;refine bodyPost_ret (v:=zg #[I O 2,I O p,I O 0,.string x,zc none 0 0]) (by simp [results,Tryz.results60,go_sem, *]) rfl ?_;rw [<-N,<-M];rw [C.o];refine ⟨_,_,_,_,_,_,_,rfl,fun W hW=>?_,c.o.gr,c.o.st,by rw [<-ap.o];exact c.o.le⟩;exact ⟨2,p,0,x,_,[],rfl,rfl,LS.nil⟩
theorem Pr (hall:ts.all Ao=true) (f deep:Nat) (s:Sg) (w:World) (h:Sd rb tv ts en s w) (h1:¬ (tl ts s 0=[40]/\deep < 60)) (h2:¬ tl ts s 0=[45]) (h3:¬ C8 (tl ts s 0)=true) (hq40:¬ tl ts s 0=[40]) (hq0:¬ tl ts s 0=[]):Calls Tryz.prog 60 #[zf (some ⟨rb,0,none⟩),I O (deep:Int)] w (C3 rb tv ts en (f+1) w s (BJ ts en (f+1) deep s)):=by
 obtain ⟨am,u⟩:=nm (BJ ts en (f+1) deep s);rw [<-u];have C:Hx (am=(fun p:ByteArray × Sg=>(eD 2 (Av ts en s.1) 0 p.1 [],p.2)) (A9 ts s)):=by show _=_;rw [u,BJ];rw [if_neg h1,if_neg h2,if_neg h3]
 obtain ⟨Q,J⟩:=nm s.1;have c:Hx (Rq rb tv ts en w Q (s) w):=by show Rq _ _ _ _ _ _ _ _;rw [J];exact Rq.start h
 have au:=Aa J;clear u J h;obtain ⟨V1,B⟩:=nm (w.alloc (ze #[I O 0,I O 0,I O 0,.string ⟨#[]⟩,zc none 0 0] 49));obtain ⟨j,K⟩:=nm w.heap.size;have r:=K;have ae:Hx (w.heap.size<=j):=by show _<=_;rw [r];exact c.o.size
 have a:Hx (Bx j [I O 0,I O 0,I O 0,.string ⟨#[]⟩,zc none 0 0] V1):=by show Bx _ _ _;rw [B,r];exact Bx.new w [I O 0,I O 0,I O 0,.string ⟨#[]⟩,zc none 0 0] 49
 replace c:Hx (Rq rb tv ts en w Q (s) V1):=by show Rq _ _ _ _ _ _ _ _;rw [B];exact c.o.over (bA _ _)
 go_enter Tryz.func60,Tryz.ntmps60;obtain ⟨p,hp⟩:=nm (Av ts en (s).1);have KH:Hx (Ro 28 #[zf (some ⟨rb,0,none⟩)] V1 (I O p)):=by rw [hp];exact DZ s _ c.o.st
 go_wp2_with fail;rw [<-B,<-K];clear r;clear K B;refine KH.o.mono ?_;rintro e w2 ⟨rfl,G⟩;clear KH;replace a:=Aa (a.o.over G);replace c:Hx (Rq rb tv ts en w Q (s) w2):=c.o.over G;clear G;rw [<-hp] at C;clear hp;obtain ⟨V3,y⟩:=nm (w2.alloc (ze #[I O 1,I O p,I O 0,.string ⟨#[]⟩,zc none 0 0] 49));obtain ⟨n,L⟩:=nm w2.heap.size;have l:=L;have P:Hx (w.heap.size<=n):=by show _<=_;rw [l];exact c.o.size
 have i:Hx (j < n):=by show _ < _;rw [l];exact a.o.lt
 have b:Hx (Bx n [I O 1,I O p,I O 0,.string ⟨#[]⟩,zc none 0 0] V3):=by show Bx _ _ _;rw [y,l];exact Bx.new w2 [I O 1,I O p,I O 0,.string ⟨#[]⟩,zc none 0 0] 49
 replace a:Hx (Bx j [I O 0,I O 0,I O 0,.string ⟨#[]⟩,zc none 0 0] V3):=by show Bx _ _ _;rw [y];exact a.o.over (bA _ _)
 replace c:Hx (Rq rb tv ts en w Q (s) V3):=by show Rq _ _ _ _ _ _ _ _;rw [y];exact c.o.over (bA _ _)
 obtain ⟨t,ht⟩:=nm (tx ts s 0);have KT:Hx (Ro 57 #[zf (some ⟨rb,0,none⟩),I O 0] V3 (.string t)):=by rw [ht];exact BO 0 (by omega) s _ c.o.st
 have Ht:=Aa ht;clear ht;go_wp2_with fail;rw [<-y,<-L];clear l;clear L y;refine KT.o.mono ?_;rintro e w4 ⟨rfl,G⟩;clear KT;replace a:=Aa (a.o.over G);replace b:=Aa (b.o.over G);replace c:Hx (Rq rb tv ts en w Q (s) w4):=c.o.over G;clear G;have q1:(t.toList == [40])=false:=DB Ht.o hq40;have q2:(t.toList == [45])=false:=DB Ht.o h2;have q3:(t.toList == [])=false:=DB Ht.o hq0;have h0:0 < t.size:=by
  have e:t.data.toList.length=t.size:=rfl;have e2:t.data.toList≠[]:=by rw [Ht.o];exact hq0
  have:=List.length_pos_iff.2 e2;omega
 have R:isD t[0]=false:=by rw [<-Dt t h0,Ht.o];exact Bool.eq_false_iff.2 h3
 clear h1 h2 h3 hq0 hq40;have KD:Hx (∀ X,Calls Tryz.prog 101 #[I .u8 (t[0].toNat:Int)] X fun e w'=>e=zh (zd false)/\X=w'):=fun X=>by
  have:=Bg t[0] X;rw [R] at this;exact this.mono fun e w' h=>⟨h.1,h.2.symm⟩
 clear R;go_wp2_with fail;refine (KD.o _).mono ?_;rintro e w' ⟨rfl,rfl⟩;clear KD;have E:j≠n:=by have:=i.o;omega
 have F:n≠j:=by have:=i.o;omega
 obtain ⟨ac,ce1,ab,aa,Z⟩:=rc5 b.o.row;obtain ⟨Y,V,U,T,S⟩:=fz5 b.o.fz;obtain ⟨V5,A⟩:=nm (w4.setCell ⟨n,0,none⟩ (I O 2));have g:w4.grownBy V5 (some n):=by rw [A];exact (gst (Ah _ _))
 replace b:Hx (Bx n [I O 2,I O p,I O 0,.string ⟨#[]⟩,zc none 0 0] V5):=by show Bx _ _ _;rw [A];exact (b.o.se 0)
 replace a:=Aa (a.o.keep g (by have:=i.o;omega));replace c:=Aa (c.o.box g P.o);clear g;obtain ⟨px,H⟩:=nm (A9 ts s);obtain ⟨x,s1⟩:=px;have KM:=Aa (Es hall s _ c.o.st);rw [<-H] at KM C;dsimp only at KM C;have bc:=Aa H;clear H;go_wp2_with fail;rw [<-A];clear S T U V Y Z aa ab ce1 ac F E;clear A;refine KM.o.mono ?_;rintro e w6 ⟨rfl,hq⟩;clear KM;have hg:=hq.1;replace a:=bkp a c.o.rlt ae hg;replace b:=bkp b c.o.rlt P hg;replace c:Hx (Rq rb tv ts en w Q (s1) w6):=Qo.rq c.o hq;clear hg hq;have E:j≠n:=by have:=i.o;omega
 have F:n≠j:=by have:=i.o;omega
 obtain ⟨ac,ce1,ab,aa,Z⟩:=rc5 b.o.row;obtain ⟨Y,V,U,T,S⟩:=fz5 b.o.fz;obtain ⟨bb,ba,a9,a8,a7⟩:=rc5 a.o.row;obtain ⟨a5,a4,a3,a2,a1⟩:=fz5 a.o.fz;obtain ⟨V7,N⟩:=nm (w6.setCell ⟨n,3,none⟩ (.string x));have g:w6.grownBy V7 (some n):=by rw [N];exact (gst (Ah _ _))
 replace b:Hx (Bx n [I O 2,I O p,I O 0,.string x,zc none 0 0] V7):=by show Bx _ _ _;rw [N];exact (b.o.se 3)
 replace a:=Aa (a.o.keep g (by have:=i.o;omega));replace c:=Aa (c.o.box g P.o);clear g;obtain ⟨V8,M⟩:=nm (((((V7.setCell ⟨j,0,none⟩ (I O 2)).setCell ⟨j,1,none⟩ (I O p)).setCell ⟨j,2,none⟩ (I O 0)).setCell ⟨j,3,none⟩ (.string x)).setCell ⟨j,4,none⟩ (zc none 0 0));have g:V7.grownBy V8 (some j):=by rw [M];exact (gst (gst (gst (gst (gst (Ah _ _))))))
 replace a:Hx (Bx j [I O 2,I O p,I O 0,.string x,zc none 0 0] V8):=by show Bx _ _ _;rw [M];exact (((((a.o.se 0).se 1).se 2).se 3).se 4)
 replace b:=Aa (b.o.keep g (by have:=i.o;omega));replace c:=Aa (c.o.box g ae.o);clear g;go_wp2_with fail;refine bodyPost_ret (v:=zg #[I O 2,I O p,I O 0,.string x,zc none 0 0]) (by simp [results,Tryz.results60,go_sem, *]) rfl ?_;rw [<-N,<-M];rw [C.o];refine ⟨_,_,_,_,_,_,_,rfl,fun W hW=>?_,c.o.gr,c.o.st,by rw [<-au.o];exact c.o.le⟩;exact ⟨2,p,0,x,_,[],rfl,rfl,LS.nil⟩
theorem Ql (hall:ts.all Ao=true) (f deep:Nat) (s:Sg) (w:World) (h:Sd rb tv ts en s w) (h2:¬ tl ts s 0=[45]) (h3:C8 (tl ts s 0)=true):Calls Tryz.prog 60 #[zf (some ⟨rb,0,none⟩),I O (deep:Int)] w (C3 rb tv ts en (f+1) w s (BJ ts en (f+1) deep s)):=by
 obtain ⟨aj,r⟩:=nm (BJ ts en (f+1) deep s);rw [<-r];have A:Hx (aj=(fun p:Int × Sg=>(eD 1 (Av ts en s.1) p.1 noS [],p.2)) (E7 ts s)):=by show _=_;rw [r,BJ];rw [if_neg (fun e=>by rw [e.1] at h3;exact absurd h3 (by decide)),if_neg h2,if_pos h3]
 obtain ⟨M,G⟩:=nm s.1;have c:Hx (Rq rb tv ts en w M (s) w):=by show Rq _ _ _ _ _ _ _ _;rw [G];exact Rq.start h
 have ap:=Aa G;clear r G h;obtain ⟨V1,y⟩:=nm (w.alloc (ze #[I O 0,I O 0,I O 0,.string ⟨#[]⟩,zc none 0 0] 49));obtain ⟨l,H⟩:=nm w.heap.size;have n:=H;have ab:Hx (w.heap.size<=l):=by show _<=_;rw [n];exact c.o.size
 have a:Hx (Bx l [I O 0,I O 0,I O 0,.string ⟨#[]⟩,zc none 0 0] V1):=by show Bx _ _ _;rw [y,n];exact Bx.new w [I O 0,I O 0,I O 0,.string ⟨#[]⟩,zc none 0 0] 49
 replace c:Hx (Rq rb tv ts en w M (s) V1):=by show Rq _ _ _ _ _ _ _ _;rw [y];exact c.o.over (bA _ _)
 go_enter Tryz.func60,Tryz.ntmps60;obtain ⟨p,hp⟩:=nm (Av ts en (s).1);have KH:Hx (Ro 28 #[zf (some ⟨rb,0,none⟩)] V1 (I O p)):=by rw [hp];exact DZ s _ c.o.st
 go_wp2_with fail;rw [<-y,<-H];clear n;clear H y;refine KH.o.mono ?_;rintro e w2 ⟨rfl,B⟩;clear KH;replace a:=Aa (a.o.over B);replace c:Hx (Rq rb tv ts en w M (s) w2):=c.o.over B;clear B;rw [<-hp] at A;clear hp;obtain ⟨V3,u⟩:=nm (w2.alloc (ze #[I O 1,I O p,I O 0,.string ⟨#[]⟩,zc none 0 0] 49));obtain ⟨C,J⟩:=nm w2.heap.size;have i:=J;have ac:Hx (w.heap.size<=C):=by show _<=_;rw [i];exact c.o.size
 have j:Hx (l < C):=by show _ < _;rw [i];exact a.o.lt
 have b:Hx (Bx C [I O 1,I O p,I O 0,.string ⟨#[]⟩,zc none 0 0] V3):=by show Bx _ _ _;rw [u,i];exact Bx.new w2 [I O 1,I O p,I O 0,.string ⟨#[]⟩,zc none 0 0] 49
 replace a:Hx (Bx l [I O 0,I O 0,I O 0,.string ⟨#[]⟩,zc none 0 0] V3):=by show Bx _ _ _;rw [u];exact a.o.over (bA _ _)
 replace c:Hx (Rq rb tv ts en w M (s) V3):=by show Rq _ _ _ _ _ _ _ _;rw [u];exact c.o.over (bA _ _)
 obtain ⟨t,ht⟩:=nm (tx ts s 0);have KT:Hx (Ro 57 #[zf (some ⟨rb,0,none⟩),I O 0] V3 (.string t)):=by rw [ht];exact BO 0 (by omega) s _ c.o.st
 have Ht:=Aa ht;clear ht;go_wp2_with fail;rw [<-u,<-J];clear i;clear J u;refine KT.o.mono ?_;rintro e w4 ⟨rfl,B⟩;clear KT;replace a:=Aa (a.o.over B);replace b:=Aa (b.o.over B);replace c:Hx (Rq rb tv ts en w M (s) w4):=c.o.over B;clear B;have q1:(t.toList == [40])=false:=DB Ht.o fun e=>by rw [e] at h3;exact absurd h3 (by decide)
 have q2:(t.toList == [45])=false:=DB Ht.o h2;have E:¬ tl ts s 0=[]:=fun e=>by rw [e] at h3;exact absurd h3 (by decide)
 have q3:(t.toList == [])=false:=DB Ht.o E;have h0:0 < t.size:=by
  have e:t.data.toList.length=t.size:=rfl;have e2:t.data.toList≠[]:=by rw [Ht.o];exact E
  have:=List.length_pos_iff.2 e2;omega
 have N:isD t[0]=true:=by rw [<-Dt t h0,Ht.o];exact h3
 clear E;clear h2 h3;have KD:Hx (∀ X,Calls Tryz.prog 101 #[I .u8 (t[0].toNat:Int)] X fun e w'=>e=zh (zd true)/\X=w'):=fun X=>by
  have:=Bg t[0] X;rw [N] at this;exact this.mono fun e w' h=>⟨h.1,h.2.symm⟩
 clear N;go_wp2_with fail;refine (KD.o _).mono ?_;rintro e w' ⟨rfl,rfl⟩;clear KD;obtain ⟨px,F⟩:=nm (E7 ts s);obtain ⟨x,s1⟩:=px;have KM:=Aa (GF hall s _ c.o.st);rw [<-F] at KM A;dsimp only at KM A;have bb:=Aa F;clear F;obtain ⟨Z,ce1,Y,V,U⟩:=rc5 b.o.row;obtain ⟨T,S,R,Q,P⟩:=fz5 b.o.fz;go_wp2_with fail;clear P Q R S T U V Y ce1 Z;refine KM.o.mono ?_;rintro e w5 ⟨rfl,hq⟩;clear KM;have hg:=hq.1;replace a:=bkp a c.o.rlt ab hg;replace b:=bkp b c.o.rlt ac hg;replace c:Hx (Rq rb tv ts en w M (s1) w5):=Qo.rq c.o hq;clear hg hq;obtain ⟨Z,ce1,Y,V,U⟩:=rc5 b.o.row;obtain ⟨T,S,R,Q,P⟩:=fz5 b.o.fz;obtain ⟨ba,a9,a8,a7,a6⟩:=rc5 a.o.row;obtain ⟨a4,a3,a2,a1,a0⟩:=fz5 a.o.fz;have aq:l≠C:=by have:=j.o;omega
 have ar:C≠l:=by have:=j.o;omega
 obtain ⟨V6,L⟩:=nm (w5.setCell ⟨C,2,none⟩ (I O x));have g:w5.grownBy V6 (some C):=by rw [L];exact (gst (Ah _ _))
 replace b:Hx (Bx C [I O 1,I O p,I O x,.string ⟨#[]⟩,zc none 0 0] V6):=by show Bx _ _ _;rw [L];exact (b.o.se 2)
 replace a:=Aa (a.o.keep g (by have:=j.o;omega));replace c:=Aa (c.o.box g ac.o);clear g;obtain ⟨V7,K⟩:=nm (((((V6.setCell ⟨l,0,none⟩ (I O 1)).setCell ⟨l,1,none⟩ (I O p)).setCell ⟨l,2,none⟩ (I O x)).setCell ⟨l,3,none⟩ (.string ⟨#[]⟩)).setCell ⟨l,4,none⟩ (zc none 0 0));have g:V6.grownBy V7 (some l):=by rw [K];exact (gst (gst (gst (gst (gst (Ah _ _))))))
 replace a:Hx (Bx l [I O 1,I O p,I O x,.string ⟨#[]⟩,zc none 0 0] V7):=by show Bx _ _ _;rw [K];exact (((((a.o.se 0).se 1).se 2).se 3).se 4)
 replace b:=Aa (b.o.keep g (by have:=j.o;omega));replace c:=Aa (c.o.box g ab.o);clear g;go_wp2_with fail;refine bodyPost_ret (v:=zg #[I O 1,I O p,I O x,.string ⟨#[]⟩,zc none 0 0]) (by simp [results,Tryz.results60,go_sem, *]) rfl ?_;rw [<-L,<-K];rw [A.o];refine ⟨_,_,_,_,_,_,_,rfl,fun W hW=>?_,c.o.gr,c.o.st,by rw [<-ap.o];exact c.o.le⟩;exact ⟨1,p,x,⟨#[]⟩,_,[],rfl,rfl,LS.nil⟩
theorem Hv (hall:ts.all Ao=true) (s:Sg) (x:Int) (s':Sg) (h:(x,s')=E7 ts s):-9223372036854775807<=x/\x<=9223372036854775807:=by
 unfold E7 at h;split at h
 ·rename_i a
  injection h with c b;have:=(Hj hall s a).2.2.1;omega
 ·injection h with c b
  omega
theorem Qm (hall:ts.all Ao=true) (f deep:Nat) (s:Sg) (w:World) (h:Sd rb tv ts en s w) (h2:tl ts s 0=[45]):Calls Tryz.prog 60 #[zf (some ⟨rb,0,none⟩),I O (deep:Int)] w (C3 rb tv ts en (f+1) w s (BJ ts en (f+1) deep s)):=by
 obtain ⟨a0,J⟩:=nm (BJ ts en (f+1) deep s);rw [<-J];have j:Hx (a0=(fun s1:Sg=>(fun p:Int × Sg=>(eD 1 (Av ts en s.1) (-p.1) noS [],p.2)) (E7 ts (if tl ts s1 0=[48] then Dy s1 else s1))) (AB ts [45] s)):=by show _=_;rw [J,BJ];rw [if_neg (fun e=>by rw [e.1] at h2;exact absurd h2 (by decide)),if_pos h2]
 obtain ⟨X,ad⟩:=nm s.1;have c:Hx (Rq rb tv ts en w X (s) w):=by show Rq _ _ _ _ _ _ _ _;rw [ad];exact Rq.start h
 have ao:=Aa ad;clear J ad h;obtain ⟨V1,aa⟩:=nm (w.alloc (ze #[I O 0,I O 0,I O 0,.string ⟨#[]⟩,zc none 0 0] 49));obtain ⟨l,ae⟩:=nm w.heap.size;have H:=ae;have F:Hx (w.heap.size<=l):=by show _<=_;rw [H];exact c.o.size
 have a:Hx (Bx l [I O 0,I O 0,I O 0,.string ⟨#[]⟩,zc none 0 0] V1):=by show Bx _ _ _;rw [aa,H];exact Bx.new w [I O 0,I O 0,I O 0,.string ⟨#[]⟩,zc none 0 0] 49
 replace c:Hx (Rq rb tv ts en w X (s) V1):=by show Rq _ _ _ _ _ _ _ _;rw [aa];exact c.o.over (bA _ _)
 go_enter Tryz.func60,Tryz.ntmps60;obtain ⟨p,hp⟩:=nm (Av ts en (s).1);have KH:Hx (Ro 28 #[zf (some ⟨rb,0,none⟩)] V1 (I O p)):=by rw [hp];exact DZ s _ c.o.st
 go_wp2_with fail;rw [<-aa,<-ae];clear H;clear ae aa;refine KH.o.mono ?_;rintro e w2 ⟨rfl,C⟩;clear KH;replace a:=Aa (a.o.over C);replace c:Hx (Rq rb tv ts en w X (s) w2):=c.o.over C;clear C;rw [<-hp] at j;clear hp;obtain ⟨V3,K⟩:=nm (w2.alloc (ze #[I O 1,I O p,I O 0,.string ⟨#[]⟩,zc none 0 0] 49));obtain ⟨E,af⟩:=nm w2.heap.size;have B:=af;have G:Hx (w.heap.size<=E):=by show _<=_;rw [B];exact c.o.size
 have i:Hx (l < E):=by show _ < _;rw [B];exact a.o.lt
 have b:Hx (Bx E [I O 1,I O p,I O 0,.string ⟨#[]⟩,zc none 0 0] V3):=by show Bx _ _ _;rw [K,B];exact Bx.new w2 [I O 1,I O p,I O 0,.string ⟨#[]⟩,zc none 0 0] 49
 replace a:Hx (Bx l [I O 0,I O 0,I O 0,.string ⟨#[]⟩,zc none 0 0] V3):=by show Bx _ _ _;rw [K];exact a.o.over (bA _ _)
 replace c:Hx (Rq rb tv ts en w X (s) V3):=by show Rq _ _ _ _ _ _ _ _;rw [K];exact c.o.over (bA _ _)
 obtain ⟨t,ht⟩:=nm (tx ts s 0);have KT:Hx (Ro 57 #[zf (some ⟨rb,0,none⟩),I O 0] V3 (.string t)):=by rw [ht];exact BO 0 (by omega) s _ c.o.st
 have Ht:=Aa ht;clear ht;go_wp2_with fail;rw [<-K,<-af];clear B;clear af K;refine KT.o.mono ?_;rintro e w4 ⟨rfl,C⟩;clear KT;replace a:=Aa (a.o.over C);replace b:=Aa (b.o.over C);replace c:Hx (Rq rb tv ts en w X (s) w4):=c.o.over C;clear C;have q1:(t.toList == [40])=false:=DB Ht.o (by rw [h2];simp);have q2:(t.toList == [45])=true:=G7 Ht.o h2;clear h2;obtain ⟨s1,Y⟩:=nm (AB ts [45] s);have KN:=Aa (BX ⟨#[45]⟩ [45] rfl (by decide) s _ c.o.st);rw [<-Y] at KN;rw [<-Y] at j;have bw:=Aa Y;clear Y;go_wp2_with fail;refine KN.o.mono ?_;rintro e w5 ⟨rfl,n⟩;clear KN;have y:=n.1;replace a:=bkp a c.o.rlt F y;replace b:=bkp b c.o.rlt G y;replace c:Hx (Rq rb tv ts en w X (s1) w5):=Qo.rq c.o n;clear y n;clear q1 q2;obtain ⟨u,hu⟩:=nm (tx ts s1 0);have KT:Hx (Ro 57 #[zf (some ⟨rb,0,none⟩),I O 0] w5 (.string u)):=by rw [hu];exact BO 0 (by omega) s1 _ c.o.st
 have Hu:=Aa hu;clear hu;go_wp2_with fail;refine KT.o.mono ?_;rintro e w6 ⟨rfl,C⟩;clear KT;replace a:=Aa (a.o.over C);replace b:=Aa (b.o.over C);replace c:Hx (Rq rb tv ts en w X (s1) w6):=c.o.over C;clear C;by_cases hz:tl ts s1 0=[48]
 ·have q4:(u.toList == [48])=true:=G7 Hu.o hz
  rw [if_pos hz] at j;clear hz;obtain ⟨V,ce1,U,T,S⟩:=rc5 b.o.row;obtain ⟨R,Q,P,N,M⟩:=fz5 b.o.fz;obtain ⟨a3,a2,rc2,a1,az,ay⟩:=c.o.st.cells;have Z:=c.o.st.fail;obtain ⟨V7,ah⟩:=nm (w6.setCell ⟨rb,3,none⟩ (zd true));rw [<-ah] at Z;have n:Qo rb tv ts en w6 s1 (Dy s1) V7:=⟨Z.2,Z.1,Nat.le_refl _⟩;clear Z;obtain ⟨s2,ac⟩:=nm (Dy s1);rw [<-ac] at n;have bm:=Aa ac;clear ac;have y:=n.1;replace a:=bkp a c.o.rlt F y;replace b:=bkp b c.o.rlt G y;replace c:Hx (Rq rb tv ts en w X (s2) V7):=Qo.rq c.o n;clear y n;rw [<-bm.o] at j;obtain ⟨px,r⟩:=nm (E7 ts s2);obtain ⟨x,s3⟩:=px;have KM:=Aa (GF hall s2 _ c.o.st);rw [<-r] at KM j;dsimp only at KM j;have aj:=Aa r;clear r;go_wp2_with fail;rw [<-ah];clear ay az a1 rc2 a2 a3 M N P Q R S T U ce1 V;clear ah;refine KM.o.mono ?_;rintro e w8 ⟨rfl,n⟩;clear KM;have y:=n.1;replace a:=bkp a c.o.rlt F y;replace b:=bkp b c.o.rlt G y;replace c:Hx (Rq rb tv ts en w X (s3) w8):=Qo.rq c.o n;clear y n;have a5:-9223372036854775807<=x/\x<=9223372036854775807:=Hv hall s2 x s3 aj.o;obtain ⟨V,ce1,U,T,S⟩:=rc5 b.o.row;obtain ⟨R,Q,P,N,M⟩:=fz5 b.o.fz;obtain ⟨bj,bi,bh,bg,bf⟩:=rc5 a.o.row;obtain ⟨bd,bc,bb,ba,a9⟩:=fz5 a.o.fz;have al:l≠E:=by have:=i.o;omega
  have am:E≠l:=by have:=i.o;omega
  obtain ⟨V9,A⟩:=nm (w8.setCell ⟨E,2,none⟩ (I O (-x)));have g:w8.grownBy V9 (some E):=by rw [A];exact (gst (Ah _ _))
  replace b:Hx (Bx E [I O 1,I O p,I O (-x),.string ⟨#[]⟩,zc none 0 0] V9):=by show Bx _ _ _;rw [A];exact (b.o.se 2)
  replace a:=Aa (a.o.keep g (by have:=i.o;omega));replace c:=Aa (c.o.box g G.o);clear g;obtain ⟨an,L⟩:=nm (((((V9.setCell ⟨l,0,none⟩ (I O 1)).setCell ⟨l,1,none⟩ (I O p)).setCell ⟨l,2,none⟩ (I O (-x))).setCell ⟨l,3,none⟩ (.string ⟨#[]⟩)).setCell ⟨l,4,none⟩ (zc none 0 0));have g:V9.grownBy an (some l):=by rw [L];exact (gst (gst (gst (gst (gst (Ah _ _))))))
  replace a:Hx (Bx l [I O 1,I O p,I O (-x),.string ⟨#[]⟩,zc none 0 0] an):=by show Bx _ _ _;rw [L];exact (((((a.o.se 0).se 1).se 2).se 3).se 4)
  replace b:=Aa (b.o.keep g (by have:=i.o;omega));replace c:=Aa (c.o.box g F.o);clear g;go_wp2_with fail;refine bodyPost_ret (v:=zg #[I O 1,I O p,I O (-x),.string ⟨#[]⟩,zc none 0 0]) (by simp [results,Tryz.results60,go_sem, *]) rfl ?_;rw [<-A,<-L];rw [j.o];refine ⟨_,_,_,_,_,_,_,rfl,fun W hW=>?_,c.o.gr,c.o.st,by rw [<-ao.o];exact c.o.le⟩;exact ⟨1,p,-x,⟨#[]⟩,_,[],rfl,rfl,LS.nil⟩
 ·have q4:(u.toList == [48])=false:=DB Hu.o hz
  rw [if_neg hz] at j;clear hz;obtain ⟨px,r⟩:=nm (E7 ts s1);obtain ⟨x,s3⟩:=px;have KM:=Aa (GF hall s1 _ c.o.st);rw [<-r] at KM j;dsimp only at KM j;have aj:=Aa r;clear r;obtain ⟨V,ce1,U,T,S⟩:=rc5 b.o.row;obtain ⟨R,Q,P,N,M⟩:=fz5 b.o.fz;go_wp2_with fail;clear M N P Q R S T U ce1 V;refine KM.o.mono ?_;rintro e w7 ⟨rfl,n⟩;clear KM;have y:=n.1;replace a:=bkp a c.o.rlt F y;replace b:=bkp b c.o.rlt G y;replace c:Hx (Rq rb tv ts en w X (s3) w7):=Qo.rq c.o n;clear y n;have a5:-9223372036854775807<=x/\x<=9223372036854775807:=Hv hall s1 x s3 aj.o;obtain ⟨V,ce1,U,T,S⟩:=rc5 b.o.row;obtain ⟨R,Q,P,N,M⟩:=fz5 b.o.fz;obtain ⟨bj,bi,bh,bg,bf⟩:=rc5 a.o.row;obtain ⟨bd,bc,bb,ba,a9⟩:=fz5 a.o.fz;have al:l≠E:=by have:=i.o;omega
  have am:E≠l:=by have:=i.o;omega
  obtain ⟨V8,ag⟩:=nm (w7.setCell ⟨E,2,none⟩ (I O (-x)));have g:w7.grownBy V8 (some E):=by rw [ag];exact (gst (Ah _ _))
  replace b:Hx (Bx E [I O 1,I O p,I O (-x),.string ⟨#[]⟩,zc none 0 0] V8):=by show Bx _ _ _;rw [ag];exact (b.o.se 2)
  replace a:=Aa (a.o.keep g (by have:=i.o;omega));replace c:=Aa (c.o.box g G.o);clear g;obtain ⟨V9,A⟩:=nm (((((V8.setCell ⟨l,0,none⟩ (I O 1)).setCell ⟨l,1,none⟩ (I O p)).setCell ⟨l,2,none⟩ (I O (-x))).setCell ⟨l,3,none⟩ (.string ⟨#[]⟩)).setCell ⟨l,4,none⟩ (zc none 0 0));have g:V8.grownBy V9 (some l):=by rw [A];exact (gst (gst (gst (gst (gst (Ah _ _))))))
  replace a:Hx (Bx l [I O 1,I O p,I O (-x),.string ⟨#[]⟩,zc none 0 0] V9):=by show Bx _ _ _;rw [A];exact (((((a.o.se 0).se 1).se 2).se 3).se 4)
  replace b:=Aa (b.o.keep g (by have:=i.o;omega));replace c:=Aa (c.o.box g F.o);clear g;go_wp2_with fail;refine bodyPost_ret (v:=zg #[I O 1,I O p,I O (-x),.string ⟨#[]⟩,zc none 0 0]) (by simp [results,Tryz.results60,go_sem, *]) rfl ?_;rw [<-ag,<-A];rw [j.o];refine ⟨_,_,_,_,_,_,_,rfl,fun W hW=>?_,c.o.gr,c.o.st,by rw [<-ao.o];exact c.o.le⟩;exact ⟨1,p,-x,⟨#[]⟩,_,[],rfl,rfl,LS.nil⟩
end
end Go.Proofs.YtipngnjffjajpaaGreatDoor.Tx
