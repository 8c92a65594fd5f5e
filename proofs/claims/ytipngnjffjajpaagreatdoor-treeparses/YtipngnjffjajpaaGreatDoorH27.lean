/- The document's reader in memory: expressions. -/
import Derived.Test.YtipngnjffjajpaaGreatDoorH26
set_option linter.unusedVariables false
set_option maxHeartbeats 8000000
set_option maxRecDepth 100000
namespace Go.Proofs.YtipngnjffjajpaaGreatDoor.Tx
open Go.RowKit
open Go.Value renaming int -> M, slice -> U, bool -> zc, pointer -> zd, agg -> zf, tuple -> zh
open Go.IntKind renaming i64 -> O
open Go.Obj renaming cells -> ze
open Go.Ending renaming returned -> zg
section
variable {rb:Nat} {tv:Value} {ts:List Tok} {en:Nat}
theorem AO (x:ByteArray) (l:List UInt8) (hl:x.data.toList=l) (hx:l≠[]) (s:Sg) (w:World) (h:Sd rb tv ts en s w):Calls Tryz.prog 26 #[zd (some ⟨rb,0,none⟩),.string x] w fun e w'=>e=zg (zh #[])/\Qo rb tv ts en w s (Al ts l s) w':=by
 rw [<-hl];exact MC x (by rw [hl];exact hx) s w h
def CW (rb:Nat) (tv:Value) (ts:List Tok) (en f:Nat) (w:World) (s:Sg) (r:D × Sg) (e:Ending) (w':World):Prop:=∃ (kd a n:Int) (x:ByteArray) (ao:Option Addr) (l c:Nat),e=zg (zf #[M O kd,M O a,M O n,.string x,U ao l c])/\Off w.heap.size none w' (fun W=>XE W f [M O kd,M O a,M O n,.string x,U ao l c] r.1)/\Qo rb tv ts en w s r.2 w'
def Mv (rb:Nat) (tv:Value) (ts:List Tok) (en f deep:Nat):Prop:=∀ (s:Sg) (w:World),Sd rb tv ts en s w->Calls Tryz.prog 60 #[zd (some ⟨rb,0,none⟩),M O (deep:Int)] w (CW rb tv ts en f w s (A4 ts en f deep s))
theorem Off.bx {B b:Nat} {cs:List Value} {V:World} (h:Bx b cs V) (hb:B<=b):Off B none V (fun W=>Ae cs W b):=fun W hW j u hu=>by
 rw [World.cell?_of_block (a:=⟨b,j,none⟩) (hW b hb h.lt (by simp))];exact h.row j u hu
theorem LS.two {α:Type} {R:List Value->α->Prop} {w:World} {b:Nat} {a0 a1 a2 a3 a4 b0 b1 b2 b3 b4:Value} {d1 d2:α} (hr:Ae [a0,a1,a2,a3,a4,b0,b1,b2,b3,b4] w b) (r1:R [a0,a1,a2,a3,a4] d1) (r2:R [b0,b1,b2,b3,b4] d2):LS 5 R w (U (some ⟨b,0,none⟩) 2 2) [d1,d2]:=by
 refine ⟨by show 2<=maxLen;decide,some ⟨b,0,none⟩,2,rfl,fun _=>⟨b,0,rfl,fun i a f=>?_⟩⟩
 match i,f with
 | 0,f=>
  injection f with f;subst f;refine ⟨_,rfl,fun j u c=>?_,r1⟩;have g:j < 5:=(List.getElem?_eq_some_iff.1 c).1;have:[a0,a1,a2,a3,a4,b0,b1,b2,b3,b4][j]? = some u:=by
   match j,c with
   | 0,c=>exact c
   | 1,c=>exact c
   | 2,c=>exact c
   | 3,c=>exact c
   | 4,c=>exact c
  simpa using hr j u this
 | 1,f=>
  injection f with f;subst f;refine ⟨_,rfl,fun j u c=>?_,r2⟩;have g:j < 5:=(List.getElem?_eq_some_iff.1 c).1;have:[a0,a1,a2,a3,a4,b0,b1,b2,b3,b4][5+j]? = some u:=by
   match j,c with
   | 0,c=>exact c
   | 1,c=>exact c
   | 2,c=>exact c
   | 3,c=>exact c
   | 4,c=>exact c
  simpa using hr (5+j) u this
 | i+2,f=>cases f
def opU (j:Nat) (l:List UInt8):Int:=if A1 l < 3+(j:Int) then A1 l else 0
theorem M5 (l:List UInt8):opU 0 l=0:=by
 unfold opU A1
 repeat' split
 all_goals first | rfl | omega
theorem M4 (l:List UInt8):opU 5 l=A1 l:=by
 unfold opU A1
 repeat' split
 all_goals first | rfl | omega
theorem MB (l:List UInt8) (j:Nat) (hj:j < 5):∃ y:ByteArray,[Value.string ⟨#[43]⟩,.string ⟨#[45]⟩,.string ⟨#[42]⟩,.string ⟨#[60]⟩,.string ⟨#[61,61]⟩][j]? = some (.string y)/\(l=y.data.toList->opU (j+1) l=3+(j:Int))/\(¬ l=y.data.toList->opU (j+1) l=opU j l):=by
 have h:j=0\/j=1\/j=2\/j=3\/j=4:=by omega
 rcases h with rfl | rfl | rfl | rfl | rfl
 ·refine ⟨_,rfl,fun h=>by rw [h];decide,fun h=>?_⟩
  have a:¬ l=[43]:=h;unfold opU A1;simp only [a,if_false]
  repeat' split
  all_goals first | rfl | omega
 ·refine ⟨_,rfl,fun h=>by rw [h];decide,fun h=>?_⟩
  have a:¬ l=[45]:=h;unfold opU A1;simp only [a,if_false]
  repeat' split
  all_goals first | rfl | omega
 ·refine ⟨_,rfl,fun h=>by rw [h];decide,fun h=>?_⟩
  have a:¬ l=[42]:=h;unfold opU A1;simp only [a,if_false]
  repeat' split
  all_goals first | rfl | omega
 ·refine ⟨_,rfl,fun h=>by rw [h];decide,fun h=>?_⟩
  have a:¬ l=[60]:=h;unfold opU A1;simp only [a,if_false]
  repeat' split
  all_goals first | rfl | omega
 ·refine ⟨_,rfl,fun h=>by rw [h];decide,fun h=>?_⟩
  have a:¬ l=[61,61]:=h;unfold opU A1;simp only [a,if_false]
  repeat' split
  all_goals first | rfl | omega
theorem Mk (hall:ts.all An=true) (f deep:Nat) (s:Sg) (w:World) (h:Sd rb tv ts en s w) (h1:¬ (tl ts s 0=[40]/\deep < 60)) (h2:¬ tl ts s 0=[45]) (h3:¬ CH (tl ts s 0)=true) (hq40:tl ts s 0=[40]):Calls Tryz.prog 60 #[zd (some ⟨rb,0,none⟩),M O (deep:Int)] w (CW rb tv ts en (f+1) w s (A4 ts en (f+1) deep s)):=by
 obtain ⟨al,n⟩:=nm (A4 ts en (f+1) deep s);rw [<-n];have A:Hx (al=(fun p:ByteArray × Sg=>(eD 2 (Ar ts en s.1) 0 p.1 [],p.2)) (AJ ts s)):=by show _=_;rw [n,A4];rw [if_neg h1,if_neg h2,if_neg h3]
 obtain ⟨N,G⟩:=nm s.1;have c:Hx (Rq rb tv ts en w N (s) w):=by show Rq _ _ _ _ _ _ _ _;rw [G];exact Rq.start h
 have ar:=Aa G;clear n G h;obtain ⟨V1,y⟩:=nm (w.alloc (ze #[M O 0,M O 0,M O 0,.string ⟨#[]⟩,U none 0 0] 49));obtain ⟨j,H⟩:=nm w.heap.size;have m:=H;have ad:Hx (w.heap.size<=j):=by show _<=_;rw [m];exact c.o.size
 have a:Hx (Bx j [M O 0,M O 0,M O 0,.string ⟨#[]⟩,U none 0 0] V1):=by show Bx _ _ _;rw [y,m];exact Bx.new w [M O 0,M O 0,M O 0,.string ⟨#[]⟩,U none 0 0] 49
 replace c:Hx (Rq rb tv ts en w N (s) V1):=by show Rq _ _ _ _ _ _ _ _;rw [y];exact c.o.over (bA _ _)
 go_enter Tryz.func60,Tryz.ntmps60;obtain ⟨p,hp⟩:=nm (Ar ts en (s).1);have KH:Hx (Ro 28 #[zd (some ⟨rb,0,none⟩)] V1 (M O p)):=by rw [hp];exact Cf s _ c.o.st
 go_wp2_with fail;rw [<-y,<-H];clear m;clear H y;refine KH.o.mono ?_;rintro e w2 ⟨rfl,E⟩;clear KH;replace a:=Aa (a.o.over E);replace c:Hx (Rq rb tv ts en w N (s) w2):=c.o.over E;clear E;rw [<-hp] at A;clear hp;obtain ⟨V3,r⟩:=nm (w2.alloc (ze #[M O 1,M O p,M O 0,.string ⟨#[]⟩,U none 0 0] 49));obtain ⟨l,I⟩:=nm w2.heap.size;have k:=I;have L:Hx (w.heap.size<=l):=by show _<=_;rw [k];exact c.o.size
 have i:Hx (j < l):=by show _ < _;rw [k];exact a.o.lt
 have b:Hx (Bx l [M O 1,M O p,M O 0,.string ⟨#[]⟩,U none 0 0] V3):=by show Bx _ _ _;rw [r,k];exact Bx.new w2 [M O 1,M O p,M O 0,.string ⟨#[]⟩,U none 0 0] 49
 replace a:Hx (Bx j [M O 0,M O 0,M O 0,.string ⟨#[]⟩,U none 0 0] V3):=by show Bx _ _ _;rw [r];exact a.o.over (bA _ _)
 replace c:Hx (Rq rb tv ts en w N (s) V3):=by show Rq _ _ _ _ _ _ _ _;rw [r];exact c.o.over (bA _ _)
 obtain ⟨t,ht⟩:=nm (tx ts s 0);have KT:Hx (Ro 57 #[zd (some ⟨rb,0,none⟩),M O 0] V3 (.string t)):=by rw [ht];exact AY 0 (by omega) s _ c.o.st
 have Ht:=Aa ht;clear ht;go_wp2_with fail;rw [<-r,<-I];clear k;clear I r;refine KT.o.mono ?_;rintro e w4 ⟨rfl,E⟩;clear KT;replace a:=Aa (a.o.over E);replace b:=Aa (b.o.over E);replace c:Hx (Rq rb tv ts en w N (s) w4):=c.o.over E;clear E;have q1:(t.toList == [40])=true:=CZ Ht.o hq40;have q2:(t.toList == [45])=false:=Bh Ht.o h2;have q3:(t.toList == [])=false:=Bh Ht.o (by rw [hq40];simp);have a0:¬ (deep:Int) < 60:=fun e=>h1 ⟨hq40,by omega⟩;have h0:0 < t.size:=by
  have e:t.data.toList.length=t.size:=rfl;have e2:t.data.toList=[40]:=by rw [Ht.o];exact hq40
  rw [e2] at e;simp at e;omega
 have P:isD t[0]=false:=by rw [<-C8 t h0,Ht.o];exact Bool.eq_false_iff.2 h3
 clear h1 h2 h3 hq40;have KD:Hx (∀ X,Calls Tryz.prog 101 #[M .u8 (t[0].toNat:Int)] X fun e w'=>e=zg (zc false)/\X=w'):=fun X=>by
  have:=Bb t[0] X;rw [P] at this;exact this.mono fun e w' h=>⟨h.1,h.2.symm⟩
 clear P;go_wp2_with fail;refine (KD.o _).mono ?_;rintro e w' ⟨rfl,rfl⟩;clear KD;have B:j≠l:=by have:=i.o;omega
 have C:l≠j:=by have:=i.o;omega
 obtain ⟨ab,ce1,aa,Z,Y⟩:=rc5 b.o.row;obtain ⟨V,T,S,R,Q⟩:=fz5 b.o.fz;obtain ⟨V5,u⟩:=nm (w4.setCell ⟨l,0,none⟩ (M O 2));have g:w4.grownBy V5 (some l):=by rw [u];exact (gst (Af _ _))
 replace b:Hx (Bx l [M O 2,M O p,M O 0,.string ⟨#[]⟩,U none 0 0] V5):=by show Bx _ _ _;rw [u];exact (b.o.se 0)
 replace a:=Aa (a.o.keep g (by have:=i.o;omega));replace c:=Aa (c.o.box g L.o);clear g;obtain ⟨px,F⟩:=nm (AJ ts s);obtain ⟨x,s1⟩:=px;have KM:=Aa (Ce hall s _ c.o.st);rw [<-F] at KM A;dsimp only at KM A;have bd:=Aa F;clear F;go_wp2_with fail;rw [<-u];clear Q R S T V Y Z aa ce1 ab C B;clear u;refine KM.o.mono ?_;rintro e w6 ⟨rfl,hq⟩;clear KM;have hg:=hq.1;replace a:=bkp a c.o.rlt ad hg;replace b:=bkp b c.o.rlt L hg;replace c:Hx (Rq rb tv ts en w N (s1) w6):=Qo.rq c.o hq;clear hg hq;have B:j≠l:=by have:=i.o;omega
 have C:l≠j:=by have:=i.o;omega
 obtain ⟨ab,ce1,aa,Z,Y⟩:=rc5 b.o.row;obtain ⟨V,T,S,R,Q⟩:=fz5 b.o.fz;obtain ⟨bc,bb,ba,a9,a8⟩:=rc5 a.o.row;obtain ⟨a6,a5,a4,a3,a2⟩:=fz5 a.o.fz;obtain ⟨V7,K⟩:=nm (w6.setCell ⟨l,3,none⟩ (.string x));have g:w6.grownBy V7 (some l):=by rw [K];exact (gst (Af _ _))
 replace b:Hx (Bx l [M O 2,M O p,M O 0,.string x,U none 0 0] V7):=by show Bx _ _ _;rw [K];exact (b.o.se 3)
 replace a:=Aa (a.o.keep g (by have:=i.o;omega));replace c:=Aa (c.o.box g L.o);clear g;obtain ⟨V8,J⟩:=nm (((((V7.setCell ⟨j,0,none⟩ (M O 2)).setCell ⟨j,1,none⟩ (M O p)).setCell ⟨j,2,none⟩ (M O 0)).setCell ⟨j,3,none⟩ (.string x)).setCell ⟨j,4,none⟩ (U none 0 0));have g:V7.grownBy V8 (some j):=by rw [J];exact (gst (gst (gst (gst (gst (Af _ _))))))
 replace a:Hx (Bx j [M O 2,M O p,M O 0,.string x,U none 0 0] V8):=by show Bx _ _ _;rw [J];exact (((((a.o.se 0).se 1).se 2).se 3).se 4)
 replace b:=Aa (b.o.keep g (by have:=i.o;omega));replace c:=Aa (c.o.box g ad.o);clear g;go_wp2_with fail;refine bodyPost_ret (v:=zf #[M O 2,M O p,M O 0,.string x,U none 0 0]) (by simp [results,Tryz.results60,go_sem, *]) rfl ?_;rw [<-K,<-J];rw [A.o];refine ⟨_,_,_,_,_,_,_,rfl,fun W hW=>?_,c.o.gr,c.o.st,by rw [<-ar.o];exact c.o.le⟩;exact ⟨2,p,0,x,_,[],rfl,rfl,LS.nil⟩
theorem Mj (hall:ts.all An=true) (f deep:Nat) (s:Sg) (w:World) (h:Sd rb tv ts en s w) (h1:¬ (tl ts s 0=[40]/\deep < 60)) (h2:¬ tl ts s 0=[45]) (h3:¬ CH (tl ts s 0)=true) (hq0:tl ts s 0=[]):Calls Tryz.prog 60 #[zd (some ⟨rb,0,none⟩),M O (deep:Int)] w (CW rb tv ts en (f+1) w s (A4 ts en (f+1) deep s)):=by
 obtain ⟨ah,n⟩:=nm (A4 ts en (f+1) deep s);rw [<-n];have A:Hx (ah=(fun p:ByteArray × Sg=>(eD 2 (Ar ts en s.1) 0 p.1 [],p.2)) (AJ ts s)):=by show _=_;rw [n,A4];rw [if_neg h1,if_neg h2,if_neg h3]
 obtain ⟨N,G⟩:=nm s.1;have c:Hx (Rq rb tv ts en w N (s) w):=by show Rq _ _ _ _ _ _ _ _;rw [G];exact Rq.start h
 have ao:=Aa G;clear n G h;obtain ⟨V1,y⟩:=nm (w.alloc (ze #[M O 0,M O 0,M O 0,.string ⟨#[]⟩,U none 0 0] 49));obtain ⟨j,H⟩:=nm w.heap.size;have m:=H;have aa:Hx (w.heap.size<=j):=by show _<=_;rw [m];exact c.o.size
 have a:Hx (Bx j [M O 0,M O 0,M O 0,.string ⟨#[]⟩,U none 0 0] V1):=by show Bx _ _ _;rw [y,m];exact Bx.new w [M O 0,M O 0,M O 0,.string ⟨#[]⟩,U none 0 0] 49
 replace c:Hx (Rq rb tv ts en w N (s) V1):=by show Rq _ _ _ _ _ _ _ _;rw [y];exact c.o.over (bA _ _)
 go_enter Tryz.func60,Tryz.ntmps60;obtain ⟨p,hp⟩:=nm (Ar ts en (s).1);have KH:Hx (Ro 28 #[zd (some ⟨rb,0,none⟩)] V1 (M O p)):=by rw [hp];exact Cf s _ c.o.st
 go_wp2_with fail;rw [<-y,<-H];clear m;clear H y;refine KH.o.mono ?_;rintro e w2 ⟨rfl,E⟩;clear KH;replace a:=Aa (a.o.over E);replace c:Hx (Rq rb tv ts en w N (s) w2):=c.o.over E;clear E;rw [<-hp] at A;clear hp;obtain ⟨V3,r⟩:=nm (w2.alloc (ze #[M O 1,M O p,M O 0,.string ⟨#[]⟩,U none 0 0] 49));obtain ⟨l,I⟩:=nm w2.heap.size;have k:=I;have L:Hx (w.heap.size<=l):=by show _<=_;rw [k];exact c.o.size
 have i:Hx (j < l):=by show _ < _;rw [k];exact a.o.lt
 have b:Hx (Bx l [M O 1,M O p,M O 0,.string ⟨#[]⟩,U none 0 0] V3):=by show Bx _ _ _;rw [r,k];exact Bx.new w2 [M O 1,M O p,M O 0,.string ⟨#[]⟩,U none 0 0] 49
 replace a:Hx (Bx j [M O 0,M O 0,M O 0,.string ⟨#[]⟩,U none 0 0] V3):=by show Bx _ _ _;rw [r];exact a.o.over (bA _ _)
 replace c:Hx (Rq rb tv ts en w N (s) V3):=by show Rq _ _ _ _ _ _ _ _;rw [r];exact c.o.over (bA _ _)
 obtain ⟨t,ht⟩:=nm (tx ts s 0);have KT:Hx (Ro 57 #[zd (some ⟨rb,0,none⟩),M O 0] V3 (.string t)):=by rw [ht];exact AY 0 (by omega) s _ c.o.st
 have Ht:=Aa ht;clear ht;go_wp2_with fail;rw [<-r,<-I];clear k;clear I r;refine KT.o.mono ?_;rintro e w4 ⟨rfl,E⟩;clear KT;replace a:=Aa (a.o.over E);replace b:=Aa (b.o.over E);replace c:Hx (Rq rb tv ts en w N (s) w4):=c.o.over E;clear E;have q1:(t.toList == [40])=false:=Bh Ht.o (by rw [hq0];simp);have q2:(t.toList == [45])=false:=Bh Ht.o h2;have q3:(t.toList == [])=true:=CZ Ht.o hq0;clear h1 h2 h3 hq0;have B:j≠l:=by have:=i.o;omega
 have C:l≠j:=by have:=i.o;omega
 obtain ⟨Z,ce1,Y,X,V⟩:=rc5 b.o.row;obtain ⟨T,S,R,Q,P⟩:=fz5 b.o.fz;obtain ⟨V5,u⟩:=nm (w4.setCell ⟨l,0,none⟩ (M O 2));have g:w4.grownBy V5 (some l):=by rw [u];exact (gst (Af _ _))
 replace b:Hx (Bx l [M O 2,M O p,M O 0,.string ⟨#[]⟩,U none 0 0] V5):=by show Bx _ _ _;rw [u];exact (b.o.se 0)
 replace a:=Aa (a.o.keep g (by have:=i.o;omega));replace c:=Aa (c.o.box g L.o);clear g;obtain ⟨px,F⟩:=nm (AJ ts s);obtain ⟨x,s1⟩:=px;have KM:=Aa (Ce hall s _ c.o.st);rw [<-F] at KM A;dsimp only at KM A;have a6:=Aa F;clear F;go_wp2_with fail;rw [<-u];clear P Q R S T V X Y ce1 Z C B;clear u;refine KM.o.mono ?_;rintro e w6 ⟨rfl,hq⟩;clear KM;have hg:=hq.1;replace a:=bkp a c.o.rlt aa hg;replace b:=bkp b c.o.rlt L hg;replace c:Hx (Rq rb tv ts en w N (s1) w6):=Qo.rq c.o hq;clear hg hq;have B:j≠l:=by have:=i.o;omega
 have C:l≠j:=by have:=i.o;omega
 obtain ⟨Z,ce1,Y,X,V⟩:=rc5 b.o.row;obtain ⟨T,S,R,Q,P⟩:=fz5 b.o.fz;obtain ⟨a5,a4,a3,a2,a1⟩:=rc5 a.o.row;obtain ⟨a0,az,ay,ax,aw⟩:=fz5 a.o.fz;obtain ⟨V7,K⟩:=nm (w6.setCell ⟨l,3,none⟩ (.string x));have g:w6.grownBy V7 (some l):=by rw [K];exact (gst (Af _ _))
 replace b:Hx (Bx l [M O 2,M O p,M O 0,.string x,U none 0 0] V7):=by show Bx _ _ _;rw [K];exact (b.o.se 3)
 replace a:=Aa (a.o.keep g (by have:=i.o;omega));replace c:=Aa (c.o.box g L.o);clear g;obtain ⟨V8,J⟩:=nm (((((V7.setCell ⟨j,0,none⟩ (M O 2)).setCell ⟨j,1,none⟩ (M O p)).setCell ⟨j,2,none⟩ (M O 0)).setCell ⟨j,3,none⟩ (.string x)).setCell ⟨j,4,none⟩ (U none 0 0));have g:V7.grownBy V8 (some j):=by rw [J];exact (gst (gst (gst (gst (gst (Af _ _))))))
 replace a:Hx (Bx j [M O 2,M O p,M O 0,.string x,U none 0 0] V8):=by show Bx _ _ _;rw [J];exact (((((a.o.se 0).se 1).se 2).se 3).se 4)
 replace b:=Aa (b.o.keep g (by have:=i.o;omega));replace c:=Aa (c.o.box g aa.o);clear g;go_wp2_with fail;refine bodyPost_ret (v:=zf #[M O 2,M O p,M O 0,.string x,U none 0 0]) (by simp [results,Tryz.results60,go_sem, *]) rfl ?_;rw [<-K,<-J];rw [A.o];refine ⟨_,_,_,_,_,_,_,rfl,fun W hW=>?_,c.o.gr,c.o.st,by rw [<-ao.o];exact c.o.le⟩;exact ⟨2,p,0,x,_,[],rfl,rfl,LS.nil⟩
theorem Mi (hall:ts.all An=true) (f deep:Nat) (s:Sg) (w:World) (h:Sd rb tv ts en s w) (h1:¬ (tl ts s 0=[40]/\deep < 60)) (h2:¬ tl ts s 0=[45]) (h3:¬ CH (tl ts s 0)=true) (hq40:¬ tl ts s 0=[40]) (hq0:¬ tl ts s 0=[]):Calls Tryz.prog 60 #[zd (some ⟨rb,0,none⟩),M O (deep:Int)] w (CW rb tv ts en (f+1) w s (A4 ts en (f+1) deep s)):=by
 obtain ⟨al,n⟩:=nm (A4 ts en (f+1) deep s);rw [<-n];have A:Hx (al=(fun p:ByteArray × Sg=>(eD 2 (Ar ts en s.1) 0 p.1 [],p.2)) (AJ ts s)):=by show _=_;rw [n,A4];rw [if_neg h1,if_neg h2,if_neg h3]
 obtain ⟨N,G⟩:=nm s.1;have c:Hx (Rq rb tv ts en w N (s) w):=by show Rq _ _ _ _ _ _ _ _;rw [G];exact Rq.start h
 have ar:=Aa G;clear n G h;obtain ⟨V1,y⟩:=nm (w.alloc (ze #[M O 0,M O 0,M O 0,.string ⟨#[]⟩,U none 0 0] 49));obtain ⟨j,H⟩:=nm w.heap.size;have m:=H;have ad:Hx (w.heap.size<=j):=by show _<=_;rw [m];exact c.o.size
 have a:Hx (Bx j [M O 0,M O 0,M O 0,.string ⟨#[]⟩,U none 0 0] V1):=by show Bx _ _ _;rw [y,m];exact Bx.new w [M O 0,M O 0,M O 0,.string ⟨#[]⟩,U none 0 0] 49
 replace c:Hx (Rq rb tv ts en w N (s) V1):=by show Rq _ _ _ _ _ _ _ _;rw [y];exact c.o.over (bA _ _)
 go_enter Tryz.func60,Tryz.ntmps60;obtain ⟨p,hp⟩:=nm (Ar ts en (s).1);have KH:Hx (Ro 28 #[zd (some ⟨rb,0,none⟩)] V1 (M O p)):=by rw [hp];exact Cf s _ c.o.st
 go_wp2_with fail;rw [<-y,<-H];clear m;clear H y;refine KH.o.mono ?_;rintro e w2 ⟨rfl,E⟩;clear KH;replace a:=Aa (a.o.over E);replace c:Hx (Rq rb tv ts en w N (s) w2):=c.o.over E;clear E;rw [<-hp] at A;clear hp;obtain ⟨V3,r⟩:=nm (w2.alloc (ze #[M O 1,M O p,M O 0,.string ⟨#[]⟩,U none 0 0] 49));obtain ⟨l,I⟩:=nm w2.heap.size;have k:=I;have L:Hx (w.heap.size<=l):=by show _<=_;rw [k];exact c.o.size
 have i:Hx (j < l):=by show _ < _;rw [k];exact a.o.lt
 have b:Hx (Bx l [M O 1,M O p,M O 0,.string ⟨#[]⟩,U none 0 0] V3):=by show Bx _ _ _;rw [r,k];exact Bx.new w2 [M O 1,M O p,M O 0,.string ⟨#[]⟩,U none 0 0] 49
 replace a:Hx (Bx j [M O 0,M O 0,M O 0,.string ⟨#[]⟩,U none 0 0] V3):=by show Bx _ _ _;rw [r];exact a.o.over (bA _ _)
 replace c:Hx (Rq rb tv ts en w N (s) V3):=by show Rq _ _ _ _ _ _ _ _;rw [r];exact c.o.over (bA _ _)
 obtain ⟨t,ht⟩:=nm (tx ts s 0);have KT:Hx (Ro 57 #[zd (some ⟨rb,0,none⟩),M O 0] V3 (.string t)):=by rw [ht];exact AY 0 (by omega) s _ c.o.st
 have Ht:=Aa ht;clear ht;go_wp2_with fail;rw [<-r,<-I];clear k;clear I r;refine KT.o.mono ?_;rintro e w4 ⟨rfl,E⟩;clear KT;replace a:=Aa (a.o.over E);replace b:=Aa (b.o.over E);replace c:Hx (Rq rb tv ts en w N (s) w4):=c.o.over E;clear E;have q1:(t.toList == [40])=false:=Bh Ht.o hq40;have q2:(t.toList == [45])=false:=Bh Ht.o h2;have q3:(t.toList == [])=false:=Bh Ht.o hq0;have h0:0 < t.size:=by
  have e:t.data.toList.length=t.size:=rfl;have e2:t.data.toList≠[]:=by rw [Ht.o];exact hq0
  have:=List.length_pos_iff.2 e2;omega
 have P:isD t[0]=false:=by rw [<-C8 t h0,Ht.o];exact Bool.eq_false_iff.2 h3
 clear h1 h2 h3 hq0 hq40;have KD:Hx (∀ X,Calls Tryz.prog 101 #[M .u8 (t[0].toNat:Int)] X fun e w'=>e=zg (zc false)/\X=w'):=fun X=>by
  have:=Bb t[0] X;rw [P] at this;exact this.mono fun e w' h=>⟨h.1,h.2.symm⟩
 clear P;go_wp2_with fail;refine (KD.o _).mono ?_;rintro e w' ⟨rfl,rfl⟩;clear KD;have B:j≠l:=by have:=i.o;omega
 have C:l≠j:=by have:=i.o;omega
 obtain ⟨ab,ce1,aa,Z,Y⟩:=rc5 b.o.row;obtain ⟨V,T,S,R,Q⟩:=fz5 b.o.fz;obtain ⟨V5,u⟩:=nm (w4.setCell ⟨l,0,none⟩ (M O 2));have g:w4.grownBy V5 (some l):=by rw [u];exact (gst (Af _ _))
 replace b:Hx (Bx l [M O 2,M O p,M O 0,.string ⟨#[]⟩,U none 0 0] V5):=by show Bx _ _ _;rw [u];exact (b.o.se 0)
 replace a:=Aa (a.o.keep g (by have:=i.o;omega));replace c:=Aa (c.o.box g L.o);clear g;obtain ⟨px,F⟩:=nm (AJ ts s);obtain ⟨x,s1⟩:=px;have KM:=Aa (Ce hall s _ c.o.st);rw [<-F] at KM A;dsimp only at KM A;have bc:=Aa F;clear F;go_wp2_with fail;rw [<-u];clear Q R S T V Y Z aa ce1 ab C B;clear u;refine KM.o.mono ?_;rintro e w6 ⟨rfl,hq⟩;clear KM;have hg:=hq.1;replace a:=bkp a c.o.rlt ad hg;replace b:=bkp b c.o.rlt L hg;replace c:Hx (Rq rb tv ts en w N (s1) w6):=Qo.rq c.o hq;clear hg hq;have B:j≠l:=by have:=i.o;omega
 have C:l≠j:=by have:=i.o;omega
 obtain ⟨ab,ce1,aa,Z,Y⟩:=rc5 b.o.row;obtain ⟨V,T,S,R,Q⟩:=fz5 b.o.fz;obtain ⟨bb,ba,a9,a8,a7⟩:=rc5 a.o.row;obtain ⟨a5,a4,a3,a2,a1⟩:=fz5 a.o.fz;obtain ⟨V7,K⟩:=nm (w6.setCell ⟨l,3,none⟩ (.string x));have g:w6.grownBy V7 (some l):=by rw [K];exact (gst (Af _ _))
 replace b:Hx (Bx l [M O 2,M O p,M O 0,.string x,U none 0 0] V7):=by show Bx _ _ _;rw [K];exact (b.o.se 3)
 replace a:=Aa (a.o.keep g (by have:=i.o;omega));replace c:=Aa (c.o.box g L.o);clear g;obtain ⟨V8,J⟩:=nm (((((V7.setCell ⟨j,0,none⟩ (M O 2)).setCell ⟨j,1,none⟩ (M O p)).setCell ⟨j,2,none⟩ (M O 0)).setCell ⟨j,3,none⟩ (.string x)).setCell ⟨j,4,none⟩ (U none 0 0));have g:V7.grownBy V8 (some j):=by rw [J];exact (gst (gst (gst (gst (gst (Af _ _))))))
 replace a:Hx (Bx j [M O 2,M O p,M O 0,.string x,U none 0 0] V8):=by show Bx _ _ _;rw [J];exact (((((a.o.se 0).se 1).se 2).se 3).se 4)
 replace b:=Aa (b.o.keep g (by have:=i.o;omega));replace c:=Aa (c.o.box g ad.o);clear g;go_wp2_with fail;refine bodyPost_ret (v:=zf #[M O 2,M O p,M O 0,.string x,U none 0 0]) (by simp [results,Tryz.results60,go_sem, *]) rfl ?_;rw [<-K,<-J];rw [A.o];refine ⟨_,_,_,_,_,_,_,rfl,fun W hW=>?_,c.o.gr,c.o.st,by rw [<-ar.o];exact c.o.le⟩;exact ⟨2,p,0,x,_,[],rfl,rfl,LS.nil⟩
theorem MH (hall:ts.all An=true) (f deep:Nat) (s:Sg) (w:World) (h:Sd rb tv ts en s w) (h2:¬ tl ts s 0=[45]) (h3:CH (tl ts s 0)=true):Calls Tryz.prog 60 #[zd (some ⟨rb,0,none⟩),M O (deep:Int)] w (CW rb tv ts en (f+1) w s (A4 ts en (f+1) deep s)):=by
 obtain ⟨ai,m⟩:=nm (A4 ts en (f+1) deep s);rw [<-m];have u:Hx (ai=(fun p:Int × Sg=>(eD 1 (Ar ts en s.1) p.1 noS [],p.2)) (DQ ts s)):=by show _=_;rw [m,A4];rw [if_neg (fun e=>by rw [e.1] at h3;exact absurd h3 (by decide)),if_neg h2,if_pos h3]
 obtain ⟨J,E⟩:=nm s.1;have c:Hx (Rq rb tv ts en w J (s) w):=by show Rq _ _ _ _ _ _ _ _;rw [E];exact Rq.start h
 have ao:=Aa E;clear m E h;obtain ⟨V1,r⟩:=nm (w.alloc (ze #[M O 0,M O 0,M O 0,.string ⟨#[]⟩,U none 0 0] 49));obtain ⟨k,F⟩:=nm w.heap.size;have l:=F;have aa:Hx (w.heap.size<=k):=by show _<=_;rw [l];exact c.o.size
 have a:Hx (Bx k [M O 0,M O 0,M O 0,.string ⟨#[]⟩,U none 0 0] V1):=by show Bx _ _ _;rw [r,l];exact Bx.new w [M O 0,M O 0,M O 0,.string ⟨#[]⟩,U none 0 0] 49
 replace c:Hx (Rq rb tv ts en w J (s) V1):=by show Rq _ _ _ _ _ _ _ _;rw [r];exact c.o.over (bA _ _)
 go_enter Tryz.func60,Tryz.ntmps60;obtain ⟨p,hp⟩:=nm (Ar ts en (s).1);have KH:Hx (Ro 28 #[zd (some ⟨rb,0,none⟩)] V1 (M O p)):=by rw [hp];exact Cf s _ c.o.st
 go_wp2_with fail;rw [<-r,<-F];clear l;clear F r;refine KH.o.mono ?_;rintro e w2 ⟨rfl,y⟩;clear KH;replace a:=Aa (a.o.over y);replace c:Hx (Rq rb tv ts en w J (s) w2):=c.o.over y;clear y;rw [<-hp] at u;clear hp;obtain ⟨V3,n⟩:=nm (w2.alloc (ze #[M O 1,M O p,M O 0,.string ⟨#[]⟩,U none 0 0] 49));obtain ⟨A,G⟩:=nm w2.heap.size;have i:=G;have ab:Hx (w.heap.size<=A):=by show _<=_;rw [i];exact c.o.size
 have j:Hx (k < A):=by show _ < _;rw [i];exact a.o.lt
 have b:Hx (Bx A [M O 1,M O p,M O 0,.string ⟨#[]⟩,U none 0 0] V3):=by show Bx _ _ _;rw [n,i];exact Bx.new w2 [M O 1,M O p,M O 0,.string ⟨#[]⟩,U none 0 0] 49
 replace a:Hx (Bx k [M O 0,M O 0,M O 0,.string ⟨#[]⟩,U none 0 0] V3):=by show Bx _ _ _;rw [n];exact a.o.over (bA _ _)
 replace c:Hx (Rq rb tv ts en w J (s) V3):=by show Rq _ _ _ _ _ _ _ _;rw [n];exact c.o.over (bA _ _)
 obtain ⟨t,ht⟩:=nm (tx ts s 0);have KT:Hx (Ro 57 #[zd (some ⟨rb,0,none⟩),M O 0] V3 (.string t)):=by rw [ht];exact AY 0 (by omega) s _ c.o.st
 have Z:=Aa ht;clear ht;go_wp2_with fail;rw [<-n,<-G];clear i;clear G n;refine KT.o.mono ?_;rintro e w4 ⟨rfl,y⟩;clear KT;replace a:=Aa (a.o.over y);replace b:=Aa (b.o.over y);replace c:Hx (Rq rb tv ts en w J (s) w4):=c.o.over y;clear y;have q1:(t.toList == [40])=false:=Bh Z.o fun e=>by rw [e] at h3;exact absurd h3 (by decide)
 have q2:(t.toList == [45])=false:=Bh Z.o h2;have B:¬ tl ts s 0=[]:=fun e=>by rw [e] at h3;exact absurd h3 (by decide)
 have q3:(t.toList == [])=false:=Bh Z.o B;have h0:0 < t.size:=by
  have e:t.data.toList.length=t.size:=rfl;have e2:t.data.toList≠[]:=by rw [Z.o];exact B
  have:=List.length_pos_iff.2 e2;omega
 have K:isD t[0]=true:=by rw [<-C8 t h0,Z.o];exact h3
 clear B;clear h2 h3;have KD:Hx (∀ X,Calls Tryz.prog 101 #[M .u8 (t[0].toNat:Int)] X fun e w'=>e=zg (zc true)/\X=w'):=fun X=>by
  have:=Bb t[0] X;rw [K] at this;exact this.mono fun e w' h=>⟨h.1,h.2.symm⟩
 clear K;go_wp2_with fail;refine (KD.o _).mono ?_;rintro e w' ⟨rfl,rfl⟩;clear KD;obtain ⟨px,C⟩:=nm (DQ ts s);obtain ⟨x,s1⟩:=px;have KM:=Aa (FN hall s _ c.o.st);rw [<-C] at KM u;dsimp only at KM u;have bb:=Aa C;clear C;obtain ⟨Y,ce1,V,T,S⟩:=rc5 b.o.row;obtain ⟨R,Q,P,N,L⟩:=fz5 b.o.fz;go_wp2_with fail;clear L N P Q R S T V ce1 Y;refine KM.o.mono ?_;rintro e w5 ⟨rfl,hq⟩;clear KM;have hg:=hq.1;replace a:=bkp a c.o.rlt aa hg;replace b:=bkp b c.o.rlt ab hg;replace c:Hx (Rq rb tv ts en w J (s1) w5):=Qo.rq c.o hq;clear hg hq;obtain ⟨Y,ce1,V,T,S⟩:=rc5 b.o.row;obtain ⟨R,Q,P,N,L⟩:=fz5 b.o.fz;obtain ⟨ba,a9,a8,a7,a6⟩:=rc5 a.o.row;obtain ⟨a4,a3,a2,a1,a0⟩:=fz5 a.o.fz;have ap:k≠A:=by have:=j.o;omega
 have aq:A≠k:=by have:=j.o;omega
 obtain ⟨V6,I⟩:=nm (w5.setCell ⟨A,2,none⟩ (M O x));have g:w5.grownBy V6 (some A):=by rw [I];exact (gst (Af _ _))
 replace b:Hx (Bx A [M O 1,M O p,M O x,.string ⟨#[]⟩,U none 0 0] V6):=by show Bx _ _ _;rw [I];exact (b.o.se 2)
 replace a:=Aa (a.o.keep g (by have:=j.o;omega));replace c:=Aa (c.o.box g ab.o);clear g;obtain ⟨V7,H⟩:=nm (((((V6.setCell ⟨k,0,none⟩ (M O 1)).setCell ⟨k,1,none⟩ (M O p)).setCell ⟨k,2,none⟩ (M O x)).setCell ⟨k,3,none⟩ (.string ⟨#[]⟩)).setCell ⟨k,4,none⟩ (U none 0 0));have g:V6.grownBy V7 (some k):=by rw [H];exact (gst (gst (gst (gst (gst (Af _ _))))))
 replace a:Hx (Bx k [M O 1,M O p,M O x,.string ⟨#[]⟩,U none 0 0] V7):=by show Bx _ _ _;rw [H];exact (((((a.o.se 0).se 1).se 2).se 3).se 4)
 replace b:=Aa (b.o.keep g (by have:=j.o;omega));replace c:=Aa (c.o.box g aa.o);clear g;go_wp2_with fail;refine bodyPost_ret (v:=zf #[M O 1,M O p,M O x,.string ⟨#[]⟩,U none 0 0]) (by simp [results,Tryz.results60,go_sem, *]) rfl ?_;rw [<-I,<-H];rw [u.o];refine ⟨_,_,_,_,_,_,_,rfl,fun W hW=>?_,c.o.gr,c.o.st,by rw [<-ao.o];exact c.o.le⟩;exact ⟨1,p,x,⟨#[]⟩,_,[],rfl,rfl,LS.nil⟩
theorem Gp (hall:ts.all An=true) (s:Sg) (x:Int) (s':Sg) (h:(x,s')=DQ ts s):-9223372036854775807<=x/\x<=9223372036854775807:=by
 unfold DQ at h;split at h
 ·rename_i a
  injection h with c b;have:=(Gd hall s a).2.2.1;omega
 ·injection h with c b
  omega
theorem MI (hall:ts.all An=true) (f deep:Nat) (s:Sg) (w:World) (h:Sd rb tv ts en s w) (h2:tl ts s 0=[45]):Calls Tryz.prog 60 #[zd (some ⟨rb,0,none⟩),M O (deep:Int)] w (CW rb tv ts en (f+1) w s (A4 ts en (f+1) deep s)):=by
 obtain ⟨a0,G⟩:=nm (A4 ts en (f+1) deep s);rw [<-G];have j:Hx (a0=(fun s1:Sg=>(fun p:Int × Sg=>(eD 1 (Ar ts en s.1) (-p.1) noS [],p.2)) (DQ ts (if tl ts s1 0=[48] then Ci s1 else s1))) (Al ts [45] s)):=by show _=_;rw [G,A4];rw [if_neg (fun e=>by rw [e.1] at h2;exact absurd h2 (by decide)),if_pos h2]
 obtain ⟨V,ac⟩:=nm s.1;have c:Hx (Rq rb tv ts en w V (s) w):=by show Rq _ _ _ _ _ _ _ _;rw [ac];exact Rq.start h
 have ao:=Aa ac;clear G ac h;obtain ⟨V1,Z⟩:=nm (w.alloc (ze #[M O 0,M O 0,M O 0,.string ⟨#[]⟩,U none 0 0] 49));obtain ⟨k,ad⟩:=nm w.heap.size;have F:=ad;have C:Hx (w.heap.size<=k):=by show _<=_;rw [F];exact c.o.size
 have a:Hx (Bx k [M O 0,M O 0,M O 0,.string ⟨#[]⟩,U none 0 0] V1):=by show Bx _ _ _;rw [Z,F];exact Bx.new w [M O 0,M O 0,M O 0,.string ⟨#[]⟩,U none 0 0] 49
 replace c:Hx (Rq rb tv ts en w V (s) V1):=by show Rq _ _ _ _ _ _ _ _;rw [Z];exact c.o.over (bA _ _)
 go_enter Tryz.func60,Tryz.ntmps60;obtain ⟨p,hp⟩:=nm (Ar ts en (s).1);have KH:Hx (Ro 28 #[zd (some ⟨rb,0,none⟩)] V1 (M O p)):=by rw [hp];exact Cf s _ c.o.st
 go_wp2_with fail;rw [<-Z,<-ad];clear F;clear ad Z;refine KH.o.mono ?_;rintro e w2 ⟨rfl,A⟩;clear KH;replace a:=Aa (a.o.over A);replace c:Hx (Rq rb tv ts en w V (s) w2):=c.o.over A;clear A;rw [<-hp] at j;clear hp;obtain ⟨V3,H⟩:=nm (w2.alloc (ze #[M O 1,M O p,M O 0,.string ⟨#[]⟩,U none 0 0] 49));obtain ⟨B,ae⟩:=nm w2.heap.size;have y:=ae;have E:Hx (w.heap.size<=B):=by show _<=_;rw [y];exact c.o.size
 have i:Hx (k < B):=by show _ < _;rw [y];exact a.o.lt
 have b:Hx (Bx B [M O 1,M O p,M O 0,.string ⟨#[]⟩,U none 0 0] V3):=by show Bx _ _ _;rw [H,y];exact Bx.new w2 [M O 1,M O p,M O 0,.string ⟨#[]⟩,U none 0 0] 49
 replace a:Hx (Bx k [M O 0,M O 0,M O 0,.string ⟨#[]⟩,U none 0 0] V3):=by show Bx _ _ _;rw [H];exact a.o.over (bA _ _)
 replace c:Hx (Rq rb tv ts en w V (s) V3):=by show Rq _ _ _ _ _ _ _ _;rw [H];exact c.o.over (bA _ _)
 obtain ⟨t,ht⟩:=nm (tx ts s 0);have KT:Hx (Ro 57 #[zd (some ⟨rb,0,none⟩),M O 0] V3 (.string t)):=by rw [ht];exact AY 0 (by omega) s _ c.o.st
 have Ht:=Aa ht;clear ht;go_wp2_with fail;rw [<-H,<-ae];clear y;clear ae H;refine KT.o.mono ?_;rintro e w4 ⟨rfl,A⟩;clear KT;replace a:=Aa (a.o.over A);replace b:=Aa (b.o.over A);replace c:Hx (Rq rb tv ts en w V (s) w4):=c.o.over A;clear A;have q1:(t.toList == [40])=false:=Bh Ht.o (by rw [h2];simp);have q2:(t.toList == [45])=true:=CZ Ht.o h2;clear h2;obtain ⟨s1,X⟩:=nm (Al ts [45] s);have KN:=Aa (AO ⟨#[45]⟩ [45] rfl (by decide) s _ c.o.st);rw [<-X] at KN;rw [<-X] at j;have bw:=Aa X;clear X;go_wp2_with fail;refine KN.o.mono ?_;rintro e w5 ⟨rfl,l⟩;clear KN;have n:=l.1;replace a:=bkp a c.o.rlt C n;replace b:=bkp b c.o.rlt E n;replace c:Hx (Rq rb tv ts en w V (s1) w5):=Qo.rq c.o l;clear n l;clear q1 q2;obtain ⟨u,hu⟩:=nm (tx ts s1 0);have KT:Hx (Ro 57 #[zd (some ⟨rb,0,none⟩),M O 0] w5 (.string u)):=by rw [hu];exact AY 0 (by omega) s1 _ c.o.st
 have Hu:=Aa hu;clear hu;go_wp2_with fail;refine KT.o.mono ?_;rintro e w6 ⟨rfl,A⟩;clear KT;replace a:=Aa (a.o.over A);replace b:=Aa (b.o.over A);replace c:Hx (Rq rb tv ts en w V (s1) w6):=c.o.over A;clear A;by_cases hz:tl ts s1 0=[48]
 ·have q4:(u.toList == [48])=true:=CZ Hu.o hz
  rw [if_pos hz] at j;clear hz;obtain ⟨T,ce1,S,R,Q⟩:=rc5 b.o.row;obtain ⟨P,N,L,K,J⟩:=fz5 b.o.fz;obtain ⟨a3,a2,rc2,a1,az,ay⟩:=c.o.st.cells;have Y:=c.o.st.fail;obtain ⟨V7,ag⟩:=nm (w6.setCell ⟨rb,3,none⟩ (zc true));rw [<-ag] at Y;have l:Qo rb tv ts en w6 s1 (Ci s1) V7:=⟨Y.2,Y.1,Nat.le_refl _⟩;clear Y;obtain ⟨s2,ab⟩:=nm (Ci s1);rw [<-ab] at l;have bm:=Aa ab;clear ab;have n:=l.1;replace a:=bkp a c.o.rlt C n;replace b:=bkp b c.o.rlt E n;replace c:Hx (Rq rb tv ts en w V (s2) V7):=Qo.rq c.o l;clear n l;rw [<-bm.o] at j;obtain ⟨px,m⟩:=nm (DQ ts s2);obtain ⟨x,s3⟩:=px;have KM:=Aa (FN hall s2 _ c.o.st);rw [<-m] at KM j;dsimp only at KM j;have ai:=Aa m;clear m;go_wp2_with fail;rw [<-ag];clear ay az a1 rc2 a2 a3 J K L N P Q R S ce1 T;clear ag;refine KM.o.mono ?_;rintro e w8 ⟨rfl,l⟩;clear KM;have n:=l.1;replace a:=bkp a c.o.rlt C n;replace b:=bkp b c.o.rlt E n;replace c:Hx (Rq rb tv ts en w V (s3) w8):=Qo.rq c.o l;clear n l;have a5:-9223372036854775807<=x/\x<=9223372036854775807:=Gp hall s2 x s3 ai.o;obtain ⟨T,ce1,S,R,Q⟩:=rc5 b.o.row;obtain ⟨P,N,L,K,J⟩:=fz5 b.o.fz;obtain ⟨bj,bi,bh,bg,bf⟩:=rc5 a.o.row;obtain ⟨bd,bc,bb,ba,a9⟩:=fz5 a.o.fz;have ak:k≠B:=by have:=i.o;omega
  have al:B≠k:=by have:=i.o;omega
  obtain ⟨V9,r⟩:=nm (w8.setCell ⟨B,2,none⟩ (M O (-x)));have g:w8.grownBy V9 (some B):=by rw [r];exact (gst (Af _ _))
  replace b:Hx (Bx B [M O 1,M O p,M O (-x),.string ⟨#[]⟩,U none 0 0] V9):=by show Bx _ _ _;rw [r];exact (b.o.se 2)
  replace a:=Aa (a.o.keep g (by have:=i.o;omega));replace c:=Aa (c.o.box g E.o);clear g;obtain ⟨am,I⟩:=nm (((((V9.setCell ⟨k,0,none⟩ (M O 1)).setCell ⟨k,1,none⟩ (M O p)).setCell ⟨k,2,none⟩ (M O (-x))).setCell ⟨k,3,none⟩ (.string ⟨#[]⟩)).setCell ⟨k,4,none⟩ (U none 0 0));have g:V9.grownBy am (some k):=by rw [I];exact (gst (gst (gst (gst (gst (Af _ _))))))
  replace a:Hx (Bx k [M O 1,M O p,M O (-x),.string ⟨#[]⟩,U none 0 0] am):=by show Bx _ _ _;rw [I];exact (((((a.o.se 0).se 1).se 2).se 3).se 4)
  replace b:=Aa (b.o.keep g (by have:=i.o;omega));replace c:=Aa (c.o.box g C.o);clear g;go_wp2_with fail;refine bodyPost_ret (v:=zf #[M O 1,M O p,M O (-x),.string ⟨#[]⟩,U none 0 0]) (by simp [results,Tryz.results60,go_sem, *]) rfl ?_;rw [<-r,<-I];rw [j.o];refine ⟨_,_,_,_,_,_,_,rfl,fun W hW=>?_,c.o.gr,c.o.st,by rw [<-ao.o];exact c.o.le⟩;exact ⟨1,p,-x,⟨#[]⟩,_,[],rfl,rfl,LS.nil⟩
 ·have q4:(u.toList == [48])=false:=Bh Hu.o hz
  rw [if_neg hz] at j;clear hz;obtain ⟨px,m⟩:=nm (DQ ts s1);obtain ⟨x,s3⟩:=px;have KM:=Aa (FN hall s1 _ c.o.st);rw [<-m] at KM j;dsimp only at KM j;have ai:=Aa m;clear m;obtain ⟨T,ce1,S,R,Q⟩:=rc5 b.o.row;obtain ⟨P,N,L,K,J⟩:=fz5 b.o.fz;go_wp2_with fail;clear J K L N P Q R S ce1 T;refine KM.o.mono ?_;rintro e w7 ⟨rfl,l⟩;clear KM;have n:=l.1;replace a:=bkp a c.o.rlt C n;replace b:=bkp b c.o.rlt E n;replace c:Hx (Rq rb tv ts en w V (s3) w7):=Qo.rq c.o l;clear n l;have a5:-9223372036854775807<=x/\x<=9223372036854775807:=Gp hall s1 x s3 ai.o;obtain ⟨T,ce1,S,R,Q⟩:=rc5 b.o.row;obtain ⟨P,N,L,K,J⟩:=fz5 b.o.fz;obtain ⟨bj,bi,bh,bg,bf⟩:=rc5 a.o.row;obtain ⟨bd,bc,bb,ba,a9⟩:=fz5 a.o.fz;have ak:k≠B:=by have:=i.o;omega
  have al:B≠k:=by have:=i.o;omega
  obtain ⟨V8,af⟩:=nm (w7.setCell ⟨B,2,none⟩ (M O (-x)));have g:w7.grownBy V8 (some B):=by rw [af];exact (gst (Af _ _))
  replace b:Hx (Bx B [M O 1,M O p,M O (-x),.string ⟨#[]⟩,U none 0 0] V8):=by show Bx _ _ _;rw [af];exact (b.o.se 2)
  replace a:=Aa (a.o.keep g (by have:=i.o;omega));replace c:=Aa (c.o.box g E.o);clear g;obtain ⟨V9,r⟩:=nm (((((V8.setCell ⟨k,0,none⟩ (M O 1)).setCell ⟨k,1,none⟩ (M O p)).setCell ⟨k,2,none⟩ (M O (-x))).setCell ⟨k,3,none⟩ (.string ⟨#[]⟩)).setCell ⟨k,4,none⟩ (U none 0 0));have g:V8.grownBy V9 (some k):=by rw [r];exact (gst (gst (gst (gst (gst (Af _ _))))))
  replace a:Hx (Bx k [M O 1,M O p,M O (-x),.string ⟨#[]⟩,U none 0 0] V9):=by show Bx _ _ _;rw [r];exact (((((a.o.se 0).se 1).se 2).se 3).se 4)
  replace b:=Aa (b.o.keep g (by have:=i.o;omega));replace c:=Aa (c.o.box g C.o);clear g;go_wp2_with fail;refine bodyPost_ret (v:=zf #[M O 1,M O p,M O (-x),.string ⟨#[]⟩,U none 0 0]) (by simp [results,Tryz.results60,go_sem, *]) rfl ?_;rw [<-af,<-r];rw [j.o];refine ⟨_,_,_,_,_,_,_,rfl,fun W hW=>?_,c.o.gr,c.o.st,by rw [<-ao.o];exact c.o.le⟩;exact ⟨1,p,-x,⟨#[]⟩,_,[],rfl,rfl,LS.nil⟩
end
end Go.Proofs.YtipngnjffjajpaaGreatDoor.Tx
