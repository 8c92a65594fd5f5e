/- The document's reader in memory: expressions. -/
import Derived.Test.YtipngnjffjajpaaGreatDoorK19
set_option linter.unusedVariables false
set_option maxHeartbeats 8000000
set_option maxRecDepth 100000
namespace Go.Proofs.YtipngnjffjajpaaGreatDoor.Tx
open Go.RowKit
open Go.Value renaming int -> O, slice -> zd, bool -> ze, agg -> zf, pointer -> zh, tuple -> zj
open Go.IntKind renaming i64 -> zc
open Go.Obj renaming cells -> zg
open Go.Ending renaming returned -> zi
section
variable {rb:Nat} {tv:Value} {ts:List Tok} {en:Nat}
theorem DH (x:ByteArray) (l:List UInt8) (hl:x.data.toList=l) (hx:l≠[]) (s:Sg) (w:World) (h:Sd rb tv ts en s w):Calls Tryz.prog 26 #[zh (some ⟨rb,0,none⟩),.string x] w fun e w'=>e=zi (zj #[])/\Qo rb tv ts en w s (Ak ts l s) w':=by
 rw [<-hl];exact QZ x (by rw [hl];exact hx) s w h
theorem ned (x:ByteArray) (l:List UInt8) (hl:x.data.toList=l) (hx:l≠[]) {s:Sg} {w w0:World} {m:Nat} (h:Hx (Rq rb tv ts en w0 m s w)):∃ s',Hx (s'=Ak ts l s)/\Hx (Calls Tryz.prog 26 #[zh (some ⟨rb,0,none⟩),.string x] w fun e w'=>e=zi (zj #[])/\Qo rb tv ts en w s s' w'):=⟨_,rfl,DH x l hl hx s w h.o.st⟩
def Dl (rb:Nat) (tv:Value) (ts:List Tok) (en f:Nat) (w:World) (s:Sg) (r:D × Sg) (e:Ending) (w':World):Prop:=∃ (kd a n:Int) (x:ByteArray) (ao:Option Addr) (l c:Nat),e=zi (zf #[O zc kd,O zc a,O zc n,.string x,zd ao l c])/\Off w.heap.size none w' (fun W=>XE W f [O zc kd,O zc a,O zc n,.string x,zd ao l c] r.1)/\Qo rb tv ts en w s r.2 w'
def QG (rb:Nat) (tv:Value) (ts:List Tok) (en f deep:Nat):Prop:=∀ (s:Sg) (w:World),Sd rb tv ts en s w->Calls Tryz.prog 60 #[zh (some ⟨rb,0,none⟩),O zc (deep:Int)] w (Dl rb tv ts en f w s (Ba ts en f deep s))
theorem Off.bx {B b:Nat} {cs:List Value} {V:World} (h:Bx b cs V) (hb:B<=b):Off B none V (fun W=>Ad cs W b/\Fz0 W b 0 10):=fun W hW=>⟨fun j u hu=>by
 rw [World.cell?_of_block (a:=⟨b,j,none⟩) (hW b hb h.lt (by simp))];exact h.row j u hu,Fz0.of_block ⟨h.lt,fun i _=>by rw [Nat.zero_add];exact h.fz i⟩ (hW b hb h.lt (by simp))⟩
theorem LS.two {α:Type} {R:List Value->α->Prop} {w:World} {b:Nat} {a0 a1 a2 a3 a4 b0 b1 b2 b3 b4:Value} {d1 d2:α} (hr0:Ad [a0,a1,a2,a3,a4,b0,b1,b2,b3,b4] w b/\Fz0 w b 0 10) (r1:R [a0,a1,a2,a3,a4] d1) (r2:R [b0,b1,b2,b3,b4] d2):LS 5 R w (zd (some ⟨b,0,none⟩) 2 2) [d1,d2]:=by
 have hr:=hr0.1;refine ⟨by show 2<=maxLen;decide,some ⟨b,0,none⟩,2,rfl,fun _=>⟨b,0,rfl,hr0.2,fun i a f=>?_⟩⟩
 match i,f with
 | 0,f=>
  injection f with f;subst f;refine ⟨_,rfl,fun j u c=>?_,r1⟩;have g:j < 5:=(List.getElem?_eq_some_iff.1 c).1;have:[a0,a1,a2,a3,a4,b0,b1,b2,b3,b4][j]? = some u:=by
   match j,c with
   | 0,c=>exact c
   | 1,c=>exact c
   | 2,c=>exact c
   | 3,c=>exact c
   | 4,c=>exact c
  simpa using hr j u this
 | 1,f=>
  injection f with f;subst f;refine ⟨_,rfl,fun j u c=>?_,r2⟩;have g:j < 5:=(List.getElem?_eq_some_iff.1 c).1;have:[a0,a1,a2,a3,a4,b0,b1,b2,b3,b4][5+j]? = some u:=by
   match j,c with
   | 0,c=>exact c
   | 1,c=>exact c
   | 2,c=>exact c
   | 3,c=>exact c
   | 4,c=>exact c
  simpa using hr (5+j) u this
 | i+2,f=>cases f
def opU (j:Nat) (l:List UInt8):Int:=if A0 l < 3+(j:Int) then A0 l else 0
theorem RY (l:List UInt8):opU 0 l=0:=by
 unfold opU A0
 repeat' split
 all_goals first | rfl | omega
theorem RX (l:List UInt8):opU 5 l=A0 l:=by
 unfold opU A0
 repeat' split
 all_goals first | rfl | omega
theorem QW (l:List UInt8) (j:Nat) (hj:j < 5):∃ y:ByteArray,[Value.string ⟨#[43]⟩,.string ⟨#[45]⟩,.string ⟨#[42]⟩,.string ⟨#[60]⟩,.string ⟨#[61,61]⟩][j]? = some (.string y)/\(l=y.data.toList->opU (j+1) l=3+(j:Int))/\(¬ l=y.data.toList->opU (j+1) l=opU j l):=by
 have h:j=0\/j=1\/j=2\/j=3\/j=4:=by omega
 rcases h with rfl | rfl | rfl | rfl | rfl
 ·refine ⟨_,rfl,fun h=>by rw [h];decide,fun h=>?_⟩
  have a:¬ l=[43]:=h;unfold opU A0;simp only [a,if_false]
  repeat' split
  all_goals first | rfl | omega
 ·refine ⟨_,rfl,fun h=>by rw [h];decide,fun h=>?_⟩
  have a:¬ l=[45]:=h;unfold opU A0;simp only [a,if_false]
  repeat' split
  all_goals first | rfl | omega
 ·refine ⟨_,rfl,fun h=>by rw [h];decide,fun h=>?_⟩
  have a:¬ l=[42]:=h;unfold opU A0;simp only [a,if_false]
  repeat' split
  all_goals first | rfl | omega
 ·refine ⟨_,rfl,fun h=>by rw [h];decide,fun h=>?_⟩
  have a:¬ l=[60]:=h;unfold opU A0;simp only [a,if_false]
  repeat' split
  all_goals first | rfl | omega
 ·refine ⟨_,rfl,fun h=>by rw [h];decide,fun h=>?_⟩
  have a:¬ l=[61,61]:=h;unfold opU A0;simp only [a,if_false]
  repeat' split
  all_goals first | rfl | omega
theorem Qe (hall:ts.all Ai=true) (f deep:Nat) (s:Sg) (w:World) (h:Sd rb tv ts en s w) (h1:¬ (tl ts s 0=[40]/\deep < 60)) (h2:¬ tl ts s 0=[45]) (h3:¬ C6 (tl ts s 0)=true) (hq40:tl ts s 0=[40]):Calls Tryz.prog 60 #[zh (some ⟨rb,0,none⟩),O zc (deep:Int)] w (Dl rb tv ts en (f+1) w s (Ba ts en (f+1) deep s)):=by
 obtain ⟨V,j⟩:=nm (Ba ts en (f+1) deep s);rw [<-j];have B:Hx (V=(fun p:ByteArray × Sg=>(eD 2 (Al ts en s.1) 0 p.1 [],p.2)) (AD ts s)):=by show _=_;rw [j,Ba];rw [if_neg h1,if_neg h2,if_neg h3]
 obtain ⟨m0,H⟩:=nm s.1;have c:=qst H h;have aa:=Aa H;clear j H h;obtain ⟨V1,A⟩:=nm (w.alloc (zg #[O zc 0,O zc 0,O zc 0,.string ⟨#[]⟩,zd none 0 0] 49));obtain ⟨P,r⟩:=nm w.heap.size;have R:=zsq c r;have a:=A1 r A;replace c:=zqo c A;go_enter Tryz.func60,Tryz.ntmps60;obtain ⟨p,Z⟩:=nm (Al ts en (s).1);have KH:=zhq c Z;go_wp2_with fail;rw [<-A,<-r];clear r A;refine mo KH.o fun w2 F=>?_;clear KH;replace a:=Aa (a.o.over F);replace c:=Aa (c.o.over F);clear F;rw [<-Z] at B;clear Z;obtain ⟨V3,n⟩:=nm (w2.alloc (zg #[O zc 1,O zc p,O zc 0,.string ⟨#[]⟩,zd none 0 0] 49));obtain ⟨K,l⟩:=nm w2.heap.size;have J:=zsq c l;have i:=zlb a l;have b:=A1 l n;replace a:=zbv a n;replace c:=zqo c n;obtain ⟨t,Y⟩:=nm (tx ts s 0);have KT:=ztq c Y;have Q:=Aa Y;clear Y;go_wp2_with fail;rw [<-n,<-l];clear l n;refine mo KT.o fun w4 F=>?_;clear KT;replace a:=Aa (a.o.over F);replace b:=Aa (b.o.over F);replace c:=Aa (c.o.over F);clear F;have q1:(t.toList == [40])=true:=DN Q.o hq40;have q2:(t.toList == [45])=false:=Br Q.o h2;have q3:(t.toList == [])=false:=Br Q.o (by rw [hq40];simp);have ah:¬ (deep:Int) < 60:=fun e=>h1 ⟨hq40,by omega⟩;have h0:0 < t.size:=by
  have e:t.data.toList.length=t.size:=rfl;have e2:t.data.toList=[40]:=by rw [Q.o];exact hq40
  rw [e2] at e;simp at e;omega
 have L:isD t[0]=false:=by rw [<-DI t h0,Q.o];exact Bool.eq_false_iff.2 h3
 clear h1 h2 h3 hq40;have KD:Hx (∀ X,Calls Tryz.prog 101 #[O .u8 (t[0].toNat:Int)] X fun e U=>e=zi (ze false)/\X=U):=fun X=>by
  have:=Bi t[0] X;rw [L] at this;exact this.mono fun e U h=>⟨h.1,h.2.symm⟩
 clear L;go_wp2_with fail;refine (KD.o _).mono ?_;rintro e U ⟨rfl,rfl⟩;clear KD;have C:P≠K:=by have:=i.o;omega
 have E:K≠P:=by have:=i.o;omega
 have N:=Ad.all b.o.row;have M:=b.o.fz;obtain ⟨V5,y⟩:=nm (w4.setCell ⟨K,0,none⟩ (O zc 2));have g:=gsv y;replace b:=zs0 b y;replace a:=zkl a g i;replace c:=Aa (c.o.box g J.o);clear g;obtain ⟨px,G⟩:=nm (AD ts s);obtain ⟨x,s1⟩:=px;have T:=Aa (Cv hall s _ c.o.st);rw [<-G] at T B;dsimp only at T B;have an:=Aa G;clear G;go_wp2_with fail;rw [<-y];clear M N E C y;refine mo T.o fun w6 S=>?_;clear T;replace a:=zcq a S c R;replace b:=zcq b S c J;replace c:=zrq c S;clear S;have C:P≠K:=by have:=i.o;omega
 have E:K≠P:=by have:=i.o;omega
 have N:=Ad.all b.o.row;have M:=b.o.fz;have al:=Ad.all a.o.row;have aj:=a.o.fz;obtain ⟨V7,I⟩:=nm (w6.setCell ⟨K,3,none⟩ (.string x));have g:=gsv I;replace b:=zs3 b I;replace a:=zkl a g i;replace c:=Aa (c.o.box g J.o);clear g;obtain ⟨V8,u⟩:=nm (setz P V7 [(0,O zc 2),(1,O zc p),(2,O zc 0),(3,.string x),(4,zd none 0 0)]);have g:=Ap u;replace a:=zzs a u rfl;dsimp only [BA,List.set] at a;simp only [setz] at u;replace b:=zkg b g i;replace c:=Aa (c.o.box g R.o);clear g;go_wp2_with fail;refine bodyPost_ret (v:=zf #[O zc 2,O zc p,O zc 0,.string x,zd none 0 0]) (by simp [results,Tryz.results60,go_sem, *]) rfl ?_;rw [<-I,<-u];rw [B.o];refine ⟨_,_,_,_,_,_,_,rfl,fun W hW=>?_,c.o.gr,c.o.st,by rw [<-aa.o];exact c.o.le⟩;exact ⟨2,p,0,x,_,[],rfl,rfl,LS.nil⟩
theorem Qd (hall:ts.all Ai=true) (f deep:Nat) (s:Sg) (w:World) (h:Sd rb tv ts en s w) (h1:¬ (tl ts s 0=[40]/\deep < 60)) (h2:¬ tl ts s 0=[45]) (h3:¬ C6 (tl ts s 0)=true) (hq0:tl ts s 0=[]):Calls Tryz.prog 60 #[zh (some ⟨rb,0,none⟩),O zc (deep:Int)] w (Dl rb tv ts en (f+1) w s (Ba ts en (f+1) deep s)):=by
 obtain ⟨S,j⟩:=nm (Ba ts en (f+1) deep s);rw [<-j];have B:Hx (S=(fun p:ByteArray × Sg=>(eD 2 (Al ts en s.1) 0 p.1 [],p.2)) (AD ts s)):=by show _=_;rw [j,Ba];rw [if_neg h1,if_neg h2,if_neg h3]
 obtain ⟨m0,H⟩:=nm s.1;have c:=qst H h;have X:=Aa H;clear j H h;obtain ⟨V1,A⟩:=nm (w.alloc (zg #[O zc 0,O zc 0,O zc 0,.string ⟨#[]⟩,zd none 0 0] 49));obtain ⟨N,r⟩:=nm w.heap.size;have P:=zsq c r;have a:=A1 r A;replace c:=zqo c A;go_enter Tryz.func60,Tryz.ntmps60;obtain ⟨p,U⟩:=nm (Al ts en (s).1);have Z:=zhq c U;go_wp2_with fail;rw [<-A,<-r];clear r A;refine mo Z.o fun Y F=>?_;clear Z;replace a:=Aa (a.o.over F);replace c:=Aa (c.o.over F);clear F;rw [<-U] at B;clear U;obtain ⟨V3,n⟩:=nm (Y.alloc (zg #[O zc 1,O zc p,O zc 0,.string ⟨#[]⟩,zd none 0 0] 49));obtain ⟨K,l⟩:=nm Y.heap.size;have J:=zsq c l;have i:=zlb a l;have b:=A1 l n;replace a:=zbv a n;replace c:=zqo c n;obtain ⟨t,T⟩:=nm (tx ts s 0);have KT:=ztq c T;have V:=Aa T;clear T;go_wp2_with fail;rw [<-n,<-l];clear l n;refine mo KT.o fun w4 F=>?_;clear KT;replace a:=Aa (a.o.over F);replace b:=Aa (b.o.over F);replace c:=Aa (c.o.over F);clear F;have q1:(t.toList == [40])=false:=Br V.o (by rw [hq0];simp);have q2:(t.toList == [45])=false:=Br V.o h2;have q3:(t.toList == [])=true:=DN V.o hq0;clear h1 h2 h3 hq0;have C:N≠K:=by have:=i.o;omega
 have E:K≠N:=by have:=i.o;omega
 have M:=Ad.all b.o.row;have L:=b.o.fz;obtain ⟨V5,y⟩:=nm (w4.setCell ⟨K,0,none⟩ (O zc 2));have g:=gsv y;replace b:=zs0 b y;replace a:=zkl a g i;replace c:=Aa (c.o.box g J.o);clear g;obtain ⟨px,G⟩:=nm (AD ts s);obtain ⟨x,s1⟩:=px;have R:=Aa (Cv hall s _ c.o.st);rw [<-G] at R B;dsimp only at R B;have ag:=Aa G;clear G;go_wp2_with fail;rw [<-y];clear L M E C y;refine mo R.o fun w6 Q=>?_;clear R;replace a:=zcq a Q c P;replace b:=zcq b Q c J;replace c:=zrq c Q;clear Q;have C:N≠K:=by have:=i.o;omega
 have E:K≠N:=by have:=i.o;omega
 have M:=Ad.all b.o.row;have L:=b.o.fz;have ae:=Ad.all a.o.row;have ad:=a.o.fz;obtain ⟨V7,I⟩:=nm (w6.setCell ⟨K,3,none⟩ (.string x));have g:=gsv I;replace b:=zs3 b I;replace a:=zkl a g i;replace c:=Aa (c.o.box g J.o);clear g;obtain ⟨V8,u⟩:=nm (setz N V7 [(0,O zc 2),(1,O zc p),(2,O zc 0),(3,.string x),(4,zd none 0 0)]);have g:=Ap u;replace a:=zzs a u rfl;dsimp only [BA,List.set] at a;simp only [setz] at u;replace b:=zkg b g i;replace c:=Aa (c.o.box g P.o);clear g;go_wp2_with fail;refine bodyPost_ret (v:=zf #[O zc 2,O zc p,O zc 0,.string x,zd none 0 0]) (by simp [results,Tryz.results60,go_sem, *]) rfl ?_;rw [<-I,<-u];rw [B.o];refine ⟨_,_,_,_,_,_,_,rfl,fun W hW=>?_,c.o.gr,c.o.st,by rw [<-X.o];exact c.o.le⟩;exact ⟨2,p,0,x,_,[],rfl,rfl,LS.nil⟩
theorem Qc (hall:ts.all Ai=true) (f deep:Nat) (s:Sg) (w:World) (h:Sd rb tv ts en s w) (h1:¬ (tl ts s 0=[40]/\deep < 60)) (h2:¬ tl ts s 0=[45]) (h3:¬ C6 (tl ts s 0)=true) (hq40:¬ tl ts s 0=[40]) (hq0:¬ tl ts s 0=[]):Calls Tryz.prog 60 #[zh (some ⟨rb,0,none⟩),O zc (deep:Int)] w (Dl rb tv ts en (f+1) w s (Ba ts en (f+1) deep s)):=by
 obtain ⟨V,j⟩:=nm (Ba ts en (f+1) deep s);rw [<-j];have B:Hx (V=(fun p:ByteArray × Sg=>(eD 2 (Al ts en s.1) 0 p.1 [],p.2)) (AD ts s)):=by show _=_;rw [j,Ba];rw [if_neg h1,if_neg h2,if_neg h3]
 obtain ⟨m0,H⟩:=nm s.1;have c:=qst H h;have aa:=Aa H;clear j H h;obtain ⟨V1,A⟩:=nm (w.alloc (zg #[O zc 0,O zc 0,O zc 0,.string ⟨#[]⟩,zd none 0 0] 49));obtain ⟨P,r⟩:=nm w.heap.size;have R:=zsq c r;have a:=A1 r A;replace c:=zqo c A;go_enter Tryz.func60,Tryz.ntmps60;obtain ⟨p,Z⟩:=nm (Al ts en (s).1);have KH:=zhq c Z;go_wp2_with fail;rw [<-A,<-r];clear r A;refine mo KH.o fun w2 F=>?_;clear KH;replace a:=Aa (a.o.over F);replace c:=Aa (c.o.over F);clear F;rw [<-Z] at B;clear Z;obtain ⟨V3,n⟩:=nm (w2.alloc (zg #[O zc 1,O zc p,O zc 0,.string ⟨#[]⟩,zd none 0 0] 49));obtain ⟨K,l⟩:=nm w2.heap.size;have J:=zsq c l;have i:=zlb a l;have b:=A1 l n;replace a:=zbv a n;replace c:=zqo c n;obtain ⟨t,Y⟩:=nm (tx ts s 0);have KT:=ztq c Y;have Q:=Aa Y;clear Y;go_wp2_with fail;rw [<-n,<-l];clear l n;refine mo KT.o fun w4 F=>?_;clear KT;replace a:=Aa (a.o.over F);replace b:=Aa (b.o.over F);replace c:=Aa (c.o.over F);clear F;have q1:(t.toList == [40])=false:=Br Q.o hq40;have q2:(t.toList == [45])=false:=Br Q.o h2;have q3:(t.toList == [])=false:=Br Q.o hq0;have h0:0 < t.size:=by
  have e:t.data.toList.length=t.size:=rfl;have e2:t.data.toList≠[]:=by rw [Q.o];exact hq0
  have:=List.length_pos_iff.2 e2;omega
 have L:isD t[0]=false:=by rw [<-DI t h0,Q.o];exact Bool.eq_false_iff.2 h3
 clear h1 h2 h3 hq0 hq40;have KD:Hx (∀ X,Calls Tryz.prog 101 #[O .u8 (t[0].toNat:Int)] X fun e U=>e=zi (ze false)/\X=U):=fun X=>by
  have:=Bi t[0] X;rw [L] at this;exact this.mono fun e U h=>⟨h.1,h.2.symm⟩
 clear L;go_wp2_with fail;refine (KD.o _).mono ?_;rintro e U ⟨rfl,rfl⟩;clear KD;have C:P≠K:=by have:=i.o;omega
 have E:K≠P:=by have:=i.o;omega
 have N:=Ad.all b.o.row;have M:=b.o.fz;obtain ⟨V5,y⟩:=nm (w4.setCell ⟨K,0,none⟩ (O zc 2));have g:=gsv y;replace b:=zs0 b y;replace a:=zkl a g i;replace c:=Aa (c.o.box g J.o);clear g;obtain ⟨px,G⟩:=nm (AD ts s);obtain ⟨x,s1⟩:=px;have T:=Aa (Cv hall s _ c.o.st);rw [<-G] at T B;dsimp only at T B;have am:=Aa G;clear G;go_wp2_with fail;rw [<-y];clear M N E C y;refine mo T.o fun w6 S=>?_;clear T;replace a:=zcq a S c R;replace b:=zcq b S c J;replace c:=zrq c S;clear S;have C:P≠K:=by have:=i.o;omega
 have E:K≠P:=by have:=i.o;omega
 have N:=Ad.all b.o.row;have M:=b.o.fz;have ak:=Ad.all a.o.row;have ai:=a.o.fz;obtain ⟨V7,I⟩:=nm (w6.setCell ⟨K,3,none⟩ (.string x));have g:=gsv I;replace b:=zs3 b I;replace a:=zkl a g i;replace c:=Aa (c.o.box g J.o);clear g;obtain ⟨V8,u⟩:=nm (setz P V7 [(0,O zc 2),(1,O zc p),(2,O zc 0),(3,.string x),(4,zd none 0 0)]);have g:=Ap u;replace a:=zzs a u rfl;dsimp only [BA,List.set] at a;simp only [setz] at u;replace b:=zkg b g i;replace c:=Aa (c.o.box g R.o);clear g;go_wp2_with fail;refine bodyPost_ret (v:=zf #[O zc 2,O zc p,O zc 0,.string x,zd none 0 0]) (by simp [results,Tryz.results60,go_sem, *]) rfl ?_;rw [<-I,<-u];rw [B.o];refine ⟨_,_,_,_,_,_,_,rfl,fun W hW=>?_,c.o.gr,c.o.st,by rw [<-aa.o];exact c.o.le⟩;exact ⟨2,p,0,x,_,[],rfl,rfl,LS.nil⟩
theorem Rf (hall:ts.all Ai=true) (f deep:Nat) (s:Sg) (w:World) (h:Sd rb tv ts en s w) (h2:¬ tl ts s 0=[45]) (h3:C6 (tl ts s 0)=true):Calls Tryz.prog 60 #[zh (some ⟨rb,0,none⟩),O zc (deep:Int)] w (Dl rb tv ts en (f+1) w s (Ba ts en (f+1) deep s)):=by
 obtain ⟨R,j⟩:=nm (Ba ts en (f+1) deep s);rw [<-j];have A:Hx (R=(fun p:Int × Sg=>(eD 1 (Al ts en s.1) p.1 noS [],p.2)) (EK ts s)):=by show _=_;rw [j,Ba];rw [if_neg (fun e=>by rw [e.1] at h3;exact absurd h3 (by decide)),if_neg h2,if_pos h3]
 obtain ⟨m0,F⟩:=nm s.1;have c:=qst F h;have Y:=Aa F;clear j F h;obtain ⟨V1,y⟩:=nm (w.alloc (zg #[O zc 0,O zc 0,O zc 0,.string ⟨#[]⟩,zd none 0 0] 49));obtain ⟨U,r⟩:=nm w.heap.size;have L:=zsq c r;have a:=A1 r y;replace c:=zqo c y;go_enter Tryz.func60,Tryz.ntmps60;obtain ⟨p,T⟩:=nm (Al ts en (s).1);have KH:=zhq c T;go_wp2_with fail;rw [<-y,<-r];clear r y;refine mo KH.o fun Z B=>?_;clear KH;replace a:=Aa (a.o.over B);replace c:=Aa (c.o.over B);clear B;rw [<-T] at A;clear T;obtain ⟨V3,n⟩:=nm (Z.alloc (zg #[O zc 1,O zc p,O zc 0,.string ⟨#[]⟩,zd none 0 0] 49));obtain ⟨V,l⟩:=nm Z.heap.size;have M:=zsq c l;have i:=zlb a l;have b:=A1 l n;replace a:=zbv a n;replace c:=zqo c n;obtain ⟨t,S⟩:=nm (tx ts s 0);have KT:=ztq c S;have K:=Aa S;clear S;go_wp2_with fail;rw [<-n,<-l];clear l n;refine mo KT.o fun w4 B=>?_;clear KT;replace a:=Aa (a.o.over B);replace b:=Aa (b.o.over B);replace c:=Aa (c.o.over B);clear B;have q1:(t.toList == [40])=false:=Br K.o fun e=>by rw [e] at h3;exact absurd h3 (by decide)
 have q2:(t.toList == [45])=false:=Br K.o h2;have C:¬ tl ts s 0=[]:=fun e=>by rw [e] at h3;exact absurd h3 (by decide)
 have q3:(t.toList == [])=false:=Br K.o C;have h0:0 < t.size:=by
  have e:t.data.toList.length=t.size:=rfl;have e2:t.data.toList≠[]:=by rw [K.o];exact C
  have:=List.length_pos_iff.2 e2;omega
 have H:isD t[0]=true:=by rw [<-DI t h0,K.o];exact h3
 clear C h2 h3;have KD:Hx (∀ X,Calls Tryz.prog 101 #[O .u8 (t[0].toNat:Int)] X fun e Q=>e=zi (ze true)/\X=Q):=fun X=>by
  have:=Bi t[0] X;rw [H] at this;exact this.mono fun e Q h=>⟨h.1,h.2.symm⟩
 clear H;go_wp2_with fail;refine (KD.o _).mono ?_;rintro e Q ⟨rfl,rfl⟩;clear KD;obtain ⟨px,E⟩:=nm (EK ts s);obtain ⟨x,s1⟩:=px;have P:=Aa (G7 hall s _ c.o.st);rw [<-E] at P A;dsimp only at P A;have al:=Aa E;clear E;have J:=Ad.all b.o.row;have I:=b.o.fz;go_wp2_with fail;clear I J;refine mo P.o fun w5 N=>?_;clear P;replace a:=zcq a N c L;replace b:=zcq b N c M;replace c:=zrq c N;clear N;have J:=Ad.all b.o.row;have I:=b.o.fz;have aj:=Ad.all a.o.row;have ah:=a.o.fz;have aa:U≠V:=by have:=i.o;omega
 have ab:V≠U:=by have:=i.o;omega
 obtain ⟨V6,G⟩:=nm (w5.setCell ⟨V,2,none⟩ (O zc x));have g:=gsv G;replace b:=zs2 b G;replace a:=zkl a g i;replace c:=Aa (c.o.box g M.o);clear g;obtain ⟨V7,u⟩:=nm (setz U V6 [(0,O zc 1),(1,O zc p),(2,O zc x),(3,.string ⟨#[]⟩),(4,zd none 0 0)]);have g:=Ap u;replace a:=zzs a u rfl;dsimp only [BA,List.set] at a;simp only [setz] at u;replace b:=zkg b g i;replace c:=Aa (c.o.box g L.o);clear g;go_wp2_with fail;refine bodyPost_ret (v:=zf #[O zc 1,O zc p,O zc x,.string ⟨#[]⟩,zd none 0 0]) (by simp [results,Tryz.results60,go_sem, *]) rfl ?_;rw [<-G,<-u];rw [A.o];refine ⟨_,_,_,_,_,_,_,rfl,fun W hW=>?_,c.o.gr,c.o.st,by rw [<-Y.o];exact c.o.le⟩;exact ⟨1,p,x,⟨#[]⟩,_,[],rfl,rfl,LS.nil⟩
theorem IC (hall:ts.all Ai=true) (s:Sg) (x:Int) (s':Sg) (h:(x,s')=EK ts s):-9223372036854775807<=x/\x<=9223372036854775807:=by
 unfold EK at h;split at h
 ·rename_i a
  injection h with c b;have:=(Im hall s a).2.2.1;omega
 ·injection h with c b
  omega
theorem Rg (hall:ts.all Ai=true) (f deep:Nat) (s:Sg) (w:World) (h:Sd rb tv ts en s w) (h2:tl ts s 0=[45]):Calls Tryz.prog 60 #[zh (some ⟨rb,0,none⟩),O zc (deep:Int)] w (Dl rb tv ts en (f+1) w s (Ba ts en (f+1) deep s)):=by
 obtain ⟨ad,E⟩:=nm (Ba ts en (f+1) deep s);rw [<-E];have j:Hx (ad=(fun s1:Sg=>(fun p:Int × Sg=>(eD 1 (Al ts en s.1) (-p.1) noS [],p.2)) (EK ts (if tl ts s1 0=[48] then CM s1 else s1))) (Ak ts [45] s)):=by show _=_;rw [E,Ba];rw [if_neg (fun e=>by rw [e.1] at h2;exact absurd h2 (by decide)),if_pos h2]
 obtain ⟨m0,P⟩:=nm s.1;have c:=qst P h;have Y:=Aa P;clear E P h;obtain ⟨V1,L⟩:=nm (w.alloc (zg #[O zc 0,O zc 0,O zc 0,.string ⟨#[]⟩,zd none 0 0] 49));obtain ⟨T,K⟩:=nm w.heap.size;have B:=zsq c K;have a:=A1 K L;replace c:=zqo c L;go_enter Tryz.func60,Tryz.ntmps60;obtain ⟨p,hp⟩:=nm (Al ts en (s).1);have KH:=zhq c hp;go_wp2_with fail;rw [<-L,<-K];clear K L;refine mo KH.o fun w2 A=>?_;clear KH;replace a:=Aa (a.o.over A);replace c:=Aa (c.o.over A);clear A;rw [<-hp] at j;clear hp;obtain ⟨V3,G⟩:=nm (w2.alloc (zg #[O zc 1,O zc p,O zc 0,.string ⟨#[]⟩,zd none 0 0] 49));obtain ⟨U,F⟩:=nm w2.heap.size;have C:=zsq c F;have i:=zlb a F;have b:=A1 F G;replace a:=zbv a G;replace c:=zqo c G;obtain ⟨t,ht⟩:=nm (tx ts s 0);have KT:=ztq c ht;have Ht:=Aa ht;clear ht;go_wp2_with fail;rw [<-G,<-F];clear F G;refine mo KT.o fun w4 A=>?_;clear KT;replace a:=Aa (a.o.over A);replace b:=Aa (b.o.over A);replace c:=Aa (c.o.over A);clear A;have q1:(t.toList == [40])=false:=Br Ht.o (by rw [h2];simp);have q2:(t.toList == [45])=true:=DN Ht.o h2;clear h2;obtain ⟨s1,ap,KN⟩:=ned ⟨#[45]⟩ [45] rfl (by decide) c;rw [<-ap.o] at j;go_wp2_with fail;refine mo KN.o fun w5 l=>?_;clear KN;replace a:=zcq a l c B;replace b:=zcq b l c C;replace c:=zrq c l;clear l q1 q2;obtain ⟨u,hu⟩:=nm (tx ts s1 0);have KT:=ztq c hu;have Hu:=Aa hu;clear hu;go_wp2_with fail;refine mo KT.o fun w6 A=>?_;clear KT;replace a:=Aa (a.o.over A);replace b:=Aa (b.o.over A);replace c:=Aa (c.o.over A);clear A;by_cases hz:tl ts s1 0=[48]
 ·have q4:(u.toList == [48])=true:=DN Hu.o hz
  rw [if_pos hz] at j;clear hz;have I:=Ad.all b.o.row;have H:=b.o.fz;obtain ⟨ag,af,rc2,ae,ac,ab⟩:=c.o.st.cells;have J:=c.o.st.fail;obtain ⟨V7,R⟩:=nm (w6.setCell ⟨rb,3,none⟩ (ze true));rw [<-R] at J;have l:Qo rb tv ts en w6 s1 (CM s1) V7:=⟨J.2,J.1,Nat.le_refl _⟩;clear J;obtain ⟨s2,N⟩:=nm (CM s1);rw [<-N] at l;have ao:=Aa N;clear N;replace a:=zcq a l c B;replace b:=zcq b l c C;replace c:=zrq c l;clear l;rw [<-ao.o] at j;obtain ⟨px,r⟩:=nm (EK ts s2);obtain ⟨x,Z⟩:=px;have M:=Aa (G7 hall s2 _ c.o.st);rw [<-r] at M j;dsimp only at M j;have S:=Aa r;clear r;go_wp2_with fail;rw [<-R];clear ab ac ae rc2 af ag H I R;refine mo M.o fun w8 l=>?_;clear M;replace a:=zcq a l c B;replace b:=zcq b l c C;replace c:=zrq c l;clear l;have ai:-9223372036854775807<=x/\x<=9223372036854775807:=IC hall s2 x Z S.o;have I:=Ad.all b.o.row;have H:=b.o.fz;have an:=Ad.all a.o.row;have am:=a.o.fz;have V:T≠U:=by have:=i.o;omega
  have X:U≠T:=by have:=i.o;omega
  obtain ⟨V9,n⟩:=nm (w8.setCell ⟨U,2,none⟩ (O zc (-x)));have g:=gsv n;replace b:=zs2 b n;replace a:=zkl a g i;replace c:=Aa (c.o.box g C.o);clear g;obtain ⟨a5,y⟩:=nm (setz T V9 [(0,O zc 1),(1,O zc p),(2,O zc (-x)),(3,.string ⟨#[]⟩),(4,zd none 0 0)]);have g:=Ap y;replace a:=zzs a y rfl;dsimp only [BA,List.set] at a;simp only [setz] at y;replace b:=zkg b g i;replace c:=Aa (c.o.box g B.o);clear g;go_wp2_with fail;refine bodyPost_ret (v:=zf #[O zc 1,O zc p,O zc (-x),.string ⟨#[]⟩,zd none 0 0]) (by simp [results,Tryz.results60,go_sem, *]) rfl ?_;rw [<-n,<-y];rw [j.o];refine ⟨_,_,_,_,_,_,_,rfl,fun W hW=>?_,c.o.gr,c.o.st,by rw [<-Y.o];exact c.o.le⟩;exact ⟨1,p,-x,⟨#[]⟩,_,[],rfl,rfl,LS.nil⟩
 ·have q4:(u.toList == [48])=false:=Br Hu.o hz
  rw [if_neg hz] at j;clear hz;obtain ⟨px,r⟩:=nm (EK ts s1);obtain ⟨x,Z⟩:=px;have M:=Aa (G7 hall s1 _ c.o.st);rw [<-r] at M j;dsimp only at M j;have S:=Aa r;clear r;have I:=Ad.all b.o.row;have H:=b.o.fz;go_wp2_with fail;clear H I;refine mo M.o fun w7 l=>?_;clear M;replace a:=zcq a l c B;replace b:=zcq b l c C;replace c:=zrq c l;clear l;have ai:-9223372036854775807<=x/\x<=9223372036854775807:=IC hall s1 x Z S.o;have I:=Ad.all b.o.row;have H:=b.o.fz;have an:=Ad.all a.o.row;have am:=a.o.fz;have V:T≠U:=by have:=i.o;omega
  have X:U≠T:=by have:=i.o;omega
  obtain ⟨V8,Q⟩:=nm (w7.setCell ⟨U,2,none⟩ (O zc (-x)));have g:=gsv Q;replace b:=zs2 b Q;replace a:=zkl a g i;replace c:=Aa (c.o.box g C.o);clear g;obtain ⟨V9,n⟩:=nm (setz T V8 [(0,O zc 1),(1,O zc p),(2,O zc (-x)),(3,.string ⟨#[]⟩),(4,zd none 0 0)]);have g:=Ap n;replace a:=zzs a n rfl;dsimp only [BA,List.set] at a;simp only [setz] at n;replace b:=zkg b g i;replace c:=Aa (c.o.box g B.o);clear g;go_wp2_with fail;refine bodyPost_ret (v:=zf #[O zc 1,O zc p,O zc (-x),.string ⟨#[]⟩,zd none 0 0]) (by simp [results,Tryz.results60,go_sem, *]) rfl ?_;rw [<-Q,<-n];rw [j.o];refine ⟨_,_,_,_,_,_,_,rfl,fun W hW=>?_,c.o.gr,c.o.st,by rw [<-Y.o];exact c.o.le⟩;exact ⟨1,p,-x,⟨#[]⟩,_,[],rfl,rfl,LS.nil⟩
end
section
variable {rb:Nat} {tv:Value} {ts:List Tok} {en:Nat}
theorem Rh (hall:ts.all Ai=true) (f deep:Nat) (s:Sg) (w:World) (h:Sd rb tv ts en s w) (h1:tl ts s 0=[40]/\deep < 60) (ih:QG rb tv ts en f (deep+1)):Calls Tryz.prog 60 #[zh (some ⟨rb,0,none⟩),O zc (deep:Int)] w (Dl rb tv ts en (f+1) w s (Ba ts en (f+1) deep s)):=by
 obtain ⟨ev,cf⟩:=nm (Ba ts en (f+1) deep s);rw [<-cf];have P:Hx (ev=(fun p1:D × Sg=>(fun p2:D × Sg=>(eD (A0 (tl ts p1.2 0)) (Al ts en s.1) 0 noS [p1.1,p2.1],Ak ts [41] p2.2)) (Ba ts en f (deep+1) (if A0 (tl ts p1.2 0)=0 then CM p1.2 else Ak ts (tl ts p1.2 0) p1.2))) (Ba ts en f (deep+1) (Ak ts [40] s))):=by show _=_;rw [cf,Ba];rw [if_pos h1]
 obtain ⟨m0,cw⟩:=nm s.1;have g:=qst cw h;have es:=Aa cw;clear cf cw h;obtain ⟨V1,cr⟩:=nm (w.alloc (zg #[O zc 0,O zc 0,O zc 0,.string ⟨#[]⟩,zd none 0 0] 49));obtain ⟨C,bp⟩:=nm w.heap.size;have av:=zsq g bp;have c:=A1 bp cr;replace g:=zqo g cr;go_enter Tryz.func60,Tryz.ntmps60;obtain ⟨p,hp⟩:=nm (Al ts en (s).1);have KH:=zhq g hp;go_wp2_with fail;rw [<-cr,<-bp];clear bp cr;refine mo KH.o fun w2 H=>?_;clear KH;replace c:=Aa (c.o.over H);replace g:=Aa (g.o.over H);clear H;rw [<-hp] at P;clear hp;obtain ⟨V3,ch⟩:=nm (w2.alloc (zg #[O zc 1,O zc p,O zc 0,.string ⟨#[]⟩,zd none 0 0] 49));obtain ⟨N,bf⟩:=nm w2.heap.size;have ac:=zsq g bf;have F:=zlb c bf;have a:=A1 bf ch;replace c:=zbv c ch;replace g:=zqo g ch;obtain ⟨t,ht⟩:=nm (tx ts s 0);have KT:=ztq g ht;have Ht:=Aa ht;clear ht;go_wp2_with fail;rw [<-ch,<-bf];clear bf ch;refine mo KT.o fun w4 H=>?_;clear KT;replace c:=Aa (c.o.over H);replace a:=Aa (a.o.over H);replace g:=Aa (g.o.over H);clear H;have q1:(t.toList == [40])=true:=DN Ht.o h1.1;have e6:(deep:Int) < 60:=by have:=h1.2;omega
 have f1:(deep:Int)+1<=60:=by omega
 have dd:Hx (∀ (s:Sg) (w:World),Sd rb tv ts en s w->Calls Tryz.prog 60 #[zh (some ⟨rb,0,none⟩),O zc ((deep:Int)+1)] w (Dl rb tv ts en f w s (Ba ts en f (deep+1) s))):=fun s w h=>ih s w h;clear h1 ih;obtain ⟨s1,fd,KN⟩:=ned ⟨#[40]⟩ [40] rfl (by decide) g;rw [<-fd.o] at P;go_wp2_with fail;refine mo KN.o fun w5 u=>?_;clear KN;replace c:=zcq c u g av;replace a:=zcq a u g ac;replace g:=zrq g u;clear u q1 e6;obtain ⟨ez,cg⟩:=nm (Ba ts en f (deep+1) s1);obtain ⟨da,s2⟩:=ez;have KE:=Aa (dd.o s1 _ g.o.st);rw [<-cg] at KE P;dsimp only at P;have fs:=Aa cg;clear cg;go_wp2_with fail;obtain ⟨za,ce⟩:=nm w5.heap.size;have aa:=zsq g ce;have cm:=zlb c ce;have ay:=zlb a ce;refine KE.o.mono ?_;rintro e w6 ⟨a0,a1,a2,a3,a4,a5,a6,rfl,E,u⟩;dsimp only at E u;rw [<-ce] at E;have b:=Aa E;clear KE E ce;replace c:=zcq c u g av;replace a:=zcq a u g ac;replace g:=zrq g u;clear u;obtain ⟨V7,bs⟩:=nm (w6.alloc (zg #[O zc a0,O zc a1,O zc a2,.string a3,zd a4 a5 a6] 49));obtain ⟨U,ax⟩:=nm w6.heap.size;have b7:=zsq g ax;have S:=zlb c ax;have I:=zlb a ax;have l:=A1 ax bs;replace c:=zbv c bs;replace a:=zbv a bs;replace g:=zqo g bs;replace b:=zoo b bs
 go_upto_region 8 with fail
 rw [<-bs,<-ax];clear ax bs;have az:C≠N:=by have:=F.o;omega
 have a8:N≠C:=by have:=F.o;omega
 have a7:C≠U:=by have:=S.o;omega
 have bc:U≠C:=by have:=S.o;omega
 have a9:N≠U:=by have:=I.o;omega
 have bd:U≠N:=by have:=I.o;omega
 have ar:=rc5 a.o.row;obtain ⟨aq,ap,ao,an,am⟩:=fz5 a.o.fz;obtain ⟨V8,cq⟩:=nm (V7.setCell ⟨N,0,none⟩ (O zc 0));have n:=gsv cq;replace a:=zs0 a cq;replace c:=zkl c n F;replace l:=zkg l n I;replace g:=Aa (g.o.box n ac.o);replace b:=Aa (b.o.keep n ay.o);clear n
 go_upto_region 9 with fail
 rw [<-cq];clear am an ao ap aq ar bd a9 bc a7 a8 az cq;obtain ⟨V9,bg⟩:=nm (V8.alloc (zg #[.string ⟨#[43]⟩,.string ⟨#[45]⟩,.string ⟨#[42]⟩,.string ⟨#[60]⟩,.string ⟨#[61,61]⟩] 9));obtain ⟨Z,al⟩:=nm V8.heap.size;have bz:=zsq g al;have ab:=zlb c al;have Y:=zlb a al;have aw:=zlb l al;have r:=A1 al bg;replace c:=zbv c bg;replace a:=zbv a bg;replace l:=zbv l bg;replace g:=zqo g bg;replace b:=zoo b bg
 skip
 go_wp2_with fail;rw [<-bg,<-al];clear al bg;go_loopw [9] (fun i wr=>∃ (j:Nat) (kk:Int),j<=5/\i=O zc (j:Int)/\kk=opU j (tl ts s2 0)/\Rq rb tv ts en w m0 (s2) wr/\Bx C [O zc 0,O zc 0,O zc 0,.string ⟨#[]⟩,zd none 0 0] wr/\Bx N [O zc kk,O zc p,O zc 0,.string ⟨#[]⟩,zd none 0 0] wr/\Bx U [O zc a0,O zc a1,O zc a2,.string a3,zd a4 a5 a6] wr/\Bx Z [.string ⟨#[43]⟩,.string ⟨#[45]⟩,.string ⟨#[42]⟩,.string ⟨#[60]⟩,.string ⟨#[61,61]⟩] wr/\Off za none wr (fun W=>XE W f [O zc a0,O zc a1,O zc a2,.string a3,zd a4 a5 a6] da)) (fun i _=>5 - (intOf i).toNat)
 case atStart=>exact ⟨0,0,Nat.zero_le _,rfl,(RY _).symm,g.o,c.o,a.o,l.o,r.o,b.o⟩
 case round=>
  obtain ⟨j,kk,hj,rfl,d7,hd,bp,bf,ax,al,d5⟩:=hrel;replace g:=Aa hd;replace c:=Aa bp;replace a:=Aa bf;replace l:=Aa ax;replace r:=Aa al;replace b:=Aa d5;have dc:=Aa d7;clear hd bp bf ax al d5 d7;by_cases hjl:j < 5
  ·have e5:(j:Int) < 5:=by omega
   obtain ⟨y,hy,d4,d3⟩:=QW (tl ts s2 0) j hjl;have dl:wr.cell? ⟨Z,j,none⟩=some (.string y):=r.o.row j _ hy;have HY:=Aa (And.intro d4 d3);obtain ⟨t2,bo⟩:=nm (tx ts s2 0);have KT:Hx (∀ X,Ov wr X->Ro 57 #[zh (some ⟨rb,0,none⟩),O zc 0] X (.string t2)):=fun X hX=>by rw [bo];exact Fo 0 (by omega) s2 X (g.o.st.below hX)
   have ct:=Aa bo;clear hy d4 d3 bo;by_cases u:t2.data.toList=y.data.toList
   ·have e3:(t2.toList == y.toList)=true:=by rw [teq];simpa using u
    have HN:Hx (3+(j:Int)=opU (j+1) (tl ts s2 0)):=by show _=_;exact (HY.o.1 (by unfold tl;rw [<-ct.o];exact u)).symm
    clear u;go_wp2_with fail;refine gS (fun Wz=>Below wr.heap.size wr Wz) (Below.refl _ _).drew fun A=>?_;generalize wr.drew=W at A ⊢;refine kO 0 ?_;refine kO 2 ?_;refine kO 3 ?_;refine kO 4 ?_;refine kO 5 ?_;refine rdA 1 rfl fun K hK=>?_;go_simp;refine mo (KT.o _ A) fun W8 H=>?_;have bv:=Aa (Ab A H);clear H A KT;go_simp;refine xK hK (bv.o) fun A=>?_;clear hK K;refine kO 6 ?_;refine gE ?_
    skip
    have H:=bv.o;clear bv A dl;replace c:=Aa (c.o.over H);replace a:=Aa (a.o.over H);replace l:=Aa (l.o.over H);replace r:=Aa (r.o.over H);replace b:=Aa (b.o.over H);replace g:=Aa (g.o.over H);clear H;have ar:=rc5 a.o.row;obtain ⟨aq,ap,ao,an,am⟩:=fz5 a.o.fz;obtain ⟨c3,af⟩:=nm (W8.setCell ⟨N,0,none⟩ (O zc (3+(j:Int))));have n:=gsv af;replace a:=zs0 a af;replace c:=zkl c n F;replace l:=zkg l n I;replace r:=zkg r n Y;replace g:=Aa (g.o.box n ac.o);replace b:=Aa (b.o.keep n ay.o);clear n;go_wp2_with fail;rw [<-af];exact ⟨⟨j+1,_,by omega,by go_num,HN.o,g.o,c.o,a.o,l.o,r.o,b.o⟩,by simp [intOf];omega⟩
   ·have e3:(t2.toList == y.toList)=false:=by rw [teq];simpa using u
    have HN:Hx (kk=opU (j+1) (tl ts s2 0)):=by show _=_;rw [dc.o];exact (HY.o.2 (by unfold tl;rw [<-ct.o];exact u)).symm
    clear u;go_wp2_with fail;refine gS (fun Wz=>Below wr.heap.size wr Wz) (Below.refl _ _).drew fun A=>?_;generalize wr.drew=W at A ⊢;refine kO 0 ?_;refine kO 2 ?_;refine kO 3 ?_;refine kO 4 ?_;refine kO 5 ?_;refine rdA 1 rfl fun K hK=>?_;go_simp;refine mo (KT.o _ A) fun W8 H=>?_;have bv:=Aa (Ab A H);clear H A KT;go_simp;refine xK hK (bv.o) fun A=>?_;clear hK K;refine kO 6 ?_;refine gE ?_
    skip
    have H:=bv.o;clear bv A dl;replace c:=Aa (c.o.over H);replace a:=Aa (a.o.over H);replace l:=Aa (l.o.over H);replace r:=Aa (r.o.over H);replace b:=Aa (b.o.over H);replace g:=Aa (g.o.over H);clear H;go_wp2_with fail;exact ⟨⟨j+1,_,by omega,by go_num,HN.o,g.o,c.o,a.o,l.o,r.o,b.o⟩,by simp [intOf];omega⟩
  ·have e5:¬ (j:Int) < 5:=by omega
   have d9:j=5:=by omega
   have cp:=dc.o;rw [d9,RX] at cp;rw [<-cp] at P;have fg:=Aa cp;clear d9 cp dc;by_cases hk0:kk=0
   ·subst hk0
    rw [if_pos rfl] at P;have az:C≠N:=by have:=F.o;omega
    have a8:N≠C:=by have:=F.o;omega
    have a7:C≠U:=by have:=S.o;omega
    have bc:U≠C:=by have:=S.o;omega
    have b8:C≠Z:=by have:=ab.o;omega
    have b9:Z≠C:=by have:=ab.o;omega
    have a9:N≠U:=by have:=I.o;omega
    have bd:U≠N:=by have:=I.o;omega
    have cc:N≠Z:=by have:=Y.o;omega
    have ca:Z≠N:=by have:=Y.o;omega
    have cd:U≠Z:=by have:=aw.o;omega
    have cb:Z≠U:=by have:=aw.o;omega
    have ar:=rc5 a.o.row;obtain ⟨aq,ap,ao,an,am⟩:=fz5 a.o.fz;obtain ⟨ey,ex,rc2,ew,eu,et⟩:=g.o.st.cells;have co:=g.o.st.fail;obtain ⟨c3,af⟩:=nm (wr.setCell ⟨rb,3,none⟩ (ze true));rw [<-af] at co;have u:Qo rb tv ts en wr s2 (CM s2) c3:=⟨co.2,co.1,Nat.le_refl _⟩;clear co;obtain ⟨s3,cv⟩:=nm (CM s2);rw [<-cv] at u;have c5:=Aa cv;clear cv;replace c:=zcq c u g av;replace a:=zcq a u g ac;replace l:=zcq l u g b7;replace r:=zcq r u g bz;replace b:=zdq b u g aa;replace g:=zrq g u;clear u;rw [<-c5.o] at P;obtain ⟨cu,ad⟩:=nm (Ba ts en f (deep+1) s3);obtain ⟨db,s4⟩:=cu;have KE:=Aa (dd.o s3 _ g.o.st);rw [<-ad] at KE P;dsimp only at P;have er:=Aa ad;clear ad;go_wp2_with fail;rw [<-af];clear et eu ew rc2 ex ey am an ao ap aq ar cb cd ca cc bd a9 b9 b8 bc a7 a8 az af;obtain ⟨zb,T⟩:=nm c3.heap.size;have bh:=zsq g T;have bt:=zlb c T;have bu:=zlb a T;have c7:=zlb l T;have c6:=zlb r T;refine KE.o.mono ?_;rintro e cn ⟨b0,b1,b2,b3,b4,b5,b6,rfl,E,u⟩;dsimp only at E u;rw [<-T] at E;have x:=Aa E;clear KE E T;replace c:=zcq c u g av;replace a:=zcq a u g ac;replace l:=zcq l u g b7;replace r:=zcq r u g bz;replace b:=zdq b u g aa;replace g:=zrq g u;clear u;obtain ⟨f5,R⟩:=nm (cn.alloc (zg #[O zc b0,O zc b1,O zc b2,.string b3,zd b4 b5 b6] 49));obtain ⟨bb,L⟩:=nm cn.heap.size;have c9:=zsq g L;have ah:=zlb c L;have aj:=zlb a L;have bn:=zlb l L;have bj:=zlb r L;have G:=A1 L R;replace c:=zbv c R;replace a:=zbv a R;replace l:=zbv l R;replace r:=zbv r R;replace g:=zqo g R;replace b:=zoo b R;replace x:=zoo x R;obtain ⟨s5,c4,KN⟩:=ned ⟨#[41]⟩ [41] rfl (by decide) g;rw [<-c4.o] at P;go_wp2_with fail;rw [<-R,<-L];clear L R;refine mo KN.o fun dg u=>?_;clear KN;replace c:=zcq c u g av;replace a:=zcq a u g ac;replace l:=zcq l u g b7;replace r:=zcq r u g bz;replace G:=zcq G u g c9;replace b:=zdq b u g aa;replace x:=zdq x u g bh;replace g:=zrq g u;clear u;have fa:=rc5 l.o.row;have e9:=rc5 G.o.row;obtain ⟨fc,M⟩:=nm (dg.alloc (zg #[O zc a0,O zc a1,O zc a2,.string a3,zd a4 a5 a6,O zc b0,O zc b1,O zc b2,.string b3,zd b4 b5 b6] 49));obtain ⟨V,J⟩:=nm dg.heap.size;have c8:=zsq g J;have ag:=zlb c J;have ai:=zlb a J;have bm:=zlb l J;have bi:=zlb r J;have bk:=zlb G J;have ak:=A1 J M;replace c:=zbv c M;replace a:=zbv a M;replace l:=zbv l M;replace r:=zbv r M;replace G:=zbv G M;replace g:=zqo g M;replace b:=zoo b M;replace x:=zoo x M;have az:C≠N:=by have:=F.o;omega
    have a8:N≠C:=by have:=F.o;omega
    have a7:C≠U:=by have:=S.o;omega
    have bc:U≠C:=by have:=S.o;omega
    have b8:C≠Z:=by have:=ab.o;omega
    have b9:Z≠C:=by have:=ab.o;omega
    have dk:C≠bb:=by have:=ah.o;omega
    have dw:bb≠C:=by have:=ah.o;omega
    have dj:C≠V:=by have:=ag.o;omega
    have dm:V≠C:=by have:=ag.o;omega
    have a9:N≠U:=by have:=I.o;omega
    have bd:U≠N:=by have:=I.o;omega
    have cc:N≠Z:=by have:=Y.o;omega
    have ca:Z≠N:=by have:=Y.o;omega
    have dv:N≠bb:=by have:=aj.o;omega
    have dz:bb≠N:=by have:=aj.o;omega
    have du:N≠V:=by have:=ai.o;omega
    have dp:V≠N:=by have:=ai.o;omega
    have cd:U≠Z:=by have:=aw.o;omega
    have cb:Z≠U:=by have:=aw.o;omega
    have d2:U≠bb:=by have:=bn.o;omega
    have d0:bb≠U:=by have:=bn.o;omega
    have d1:U≠V:=by have:=bm.o;omega
    have dr:V≠U:=by have:=bm.o;omega
    have dt:Z≠bb:=by have:=bj.o;omega
    have dy:bb≠Z:=by have:=bj.o;omega
    have ds:Z≠V:=by have:=bi.o;omega
    have dn:V≠Z:=by have:=bi.o;omega
    have dx:bb≠V:=by have:=bk.o;omega
    have dq:V≠bb:=by have:=bk.o;omega
    have ar:=rc5 a.o.row;obtain ⟨aq,ap,ao,an,am⟩:=fz5 a.o.fz;have c2:=rc5 c.o.row;obtain ⟨c1,c0,cz,cy,cx⟩:=fz5 c.o.fz;rw [M] at ar aq ap ao an am c2 c1 c0 cz cy cx;obtain ⟨cs,B⟩:=nm (fc.setCell ⟨N,4,none⟩ (zd (some ⟨V,0,none⟩) 2 2));have n:=gsv B;replace a:=zs4 a B;replace c:=zkl c n F;replace l:=zkg l n I;replace r:=zkg r n Y;replace G:=zkg G n aj;replace ak:=zkg ak n ai;replace g:=Aa (g.o.box n ac.o);replace b:=Aa (b.o.keep n ay.o);replace x:=Aa (x.o.keep n bu.o);clear n;obtain ⟨cj,ae⟩:=nm (((((cs.setCell ⟨C,0,none⟩ (O zc 0)).setCell ⟨C,1,none⟩ (O zc p)).setCell ⟨C,2,none⟩ (O zc 0)).setCell ⟨C,3,none⟩ (.string ⟨#[]⟩)).setCell ⟨C,4,none⟩ (zd (some ⟨V,0,none⟩) 2 2));have n:cs.grownBy cj (some C):=by rw [ae];exact (gst (gst (gst (gst (gst (BJ _ _))))))
    replace c:Hx (Bx C [O zc 0,O zc p,O zc 0,.string ⟨#[]⟩,zd (some ⟨V,0,none⟩) 2 2] cj):=by show Bx _ _ _;rw [ae];exact (((((c.o.se 0).se 1).se 2).se 3).se 4)
    replace a:=zkg a n F;replace l:=zkg l n S;replace r:=zkg r n ab;replace G:=zkg G n ah;replace ak:=zkg ak n ag;replace g:=Aa (g.o.box n av.o);replace b:=Aa (b.o.keep n cm.o);replace x:=Aa (x.o.keep n bt.o);clear n;go_wp2_with fail;refine bodyPost_ret (v:=zf #[O zc 0,O zc p,O zc 0,.string ⟨#[]⟩,zd (some ⟨V,0,none⟩) 2 2]) (by simp [results,Tryz.results60,go_sem, *]) rfl ?_;rw [<-M,<-J,<-B,<-ae];rw [P.o];refine ⟨_,_,_,_,_,_,_,rfl,fun W hW=>?_,g.o.gr,g.o.st,by rw [<-es.o];exact g.o.le⟩;have o1:=(b.o.base aa.o) W hW;have o2:=(x.o.base bh.o) W hW;exact ⟨0,p,0,⟨#[]⟩,_,[da,db],rfl,rfl,LS.two ((Off.bx ak.o c8.o) W hW) o1 o2⟩
   ·rw [if_neg hk0] at P
    have d6:tl ts s2 0≠[]:=D7 _ (by rw [<-fg.o];exact hk0);have d8:(kk == 0)=false:=by simpa using hk0
    have fe:=Aa d6;clear d6;obtain ⟨t2,bo⟩:=nm (tx ts s2 0);have KT:=ztq g bo;have ct:=Aa bo;clear bo;have ar:=rc5 a.o.row;obtain ⟨aq,ap,ao,an,am⟩:=fz5 a.o.fz;go_wp2_with fail;clear am an ao ap aq ar;refine mo KT.o fun fw H=>?_;clear KT;replace c:=Aa (c.o.over H);replace a:=Aa (a.o.over H);replace l:=Aa (l.o.over H);replace r:=Aa (r.o.over H);replace b:=Aa (b.o.over H);replace g:=Aa (g.o.over H);clear H;obtain ⟨s3,c5,KN⟩:=ned t2 (tl ts s2 0) (by unfold tl;rw [ct.o]) fe.o g;rw [<-c5.o] at P;go_wp2_with fail;refine mo KN.o fun cn u=>?_;clear KN;replace c:=zcq c u g av;replace a:=zcq a u g ac;replace l:=zcq l u g b7;replace r:=zcq r u g bz;replace b:=zdq b u g aa;replace g:=zrq g u;clear u d8;obtain ⟨cu,ad⟩:=nm (Ba ts en f (deep+1) s3);obtain ⟨db,s4⟩:=cu;have KE:=Aa (dd.o s3 _ g.o.st);rw [<-ad] at KE P;dsimp only at P;have er:=Aa ad;clear ad;go_wp2_with fail;obtain ⟨zb,T⟩:=nm cn.heap.size;have bh:=zsq g T;have bt:=zlb c T;have bu:=zlb a T;have c7:=zlb l T;have c6:=zlb r T;refine KE.o.mono ?_;rintro e dh ⟨b0,b1,b2,b3,b4,b5,b6,rfl,E,u⟩;dsimp only at E u;rw [<-T] at E;have x:=Aa E;clear KE E T;replace c:=zcq c u g av;replace a:=zcq a u g ac;replace l:=zcq l u g b7;replace r:=zcq r u g bz;replace b:=zdq b u g aa;replace g:=zrq g u;clear u;obtain ⟨f4,Q⟩:=nm (dh.alloc (zg #[O zc b0,O zc b1,O zc b2,.string b3,zd b4 b5 b6] 49));obtain ⟨bb,L⟩:=nm dh.heap.size;have c9:=zsq g L;have ah:=zlb c L;have aj:=zlb a L;have bn:=zlb l L;have bj:=zlb r L;have G:=A1 L Q;replace c:=zbv c Q;replace a:=zbv a Q;replace l:=zbv l Q;replace r:=zbv r Q;replace g:=zqo g Q;replace b:=zoo b Q;replace x:=zoo x Q;obtain ⟨s5,c4,KN⟩:=ned ⟨#[41]⟩ [41] rfl (by decide) g;rw [<-c4.o] at P;go_wp2_with fail;rw [<-Q,<-L];clear L Q;refine mo KN.o fun df u=>?_;clear KN;replace c:=zcq c u g av;replace a:=zcq a u g ac;replace l:=zcq l u g b7;replace r:=zcq r u g bz;replace G:=zcq G u g c9;replace b:=zdq b u g aa;replace x:=zdq x u g bh;replace g:=zrq g u;clear u;have fa:=rc5 l.o.row;have e9:=rc5 G.o.row;obtain ⟨cs,B⟩:=nm (df.alloc (zg #[O zc a0,O zc a1,O zc a2,.string a3,zd a4 a5 a6,O zc b0,O zc b1,O zc b2,.string b3,zd b4 b5 b6] 49));obtain ⟨V,J⟩:=nm df.heap.size;have c8:=zsq g J;have ag:=zlb c J;have ai:=zlb a J;have bm:=zlb l J;have bi:=zlb r J;have bk:=zlb G J;have ak:=A1 J B;replace c:=zbv c B;replace a:=zbv a B;replace l:=zbv l B;replace r:=zbv r B;replace G:=zbv G B;replace g:=zqo g B;replace b:=zoo b B;replace x:=zoo x B;have az:C≠N:=by have:=F.o;omega
    have a8:N≠C:=by have:=F.o;omega
    have a7:C≠U:=by have:=S.o;omega
    have bc:U≠C:=by have:=S.o;omega
    have b8:C≠Z:=by have:=ab.o;omega
    have b9:Z≠C:=by have:=ab.o;omega
    have dk:C≠bb:=by have:=ah.o;omega
    have dw:bb≠C:=by have:=ah.o;omega
    have dj:C≠V:=by have:=ag.o;omega
    have dm:V≠C:=by have:=ag.o;omega
    have a9:N≠U:=by have:=I.o;omega
    have bd:U≠N:=by have:=I.o;omega
    have cc:N≠Z:=by have:=Y.o;omega
    have ca:Z≠N:=by have:=Y.o;omega
    have dv:N≠bb:=by have:=aj.o;omega
    have dz:bb≠N:=by have:=aj.o;omega
    have du:N≠V:=by have:=ai.o;omega
    have dp:V≠N:=by have:=ai.o;omega
    have cd:U≠Z:=by have:=aw.o;omega
    have cb:Z≠U:=by have:=aw.o;omega
    have d2:U≠bb:=by have:=bn.o;omega
    have d0:bb≠U:=by have:=bn.o;omega
    have d1:U≠V:=by have:=bm.o;omega
    have dr:V≠U:=by have:=bm.o;omega
    have dt:Z≠bb:=by have:=bj.o;omega
    have dy:bb≠Z:=by have:=bj.o;omega
    have ds:Z≠V:=by have:=bi.o;omega
    have dn:V≠Z:=by have:=bi.o;omega
    have dx:bb≠V:=by have:=bk.o;omega
    have dq:V≠bb:=by have:=bk.o;omega
    have ar:=rc5 a.o.row;obtain ⟨aq,ap,ao,an,am⟩:=fz5 a.o.fz;have c2:=rc5 c.o.row;obtain ⟨c1,c0,cz,cy,cx⟩:=fz5 c.o.fz;rw [B] at ar aq ap ao an am c2 c1 c0 cz cy cx;obtain ⟨cj,ae⟩:=nm (cs.setCell ⟨N,4,none⟩ (zd (some ⟨V,0,none⟩) 2 2));have n:=gsv ae;replace a:=zs4 a ae;replace c:=zkl c n F;replace l:=zkg l n I;replace r:=zkg r n Y;replace G:=zkg G n aj;replace ak:=zkg ak n ai;replace g:=Aa (g.o.box n ac.o);replace b:=Aa (b.o.keep n ay.o);replace x:=Aa (x.o.keep n bu.o);clear n;obtain ⟨eq,ci⟩:=nm (((((cj.setCell ⟨C,0,none⟩ (O zc kk)).setCell ⟨C,1,none⟩ (O zc p)).setCell ⟨C,2,none⟩ (O zc 0)).setCell ⟨C,3,none⟩ (.string ⟨#[]⟩)).setCell ⟨C,4,none⟩ (zd (some ⟨V,0,none⟩) 2 2));have n:cj.grownBy eq (some C):=by rw [ci];exact (gst (gst (gst (gst (gst (BJ _ _))))))
    replace c:Hx (Bx C [O zc kk,O zc p,O zc 0,.string ⟨#[]⟩,zd (some ⟨V,0,none⟩) 2 2] eq):=by show Bx _ _ _;rw [ci];exact (((((c.o.se 0).se 1).se 2).se 3).se 4)
    replace a:=zkg a n F;replace l:=zkg l n S;replace r:=zkg r n ab;replace G:=zkg G n ah;replace ak:=zkg ak n ag;replace g:=Aa (g.o.box n av.o);replace b:=Aa (b.o.keep n cm.o);replace x:=Aa (x.o.keep n bt.o);clear n;go_wp2_with fail;refine bodyPost_ret (v:=zf #[O zc kk,O zc p,O zc 0,.string ⟨#[]⟩,zd (some ⟨V,0,none⟩) 2 2]) (by simp [results,Tryz.results60,go_sem, *]) rfl ?_;rw [<-B,<-J,<-ae,<-ci];rw [P.o];refine ⟨_,_,_,_,_,_,_,rfl,fun W hW=>?_,g.o.gr,g.o.st,by rw [<-es.o];exact g.o.le⟩;have o1:=(b.o.base aa.o) W hW;have o2:=(x.o.base bh.o) W hW;exact ⟨kk,p,0,⟨#[]⟩,_,[da,db],rfl,rfl,LS.two ((Off.bx ak.o c8.o) W hW) o1 o2⟩
theorem D0 (hall:ts.all Ai=true):∀ (f deep:Nat),f+deep=61->deep<=60->QG rb tv ts en f deep
 | 0,deep,h1,h2=>absurd h1 (by omega)
 | f+1,deep,h1,h2=>fun s w h=>by
  by_cases h3:tl ts s 0=[40]/\deep < 60
  ·exact Rh hall f deep s w h h3 (D0 hall f (deep+1) (by omega) (by omega))
  by_cases h4:tl ts s 0=[45]
  ·exact Rg hall f deep s w h h4
  by_cases h5:C6 (tl ts s 0)=true
  ·exact Rf hall f deep s w h h4 h5
  by_cases h6:tl ts s 0=[40]
  ·exact Qe hall f deep s w h h3 h4 h5 h6
  by_cases h7:tl ts s 0=[]
  ·exact Qd hall f deep s w h h3 h4 h5 h7
  ·exact Qc hall f deep s w h h3 h4 h5 h6 h7
end
end Go.Proofs.YtipngnjffjajpaaGreatDoor.Tx
