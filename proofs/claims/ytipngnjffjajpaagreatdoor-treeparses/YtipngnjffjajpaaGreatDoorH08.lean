/- Package tree's reader: a policy, whatever stands there. -/
import Derived.Test.YtipngnjffjajpaaGreatDoorH07
import Derived.ArgAppend
set_option linter.unusedVariables false
set_option maxHeartbeats 8000000
set_option maxRecDepth 100000
namespace Go.Proofs.YtipngnjffjajpaaGreatDoor.Tx
open Go.RowKit
open Go.Value renaming int -> M, slice -> U, bool -> zc, pointer -> zd, agg -> zf, tuple -> zh
open Go.IntKind renaming i64 -> O
open Go.Obj renaming cells -> ze
open Go.Ending renaming returned -> zg
theorem Lq {rb:Nat} {tv:Value} {ts:List Tok} {en:Nat} (n:Nat) (w:World) (h:St rb tv ts en n w) :
  Calls Tryz.prog 136 #[zd (some ⟨rb,0,none⟩)] w (Ao ts en (Bm ts en n) (fun d n1 e w'=>∃ (at_:Int) (o:ByteArray) (wr:Bool) (a:Option Addr) (k c:Nat),e=zg (zf #[M O at_,.string o,zc wr,U a k c])/\Off w.heap.size none w' (fun W=>F2 W [M O at_,.string o,zc wr,U a k c] d)/\w.grownBy w' (some rb)/\St rb tv ts en n1 w') (fun w'=>w.grownBy w' (some rb))):=by
 obtain ⟨ae,ag⟩:=nm (Bm ts en n);rw [<-ag];have x:Hx (ae=Aw (AD ts n) fun o n1=>
   if isT ts n1 [33]=true then Aw (Bi ts (AU (Ah ts (n1+1))) (n1+1)) fun Y n2=>.inl (Dp (Ar ts en n) o true Y,n2)
   else Aw (Av ts [58] n1) fun _ n2=>Aw (Bi ts (AU (Ah ts n2)) n2) fun Y N=>.inl (Dp (Ar ts en n) o false Y,N)):=ag
 have g:=Aa (Rd.start h);clear h ag;obtain ⟨V1,ay⟩:=nm (w.alloc (ze #[M O 0,.string ⟨#[]⟩,zc false,U none 0 0] 53));obtain ⟨E,ax⟩:=nm w.heap.size;have C:Hx (w.heap.size<=E):=by show _<=_;rw [ax];exact g.o.size
 have b:Hx (Bx E [M O 0,.string ⟨#[]⟩,zc false,U none 0 0] V1):=by show Bx _ _ _;rw [ay,ax];exact Bx.new w [M O 0,.string ⟨#[]⟩,zc false,U none 0 0] 53
 replace g:Hx (Rd rb tv ts en w (n) V1):=by show Rd _ _ _ _ _ _ _;rw [ay];exact g.o.over (bA _ _)
 have K1:=Aa (Cl n _ g.o.st);go_enter Tryz.func136,Tryz.ntmps136;go_wp2_with fail;rw [<-ay,<-ax];clear ax ay;refine K1.o.mono ?_;rintro e wa ⟨rfl,u,F⟩;obtain ⟨p,hp⟩:=nm (Ar ts en n);rw [<-hp] at x ⊢;clear hp;replace b:=bkp b g.o.rlt C u;replace g:Hx (Rd rb tv ts en w (n) wa):=g.o.call u F;clear u F;have K2:=Aa (Ck n _ g.o.st);clear K1;go_wp2_with fail;refine K2.o.mono ?_;rintro e w2 i;obtain ⟨m,J⟩ | ⟨o,N,J⟩:=Ak (AD ts n)
 ·replace i:Ao ts en (AD ts n) _ _ e w2:=i
  rw [J] at i;obtain ⟨rfl,u⟩:=i;have HO:Hx (ae=.inr m):=by show _=_;rw [x.o,J];rfl
  have HG:=Aa (Ac g.o.gr u);clear u J;unfold Ai;go_wp2_with fail;refine ⟨rfl,?_⟩;rw [HO.o];exact ⟨rfl,HG.o⟩
 replace i:Ao ts en (AD ts n) _ _ e w2:=i;rw [J] at i;obtain ⟨rfl,u,F⟩:=i;have hr:=x.o;rw [J,Am] at hr;replace x:=Aa hr;clear hr J;replace b:=bkp b g.o.rlt C u;replace g:Hx (Rd rb tv ts en w (N) w2):=g.o.call u F;clear u F;obtain ⟨V4,ak⟩:=nm (w2.alloc (ze #[M O p,.string o,zc false,U none 0 0] 53));obtain ⟨K,ah⟩:=nm w2.heap.size;have V:Hx (w.heap.size<=K):=by show _<=_;rw [ah];exact g.o.size
 have r:Hx (E < K):=by show _ < _;rw [ah];exact b.o.lt
 have f:Hx (Bx K [M O p,.string o,zc false,U none 0 0] V4):=by show Bx _ _ _;rw [ak,ah];exact Bx.new w2 [M O p,.string o,zc false,U none 0 0] 53
 replace b:Hx (Bx E [M O 0,.string ⟨#[]⟩,zc false,U none 0 0] V4):=by show Bx _ _ _;rw [ak];exact b.o.over (bA _ _)
 replace g:Hx (Rd rb tv ts en w (N) V4):=by show Rd _ _ _ _ _ _ _;rw [ak];exact g.o.over (bA _ _)
 have K3:=Aa (Fs ⟨#[33]⟩ (by decide) N _ g.o.st);clear K2;go_wp2_with fail;rw [<-ak,<-ah];clear ah ak;refine K3.o.mono ?_;rintro e wb ⟨rfl,u,F⟩;replace F:St rb tv ts en (if isT ts N [33]=true then N+1 else N) wb:=F;show _
 cases hq:isT ts N [33] with
 | false=>
  rw [hq] at F;have hr:=x.o;rw [if_neg (by rw [hq];simp)] at hr;replace x:=Aa hr;clear hr;replace F:St rb tv ts en (N) wb:=F;try rw [show isT ts N (ByteArray.mk #[33]).data.toList=false from hq]
  clear hq;replace b:=bkp b g.o.rlt C u;replace f:=bkp f g.o.rlt V u;replace g:Hx (Rd rb tv ts en w (N) wb):=g.o.call u F;clear u F;have aa:E≠K:=by have:=r.o;omega
  have Z:K≠E:=by have:=r.o;omega
  obtain ⟨au,ar,aq,ap⟩:=rc4 f.o.row;obtain ⟨ao,an,am,al⟩:=fz4 f.o.fz;obtain ⟨V5,R⟩:=nm (wb.setCell ⟨K,2,none⟩ (zc false));replace f:Hx (Bx K [M O p,.string o,zc false,U none 0 0] V5):=by show Bx _ _ _;rw [R];exact f.o.set (j:=2) (by simp)
  replace b:Hx (Bx E [M O 0,.string ⟨#[]⟩,zc false,U none 0 0] V5):=by show Bx _ _ _;rw [R];exact b.o.far (by have:=r.o;omega)
  replace g:Hx (Rd rb tv ts en w (N) V5):=by show Rd _ _ _ _ _ _ _;rw [R];exact g.o.set (by exact V.o)
  have K4:=Aa (Bp ⟨#[58]⟩ (by decide) N _ g.o.st);clear K3;go_wp2_with fail;rw [<-R];clear R;clear al am an ao ap aq ar au Z aa;refine K4.o.mono ?_;rintro e w6 i;obtain ⟨m,J⟩ | ⟨_u,n7,J⟩:=Ak (Av ts [58] N)
  ·replace i:Ao ts en (Av ts [58] N) _ _ e w6:=i
   rw [J] at i;obtain ⟨rfl,u⟩:=i;have HO:Hx (ae=.inr m):=by show _=_;rw [x.o,J];rfl
   have HG:=Aa (Ac g.o.gr u);clear u J;unfold Ai;go_wp2_with fail;refine ⟨rfl,?_⟩;rw [HO.o];exact ⟨rfl,HG.o⟩
  replace i:Ao ts en (Av ts [58] N) _ _ e w6:=i;rw [J] at i;obtain ⟨rfl,u,F⟩:=i;have hr:=x.o;rw [J,Am] at hr;replace x:=Aa hr;clear hr J;replace b:=bkp b g.o.rlt C u;replace f:=bkp f g.o.rlt V u;replace g:Hx (Rd rb tv ts en w (n7) w6):=g.o.call u F;clear u F;have K5:=Aa (Ib (n7) _ g.o.st);go_wp2_with fail;refine K5.o.mono ?_;rintro e wc ⟨rfl,u,F⟩;obtain ⟨q,hq⟩:=nm (AU (Ah ts (n7)));rw [<-hq] at x ⊢;clear hq;replace b:=bkp b g.o.rlt C u;replace f:=bkp f g.o.rlt V u;replace g:Hx (Rd rb tv ts en w (n7) wc):=g.o.call u F;clear u F;have K6:=Aa (GJ q (n7) _ g.o.st);clear K5;go_wp2_with fail;obtain ⟨z,hz⟩:=nm wc.heap.size;have a4:Hx (w.heap.size<=z):=by show _<=_;rw [hz];exact g.o.size
  have L:Hx (E < z):=by show _ < _;rw [hz];exact b.o.lt
  have aw:Hx (K < z):=by show _ < _;rw [hz];exact f.o.lt
  refine K6.o.mono ?_;rintro e w8 i;obtain ⟨m,J⟩ | ⟨Y,n9,J⟩:=Ak (Bi ts q (n7))
  ·replace i:Ao ts en (Bi ts q (n7)) _ _ e w8:=i
   rw [J] at i;obtain ⟨rfl,u⟩:=i;have HO:Hx (ae=.inr m):=by show _=_;rw [x.o,J];rfl
   have HG:=Aa (Ac g.o.gr u);clear u J;unfold Ai;go_wp2_with fail;refine ⟨rfl,?_⟩;rw [HO.o];exact ⟨rfl,HG.o⟩
  replace i:Ao ts en (Bi ts q (n7)) _ _ e w8:=i;rw [J] at i;obtain ⟨I,H,rfl,P,a2,u,F⟩:=i;have hr:=x.o;rw [J,Am] at hr;replace x:=Aa hr;clear hr J;obtain ⟨G,Q⟩:=nm Y.length;rw [<-Q,<-hz] at P;rw [<-Q];have l:=Aa P;clear a2 Q P hz;replace b:=bkp b g.o.rlt C u;replace f:=bkp f g.o.rlt V u;replace g:Hx (Rd rb tv ts en w (n9) w8):=g.o.call u F;clear u F;clear K6;have aa:E≠K:=by have:=r.o;omega
  have Z:K≠E:=by have:=r.o;omega
  obtain ⟨bn,bm,bl,bk⟩:=rc4 b.o.row;obtain ⟨bj,bi,bh,bg⟩:=fz4 b.o.fz;obtain ⟨au,ar,aq,ap⟩:=rc4 f.o.row;obtain ⟨ao,an,am,al⟩:=fz4 f.o.fz;obtain ⟨T,B⟩:=nm (w8.setCell ⟨K,3,none⟩ (U I G H));replace f:Hx (Bx K [M O p,.string o,zc false,U I G H] T):=by show Bx _ _ _;rw [B];exact f.o.set (j:=3) (by simp)
  replace b:Hx (Bx E [M O 0,.string ⟨#[]⟩,zc false,U none 0 0] T):=by show Bx _ _ _;rw [B];exact b.o.far (by have:=r.o;omega)
  replace g:Hx (Rd rb tv ts en w (n9) T):=by show Rd _ _ _ _ _ _ _;rw [B];exact g.o.set (by exact V.o)
  replace l:Hx (Off z none T (fun W=>BF W (U I G H) Y)):=by show Off _ _ _ _;rw [B];exact l.o.set aw.o
  obtain ⟨S,A⟩:=nm (T.setCell ⟨E,0,none⟩ (M O p));replace b:Hx (Bx E [M O p,.string ⟨#[]⟩,zc false,U none 0 0] S):=by show Bx _ _ _;rw [A];exact b.o.set (j:=0) (by simp)
  replace f:Hx (Bx K [M O p,.string o,zc false,U I G H] S):=by show Bx _ _ _;rw [A];exact f.o.far (by have:=r.o;omega)
  replace g:Hx (Rd rb tv ts en w (n9) S):=by show Rd _ _ _ _ _ _ _;rw [A];exact g.o.set (by exact C.o)
  replace l:Hx (Off z none S (fun W=>BF W (U I G H) Y)):=by show Off _ _ _ _;rw [A];exact l.o.set L.o
  obtain ⟨X,y⟩:=nm (S.setCell ⟨E,1,none⟩ (.string o));replace b:Hx (Bx E [M O p,.string o,zc false,U none 0 0] X):=by show Bx _ _ _;rw [y];exact b.o.set (j:=1) (by simp)
  replace f:Hx (Bx K [M O p,.string o,zc false,U I G H] X):=by show Bx _ _ _;rw [y];exact f.o.far (by have:=r.o;omega)
  replace g:Hx (Rd rb tv ts en w (n9) X):=by show Rd _ _ _ _ _ _ _;rw [y];exact g.o.set (by exact C.o)
  replace l:Hx (Off z none X (fun W=>BF W (U I G H) Y)):=by show Off _ _ _ _;rw [y];exact l.o.set L.o
  obtain ⟨av,ac⟩:=nm (X.setCell ⟨E,2,none⟩ (zc false));replace b:Hx (Bx E [M O p,.string o,zc false,U none 0 0] av):=by show Bx _ _ _;rw [ac];exact b.o.set (j:=2) (by simp)
  replace f:Hx (Bx K [M O p,.string o,zc false,U I G H] av):=by show Bx _ _ _;rw [ac];exact f.o.far (by have:=r.o;omega)
  replace g:Hx (Rd rb tv ts en w (n9) av):=by show Rd _ _ _ _ _ _ _;rw [ac];exact g.o.set (by exact C.o)
  replace l:Hx (Off z none av (fun W=>BF W (U I G H) Y)):=by show Off _ _ _ _;rw [ac];exact l.o.set L.o
  obtain ⟨az,ab⟩:=nm (av.setCell ⟨E,3,none⟩ (U I G H));replace b:Hx (Bx E [M O p,.string o,zc false,U I G H] az):=by show Bx _ _ _;rw [ab];exact b.o.set (j:=3) (by simp)
  replace f:Hx (Bx K [M O p,.string o,zc false,U I G H] az):=by show Bx _ _ _;rw [ab];exact f.o.far (by have:=r.o;omega)
  replace g:Hx (Rd rb tv ts en w (n9) az):=by show Rd _ _ _ _ _ _ _;rw [ab];exact g.o.set (by exact C.o)
  replace l:Hx (Off z none az (fun W=>BF W (U I G H) Y)):=by show Off _ _ _ _;rw [ab];exact l.o.set L.o
  go_wp2_with fail;refine bodyPost_ret (v:=zf #[M O p,.string o,zc false,U I G H]) (by simp [results,Tryz.results136,go_sem, *]) rfl ?_;rw [<-B,<-A,<-y,<-ac,<-ab];rw [x.o];exact ⟨p,o,false,I,G,H,rfl,(l.o.base a4.o).imp (fun W hW=>⟨p,o,false,Y,_,rfl,rfl,hW⟩),g.o.gr,g.o.st⟩
 | true=>
  rw [hq] at F;have hr:=x.o;rw [if_pos hq] at hr;replace x:=Aa hr;clear hr;replace F:St rb tv ts en (N+1) wb:=F;try rw [show isT ts N (ByteArray.mk #[33]).data.toList=true from hq]
  clear hq;replace b:=bkp b g.o.rlt C u;replace f:=bkp f g.o.rlt V u;replace g:Hx (Rd rb tv ts en w (N+1) wb):=g.o.call u F;clear u F;have aa:E≠K:=by have:=r.o;omega
  have Z:K≠E:=by have:=r.o;omega
  obtain ⟨au,ar,aq,ap⟩:=rc4 f.o.row;obtain ⟨ao,an,am,al⟩:=fz4 f.o.fz;obtain ⟨V5,R⟩:=nm (wb.setCell ⟨K,2,none⟩ (zc true));replace f:Hx (Bx K [M O p,.string o,zc true,U none 0 0] V5):=by show Bx _ _ _;rw [R];exact f.o.set (j:=2) (by simp)
  replace b:Hx (Bx E [M O 0,.string ⟨#[]⟩,zc false,U none 0 0] V5):=by show Bx _ _ _;rw [R];exact b.o.far (by have:=r.o;omega)
  replace g:Hx (Rd rb tv ts en w (N+1) V5):=by show Rd _ _ _ _ _ _ _;rw [R];exact g.o.set (by exact V.o)
  have K5:=Aa (Ib (N+1) _ g.o.st);go_wp2_with fail;rw [<-R];clear R;clear al am an ao ap aq ar au Z aa;refine K5.o.mono ?_;rintro e wc ⟨rfl,u,F⟩;obtain ⟨q,hq⟩:=nm (AU (Ah ts (N+1)));rw [<-hq] at x ⊢;clear hq;replace b:=bkp b g.o.rlt C u;replace f:=bkp f g.o.rlt V u;replace g:Hx (Rd rb tv ts en w (N+1) wc):=g.o.call u F;clear u F;have K6:=Aa (GJ q (N+1) _ g.o.st);clear K5;go_wp2_with fail;obtain ⟨z,hz⟩:=nm wc.heap.size;have a4:Hx (w.heap.size<=z):=by show _<=_;rw [hz];exact g.o.size
  have L:Hx (E < z):=by show _ < _;rw [hz];exact b.o.lt
  have aw:Hx (K < z):=by show _ < _;rw [hz];exact f.o.lt
  refine K6.o.mono ?_;rintro e w6 i;obtain ⟨m,J⟩ | ⟨Y,n7,J⟩:=Ak (Bi ts q (N+1))
  ·replace i:Ao ts en (Bi ts q (N+1)) _ _ e w6:=i
   rw [J] at i;obtain ⟨rfl,u⟩:=i;have HO:Hx (ae=.inr m):=by show _=_;rw [x.o,J];rfl
   have HG:=Aa (Ac g.o.gr u);clear u J;unfold Ai;go_wp2_with fail;refine ⟨rfl,?_⟩;rw [HO.o];exact ⟨rfl,HG.o⟩
  replace i:Ao ts en (Bi ts q (N+1)) _ _ e w6:=i;rw [J] at i;obtain ⟨I,H,rfl,P,a2,u,F⟩:=i;have hr:=x.o;rw [J,Am] at hr;replace x:=Aa hr;clear hr J;obtain ⟨G,Q⟩:=nm Y.length;rw [<-Q,<-hz] at P;rw [<-Q];have l:=Aa P;clear a2 Q P hz;replace b:=bkp b g.o.rlt C u;replace f:=bkp f g.o.rlt V u;replace g:Hx (Rd rb tv ts en w (n7) w6):=g.o.call u F;clear u F;clear K6;have aa:E≠K:=by have:=r.o;omega
  have Z:K≠E:=by have:=r.o;omega
  obtain ⟨bn,bm,bl,bk⟩:=rc4 b.o.row;obtain ⟨bj,bi,bh,bg⟩:=fz4 b.o.fz;obtain ⟨au,ar,aq,ap⟩:=rc4 f.o.row;obtain ⟨ao,an,am,al⟩:=fz4 f.o.fz;obtain ⟨V8,aj⟩:=nm (w6.setCell ⟨K,3,none⟩ (U I G H));replace f:Hx (Bx K [M O p,.string o,zc true,U I G H] V8):=by show Bx _ _ _;rw [aj];exact f.o.set (j:=3) (by simp)
  replace b:Hx (Bx E [M O 0,.string ⟨#[]⟩,zc false,U none 0 0] V8):=by show Bx _ _ _;rw [aj];exact b.o.far (by have:=r.o;omega)
  replace g:Hx (Rd rb tv ts en w (n7) V8):=by show Rd _ _ _ _ _ _ _;rw [aj];exact g.o.set (by exact V.o)
  replace l:Hx (Off z none V8 (fun W=>BF W (U I G H) Y)):=by show Off _ _ _ _;rw [aj];exact l.o.set aw.o
  obtain ⟨V9,ai⟩:=nm (V8.setCell ⟨E,0,none⟩ (M O p));replace b:Hx (Bx E [M O p,.string ⟨#[]⟩,zc false,U none 0 0] V9):=by show Bx _ _ _;rw [ai];exact b.o.set (j:=0) (by simp)
  replace f:Hx (Bx K [M O p,.string o,zc true,U I G H] V9):=by show Bx _ _ _;rw [ai];exact f.o.far (by have:=r.o;omega)
  replace g:Hx (Rd rb tv ts en w (n7) V9):=by show Rd _ _ _ _ _ _ _;rw [ai];exact g.o.set (by exact C.o)
  replace l:Hx (Off z none V9 (fun W=>BF W (U I G H) Y)):=by show Off _ _ _ _;rw [ai];exact l.o.set L.o
  obtain ⟨T,B⟩:=nm (V9.setCell ⟨E,1,none⟩ (.string o));replace b:Hx (Bx E [M O p,.string o,zc false,U none 0 0] T):=by show Bx _ _ _;rw [B];exact b.o.set (j:=1) (by simp)
  replace f:Hx (Bx K [M O p,.string o,zc true,U I G H] T):=by show Bx _ _ _;rw [B];exact f.o.far (by have:=r.o;omega)
  replace g:Hx (Rd rb tv ts en w (n7) T):=by show Rd _ _ _ _ _ _ _;rw [B];exact g.o.set (by exact C.o)
  replace l:Hx (Off z none T (fun W=>BF W (U I G H) Y)):=by show Off _ _ _ _;rw [B];exact l.o.set L.o
  obtain ⟨S,A⟩:=nm (T.setCell ⟨E,2,none⟩ (zc true));replace b:Hx (Bx E [M O p,.string o,zc true,U none 0 0] S):=by show Bx _ _ _;rw [A];exact b.o.set (j:=2) (by simp)
  replace f:Hx (Bx K [M O p,.string o,zc true,U I G H] S):=by show Bx _ _ _;rw [A];exact f.o.far (by have:=r.o;omega)
  replace g:Hx (Rd rb tv ts en w (n7) S):=by show Rd _ _ _ _ _ _ _;rw [A];exact g.o.set (by exact C.o)
  replace l:Hx (Off z none S (fun W=>BF W (U I G H) Y)):=by show Off _ _ _ _;rw [A];exact l.o.set L.o
  obtain ⟨X,y⟩:=nm (S.setCell ⟨E,3,none⟩ (U I G H));replace b:Hx (Bx E [M O p,.string o,zc true,U I G H] X):=by show Bx _ _ _;rw [y];exact b.o.set (j:=3) (by simp)
  replace f:Hx (Bx K [M O p,.string o,zc true,U I G H] X):=by show Bx _ _ _;rw [y];exact f.o.far (by have:=r.o;omega)
  replace g:Hx (Rd rb tv ts en w (n7) X):=by show Rd _ _ _ _ _ _ _;rw [y];exact g.o.set (by exact C.o)
  replace l:Hx (Off z none X (fun W=>BF W (U I G H) Y)):=by show Off _ _ _ _;rw [y];exact l.o.set L.o
  go_wp2_with fail;refine bodyPost_ret (v:=zf #[M O p,.string o,zc true,U I G H]) (by simp [results,Tryz.results136,go_sem, *]) rfl ?_;rw [<-aj,<-ai,<-B,<-A,<-y];rw [x.o];exact ⟨p,o,true,I,G,H,rfl,(l.o.base a4.o).imp (fun W hW=>⟨p,o,true,Y,_,rfl,rfl,hW⟩),g.o.gr,g.o.st⟩
theorem Tryz.infoPol:(Tryz.prog.info? 53).map (fun i=>(i.zero,i.size,i.bytes))=some (some (zf #[M O 0,.string ⟨#[]⟩,zc false,U none 0 0]),4,56):=by kernel_rfl
theorem DS {α:Type} {ts:List Tok} {sep:List UInt8} {one:Nat->Res α} (h1:∀ n a n1,one n=.inl (a,n1)->n<=n1):∀ (f:Nat) (sm:Bool) (acc:List α) (n:Nat) (l:List α) (n1:Nat),Bn ts sep one f sm acc n=.inl (l,n1)->n<=n1
 | 0,sm,acc,n,l,n1,h=>by
  injection h with h;injection h with _ h;omega
 | f+1,sm,acc,n,l,n1,h=>by
  unfold Bn at h;split at h
  ·obtain ⟨m,ho⟩ | ⟨a,n2,ho⟩:=Ak (one n)
   ·rw [ho] at h;cases h
   ·rw [ho,Am] at h
    have:=h1 _ _ _ ho;split at h
    ·have:=DS h1 f true _ _ _ _ h
     omega
    ·injection h with h;injection h with _ h;omega
  ·injection h with h;injection h with _ h;omega
theorem Be {ts:List Tok} {x:List UInt8} {n:Nat} {a:Unit} {n1:Nat} (h:Av ts x n=.inl (a,n1)):n+1<=n1:=by
 unfold Av at h;split at h
 ·injection h with h;injection h with _ h;omega
 ·cases h
theorem EX {ts:List Tok} {sm:Bool} {n:Nat} {l:List ByteArray} {n1:Nat} (h:Bi ts sm n=.inl (l,n1)):n<=n1:=DS (fun _ _ _ h=>Nat.le_of_lt (Bf h)) _ _ _ _ _ _ h
theorem Ek {ts:List Tok} {en n:Nat} {d:D} {n1:Nat} (h:Bm ts en n=.inl (d,n1)):n+1<=n1:=by
 unfold Bm at h;obtain ⟨m,c⟩ | ⟨a,n2,c⟩:=Ak (AD ts n)
 ·rw [c] at h;cases h
 rw [c,Am] at h;have k:=Bf c;split at h
 ·obtain ⟨m,b⟩ | ⟨i,j,b⟩:=Ak (Bi ts (AU (Ah ts (n2+1))) (n2+1))
  ·rw [b] at h;cases h
  rw [b,Am] at h;have:=EX b;injection h with h;injection h with _ h;omega
 ·obtain ⟨m,f⟩ | ⟨u,g,f⟩:=Ak (Av ts [58] n2)
  ·rw [f] at h;cases h
  rw [f,Am] at h;have:=Be f;obtain ⟨m,b⟩ | ⟨i,j,b⟩:=Ak (Bi ts (AU (Ah ts g)) g)
  ·rw [b] at h;cases h
  rw [b,Am] at h;have:=EX b;injection h with h;injection h with _ h;omega
theorem Mq (args:Array Value) (w:World):(callFunc 135 args).run Tryz.prog w=.ok (.enter 135 args) w:=by simp [go_sem]
theorem LD {w0:World} {rb:Nat} {tv:Value} {ts:List Tok} {en n0 lb xb:Nat} (acc:List D) (n:Nat) (w:World) (h:Gro w0 rb tv ts en n0 lb xb 53 4 F2 acc n w) :
  Calls Tryz.prog 135 #[zd (some ⟨lb,0,none⟩),zd (some ⟨xb,0,none⟩)] w (Ao ts en (Bm ts en n) (fun a n1 e w'=>e=zg (zh #[])/\Gro w0 rb tv ts en n0 lb xb 53 4 F2 (acc++[a]) n1 w') (fun w'=>w0.grownBy w' (some rb))):=by
 obtain ⟨i0,hi,am,al,ak⟩:=info_parts Tryz.infoPol;obtain ⟨v,l0,-⟩:=h.row;have x0:=h.xc;have b:=Aa h;have HL:=Aa l0;have KN:Hx (∀ X,St rb tv ts en n X->_):=fun X hX=>Lq n X hX;have HM:Hx (∀ n a n1,Bm ts en n=.inl (a,n1)->n+1<=n1):=fun n a n1 h=>Ek h;clear h;go_enter Tryz.func135,Tryz.ntmps135;go_wp2_with fail;refine gS (fun Wz=>Wz.cell? ⟨xb,0,none⟩=some (zd (some ⟨rb,0,none⟩))) (ce1 (bD w) x0) fun c=>?_;have an:Hx (Ov w w.drew):=bD w;have ay:=ce1 (bD w) l0;generalize w.drew=W at c ay an ⊢;refine kT 1 ?_;refine rdB 0 2 rfl (fun K g=>?_) rfl fun K g=>?_
 ·go_simp
  refine xK g (c) fun c=>?_;clear g K;refine rdA 2 rfl fun K g=>?_;have G:Hx (Ov w W):=an.o;go_simp;refine (KN.o _ (b.o.st.below G.o)).mono ?_;rintro e C hp;obtain ⟨m,N⟩ | ⟨a,n1,N⟩:=Ak (Bm ts en n)
  ·rw [N] at hp
   obtain ⟨rfl,hg⟩:=hp;have HG:=Aa (Ac (Ac b.o.gr (Ad G.o)) hg);have HO:=Aa N;clear hg N g c;unfold Ai;go_simp;refine ⟨rfl,?_⟩;rw [HO.o];exact ⟨rfl,HG.o⟩
  rw [N] at hp;obtain ⟨p0,p1,Z,Y,V,T,rfl,ac,ae,H⟩:=hp;have S:=Aa (ac.base G.o.size);clear ac;have HO:=Aa N;have F:w.grownBy C (some rb):=Ac (Ad G.o) ae;have E:=Aa F;have R:=Aa H;have ad:some lb≠some rb:=fun e=>by injection e with e;have:=b.o.rlt;have:=b.o.l0;omega
  have aa:some xb≠some rb:=fun e=>by injection e with e;have:=b.o.rlt;have:=b.o.x0;omega
  have l1:C.cell? ⟨lb,0,none⟩=some v:=F.cell HL.o ad;have x1:C.cell? ⟨xb,0,none⟩=some (zd (some ⟨rb,0,none⟩)):=F.cell b.o.xc aa;clear N ae H F ad aa c;go_simp;refine xK g (x1) fun c=>?_;clear g K;refine rdA 3 rfl fun K g=>?_;obtain ⟨Q,k⟩:=nm (C.alloc (ze #[M O p0,.string p1,zc Z,U Y V T] 53));have j:Ov C Q:=by rw [k];exact bA _ _
  have ah:Hx (Ae [M O p0,.string p1,zc Z,U Y V T] Q C.heap.size):=by show Ae _ _ _;rw [k];exact AW C [M O p0,.string p1,zc Z,U Y V T] 53
  have l2:=ce1 j l1;have x2:=ce1 j x1;have B:=Aa j;go_simp;rw [<-k];clear k j;refine xK g (x2) fun c=>?_;clear g K;refine rdA 4 rfl fun K g=>?_;obtain ⟨xs,i,J,r⟩:=b.o.app HL.o E.o B.o;have I:w0.heap.size+2<=Q.heap.size:=Nat.le_trans b.o.sz (Nat.le_trans E.o.size B.o.size);have af:acc.length<=6000:=Nat.le_trans b.o.few (Nat.le_trans b.o.st.2.1 b.o.st.2.2.1);obtain ⟨v2,W3,l,f,y,-,L⟩:=run_append_own_at (P:=Tryz.prog) (w:=Q) (w0.heap.size+2) 45 45 53 i0 (zf #[M O 0,.string ⟨#[]⟩,zc false,U none 0 0]) 4 56 Tryz.underlying45 hi am al ak rfl (by decide) _ _ _ i ⟨C.heap.size,0,none⟩ 1 1 [M O p0,.string p1,zc Z,U Y V T] rfl (fun jj u hu=>by rw [Addr.add_lit,Nat.zero_add];exact ah.o jj u hu) (by simp [Value.oneCell']) (by unfold maxLen;omega) (by omega) I;obtain ⟨x,l3,x3,f3⟩:=b.o.add (a:=a) HL.o E.o R.o (HM.o _ _ _ HO.o) B.o i J r rfl S.o f y L;have A:=Aa x;obtain ⟨au,aq,ar,ab⟩:=AK f;subst ab;refine AP rfl _ _ _ rfl _ _ _ _ rfl rfl l ?_;clear l i J f y L x r af I;refine xK g (x3) fun c=>?_;clear g K;refine rdA 5 rfl fun K g=>?_;go_simp;refine xK g (A.o.xc) fun c=>?_;clear g K;refine gE ?_;go_wp2_with fail;go_end0;rw [HO.o];exact ⟨rfl,A.o⟩
 ·have G:Hx (Ov w W):=an.o
  go_simp;refine (KN.o _ (b.o.st.below G.o)).mono ?_;rintro e C hp;obtain ⟨m,N⟩ | ⟨a,n1,N⟩:=Ak (Bm ts en n)
  ·rw [N] at hp
   obtain ⟨rfl,hg⟩:=hp;have HG:=Aa (Ac (Ac b.o.gr (Ad G.o)) hg);have HO:=Aa N;clear hg N g c;unfold Ai;go_simp;refine ⟨rfl,?_⟩;rw [HO.o];exact ⟨rfl,HG.o⟩
  rw [N] at hp;obtain ⟨p0,p1,Z,Y,V,T,rfl,ac,ae,H⟩:=hp;have S:=Aa (ac.base G.o.size);clear ac;have HO:=Aa N;have F:w.grownBy C (some rb):=Ac (Ad G.o) ae;have E:=Aa F;have R:=Aa H;have ad:some lb≠some rb:=fun e=>by injection e with e;have:=b.o.rlt;have:=b.o.l0;omega
  have aa:some xb≠some rb:=fun e=>by injection e with e;have:=b.o.rlt;have:=b.o.x0;omega
  have l1:C.cell? ⟨lb,0,none⟩=some v:=F.cell HL.o ad;have x1:C.cell? ⟨xb,0,none⟩=some (zd (some ⟨rb,0,none⟩)):=F.cell b.o.xc aa;clear N ae H F ad aa c;go_simp;refine xK g (x1) fun c=>?_;clear g K;refine rdB 0 3 rfl (fun K g=>?_) rfl fun K g=>?_
  ·go_simp
   refine xK g (c) fun c=>?_;clear g K;refine rdA 3 rfl fun K g=>?_;obtain ⟨Q,k⟩:=nm (C.alloc (ze #[M O p0,.string p1,zc Z,U Y V T] 53));have j:Ov C Q:=by rw [k];exact bA _ _
   have ah:Hx (Ae [M O p0,.string p1,zc Z,U Y V T] Q C.heap.size):=by show Ae _ _ _;rw [k];exact AW C [M O p0,.string p1,zc Z,U Y V T] 53
   have l2:=ce1 j l1;have x2:=ce1 j x1;have B:=Aa j;go_simp;rw [<-k];clear k j;refine xK g (x2) fun c=>?_;clear g K;refine rdA 4 rfl fun K g=>?_;obtain ⟨xs,i,J,r⟩:=b.o.app HL.o E.o B.o;have I:w0.heap.size+2<=Q.heap.size:=Nat.le_trans b.o.sz (Nat.le_trans E.o.size B.o.size);have af:acc.length<=6000:=Nat.le_trans b.o.few (Nat.le_trans b.o.st.2.1 b.o.st.2.2.1);obtain ⟨v2,W3,l,f,y,-,L⟩:=run_append_own_at (P:=Tryz.prog) (w:=Q) (w0.heap.size+2) 45 45 53 i0 (zf #[M O 0,.string ⟨#[]⟩,zc false,U none 0 0]) 4 56 Tryz.underlying45 hi am al ak rfl (by decide) _ _ _ i ⟨C.heap.size,0,none⟩ 1 1 [M O p0,.string p1,zc Z,U Y V T] rfl (fun jj u hu=>by rw [Addr.add_lit,Nat.zero_add];exact ah.o jj u hu) (by simp [Value.oneCell']) (by unfold maxLen;omega) (by omega) I;obtain ⟨x,l3,x3,f3⟩:=b.o.add (a:=a) HL.o E.o R.o (HM.o _ _ _ HO.o) B.o i J r rfl S.o f y L;have A:=Aa x;obtain ⟨au,aq,ar,ab⟩:=AK f;subst ab;refine AP rfl _ _ _ rfl _ _ _ _ rfl rfl l ?_;clear l i J f y L x r af I;refine xK g (x3) fun c=>?_;clear g K;refine rdA 5 rfl fun K g=>?_;go_simp;refine xK g (A.o.xc) fun c=>?_;clear g K;refine gE ?_;go_wp2_with fail;go_end0;rw [HO.o];exact ⟨rfl,A.o⟩
  ·obtain ⟨Q,k⟩:=nm (C.alloc (ze #[M O p0,.string p1,zc Z,U Y V T] 53))
   have j:Ov C Q:=by rw [k];exact bA _ _
   have ah:Hx (Ae [M O p0,.string p1,zc Z,U Y V T] Q C.heap.size):=by show Ae _ _ _;rw [k];exact AW C [M O p0,.string p1,zc Z,U Y V T] 53
   have l2:=ce1 j l1;have x2:=ce1 j x1;have B:=Aa j;go_simp;rw [<-k];clear k j;refine xK g (x2) fun c=>?_;clear g K;refine rdA 0 rfl fun K g=>?_;go_simp;refine xK g (c) fun c=>?_;clear g K;refine rdA 4 rfl fun K g=>?_;obtain ⟨xs,i,J,r⟩:=b.o.app HL.o E.o B.o;have I:w0.heap.size+2<=Q.heap.size:=Nat.le_trans b.o.sz (Nat.le_trans E.o.size B.o.size);have af:acc.length<=6000:=Nat.le_trans b.o.few (Nat.le_trans b.o.st.2.1 b.o.st.2.2.1);obtain ⟨v2,W3,l,f,y,-,L⟩:=run_append_own_at (P:=Tryz.prog) (w:=Q) (w0.heap.size+2) 45 45 53 i0 (zf #[M O 0,.string ⟨#[]⟩,zc false,U none 0 0]) 4 56 Tryz.underlying45 hi am al ak rfl (by decide) _ _ _ i ⟨C.heap.size,0,none⟩ 1 1 [M O p0,.string p1,zc Z,U Y V T] rfl (fun jj u hu=>by rw [Addr.add_lit,Nat.zero_add];exact ah.o jj u hu) (by simp [Value.oneCell']) (by unfold maxLen;omega) (by omega) I;obtain ⟨x,l3,x3,f3⟩:=b.o.add (a:=a) HL.o E.o R.o (HM.o _ _ _ HO.o) B.o i J r rfl S.o f y L;have A:=Aa x;obtain ⟨au,aq,ar,ab⟩:=AK f;subst ab;refine AP rfl _ _ _ rfl _ _ _ _ rfl rfl l ?_;clear l i J f y L x r af I;refine xK g (x3) fun c=>?_;clear g K;refine rdA 5 rfl fun K g=>?_;go_simp;refine xK g (A.o.xc) fun c=>?_;clear g K;refine gE ?_;go_wp2_with fail;go_end0;rw [HO.o];exact ⟨rfl,A.o⟩
theorem GN {rb:Nat} {tv:Value} {ts:List Tok} {en:Nat} (n:Nat) (w:World) (h:St rb tv ts en n w) :
  Calls Tryz.prog 97 #[zd (some ⟨rb,0,none⟩)] w (Ao ts en (BO ts en n) (fun l n1 e w'=>∃ a c,e=zg (U a l.length c)/\Off w.heap.size none w' (fun W=>LS 4 (F2 W) W (U a l.length c) l)/\l.length<=6000/\w.grownBy w' (some rb)/\St rb tv ts en n1 w') (fun w'=>w.grownBy w' (some rb))):=by
 obtain ⟨V,hV⟩:=nm ((w.alloc (ze #[zd (some ⟨rb,0,none⟩)] 91)).alloc (ze #[U none 0 0] 45));have A:Hx (Gro w rb tv ts en n (w.heap.size+1) w.heap.size 53 4 F2 [] n V):=by show Gro _ _ _ _ _ _ _ _ _ _ _ _ _ _;rw [hV];exact Gro.start h 45
 obtain ⟨C,r⟩:=nm (BO ts en n);rw [<-r];have x:Hx (C=Aw (Av ts [123] n) fun _ n1=>Aw (Bn ts [59] (Bm ts en) (ts.length+1) (!isT ts n1 [125]) [] n1) fun l n2=>Aw (Av ts [125] n2) fun _ n3=>.inl (l,n3)):=r;have K1:=Aa (Bp ⟨#[123]⟩ (by decide) n V A.o.st);have x0:=A.o.xc;clear h r;go_enter Tryz.func97,Tryz.ntmps97;go_wp2_with fail;rw [<-hV];clear hV;refine K1.o.mono ?_;rintro e B b;obtain ⟨m,f⟩ | ⟨u,n1,f⟩:=Ak (Av ts [123] n)
 ·replace b:Ao ts en (Av ts [123] n) _ _ e B:=b
  rw [f] at b;obtain ⟨rfl,i⟩:=b;have T:Hx (C=.inr m):=by show _=_;rw [x.o,f];rfl
  have G:=Aa (Ac A.o.gr i);clear i f;unfold Ai;go_wp2_with fail;refine ⟨rfl,?_⟩;rw [T.o];exact ⟨rfl,G.o⟩
 replace b:Ao ts en (Av ts [123] n) _ _ e B:=b;rw [f] at b;obtain ⟨rfl,i,H⟩:=b;have hr:=x.o;rw [f,Am] at hr;replace x:=Aa hr;have E:=Aa (A.o.move (Nat.le_of_lt (Be f)) i H);have K2:Hx (∀ X,Ov B X->_):=fun X (hX:Ov B X)=>M8 (rb:=rb) (tv:=tv) (ts:=ts) (en:=en) ⟨#[125]⟩ n1 X (E.o.st.below hX);have x1:=E.o.xc;clear hr f i H x0 K1 A;go_wp2_with fail;refine gS (fun Wz=>Wz.cell? ⟨w.heap.size,0,none⟩=some (zd (some ⟨rb,0,none⟩))) (ce1 (bD B) E.o.xc) fun g=>?_;have J:Hx (Ov B B.drew):=bD B;generalize B.drew=W at g J ⊢;refine kT 0 ?_;refine kT 1 ?_;refine kT 4 ?_;refine rdA 2 rfl fun K L=>?_;go_simp;refine (K2.o _ J.o).mono ?_;rintro e w2 ⟨rfl,P,M⟩;obtain ⟨q,hq⟩:=nm (isT ts n1 [125]);have N:isT ts n1 (ByteArray.mk #[125]).data.toList=q:=hq.symm;rw [N];have Y:=Aa (E.o.move (Nat.le_refl _) (Ac (Ad J.o) P) M);have HQ:=Aa hq;clear hq N P M g;go_simp;refine xK L (Y.o.xc) fun g=>?_;clear L K;refine kT 3 ?_;refine rdA 5 rfl fun K L=>?_;have KE:=Aa (IZ (rb:=rb) (tv:=tv) (ts:=ts) (en:=en) 135 [zd (some ⟨w.heap.size+1,0,none⟩),zd (some ⟨w.heap.size,0,none⟩)] Mq ⟨#[59]⟩ (by decide) (Bm ts en) (fun I n2 w'=>Gro w rb tv ts en n (w.heap.size+1) w.heap.size 53 4 F2 I n2 w') (fun w'=>w.grownBy w' (some rb)) (fun _ _ _ h=>h.st) (fun _ _ _ h=>Nat.le_of_lt (Ek h)) (fun _ _ _ _ _ h hn i H=>h.move hn i H) (fun I n w' h=>LD I n w' h) (!q) n1 w2 Y.o);go_simp;refine KE.o.mono ?_;rintro e Z b;obtain ⟨m,f⟩ | ⟨l,n2,f⟩:=Ak (Bn ts [59] (Bm ts en) (ts.length+1) (!q) [] n1)
 ·replace b:Ao ts en (Bn ts [59] (Bm ts en) (ts.length+1) (!q) [] n1) _ _ e Z:=b
  rw [f] at b;obtain ⟨rfl,i⟩:=b;have T:Hx (C=.inr m):=by show _=_;rw [x.o,<-HQ.o,f];rfl
  have G:=Aa i;clear i f L g;unfold Ai;go_simp;refine ⟨rfl,?_⟩;rw [T.o];exact ⟨rfl,G.o⟩
 replace b:Ao ts en (Bn ts [59] (Bm ts en) (ts.length+1) (!q) [] n1) _ _ e Z:=b;rw [f] at b;obtain ⟨rfl,O⟩:=b;have hr:=x.o;rw [<-HQ.o,f,Am] at hr;have R:=Aa hr;have y:=Aa O;clear f O hr g;refine xK L (y.o.xc) fun g=>?_;clear L K;refine gE ?_;have KB:=Aa (Bp ⟨#[125]⟩ (by decide) n2 Z y.o.st);have x3:=y.o.xc;go_wp2_with fail;refine KB.o.mono ?_;rintro e w4 b;obtain ⟨m,f⟩ | ⟨u,n3,f⟩:=Ak (Av ts [125] n2)
 ·replace b:Ao ts en (Av ts [125] n2) _ _ e w4:=b
  rw [f] at b;obtain ⟨rfl,i⟩:=b;have T:Hx (C=.inr m):=by show _=_;rw [R.o,f];rfl
  have G:=Aa (Ac y.o.gr i);clear i f;unfold Ai;go_wp2_with fail;refine ⟨rfl,?_⟩;rw [T.o];exact ⟨rfl,G.o⟩
 replace b:Ao ts en (Av ts [125] n2) _ _ e w4:=b;rw [f] at b;obtain ⟨rfl,i,H⟩:=b;have hr:=R.o;rw [f,Am] at hr;have ae:=Aa hr;have j:=y.o.move (n1:=n3) (by unfold Av at f;split at f;(injection f with f;injection f with _ f;omega);cases f) i H;obtain ⟨v,hv,hc⟩:=j.row;have Q:l.length<=6000:=Nat.le_trans j.few (Nat.le_trans j.st.2.1 j.st.2.2.1);obtain ⟨a,c,rfl,F⟩:=Cop.ls hc (by decide) (by omega);have G:=Aa j;have S:=Aa (F.base (B':=w.heap.size) (by omega));have af:=Aa Q;obtain ⟨k,hk⟩:=nm l.length;rw [<-hk] at hv;have HK:=Aa hk;clear f i H j hc F hr Q hk x3;go_wp2_with fail;go_ret;rw [ae.o];exact ⟨a,c,by rw [HK.o];rfl,S.o,af.o,G.o.gr,G.o.st⟩
def XE (W:World):Nat->List Value->D->Prop
 | 0,_,_=>False
 | k+1,cs,d=>∃ (kd a n:Int) (x:ByteArray) (v:Value) (ds:List D),cs=[M O kd,M O a,M O n,.string x,v]/\d=eD kd a n x ds/\LS 5 (XE W k) W v ds
def XC (W:World):Nat->List Value->D->Prop
 | 0,_,_=>False
 | k+1,cs,d=>∃ (kd a:Int) (x y:ByteArray) (e0 e1 e2 e3 e4:Value) (e:D) (vA:Value) (args:List D) (vT:Value) (th:List D) (vE:Value) (el:List D),cs=[M O kd,M O a,.string x,.string y,e0,e1,e2,e3,e4,vA,vT,vE]/\d=stD kd a x y e args th el/\XE W 61 [e0,e1,e2,e3,e4] e/\LS 5 (XE W 61) W vA args/\LS 12 (XC W k) W vT th/\LS 12 (XC W k) W vE el
theorem LS.imp {α:Type} {size:Nat} {R R':List Value->α->Prop} {w:World} {v:Value} {l:List α} (h:LS size R w v l) (hR:∀ cs a,a∈l->R cs a->R' cs a):LS size R' w v l:=by
 obtain ⟨y,A,g,x,u⟩:=h;refine ⟨y,A,g,x,fun f=>?_⟩;obtain ⟨b,c,r,n⟩:=u f;refine ⟨b,c,r,fun i a j=>?_⟩;obtain ⟨cs,q1,m,k⟩:=n i a j;exact ⟨cs,q1,m,hR cs a (List.mem_of_getElem? j) k⟩
theorem XC.mono {W:World}:∀ {k m:Nat} {cs:List Value} {d:D},k<=m->XC W k cs d->XC W m cs d
 | 0,m,cs,d,_,h=>h.elim
 | k+1,0,cs,d,hk,h=>absurd hk (by omega)
 | k+1,m+1,cs,d,hk,h=>by
  obtain ⟨kd,a,x,y,e0,e1,e2,e3,e4,e,vA,args,vT,th,vE,el,h1,h2,h3,h4,h5,h6⟩:=h;exact ⟨kd,a,x,y,e0,e1,e2,e3,e4,e,vA,args,vT,th,vE,el,h1,h2,h3,h4,h5.imp fun cs d _ hh=>XC.mono (by omega) hh,h6.imp fun cs d _ hh=>XC.mono (by omega) hh⟩
def LJ:D->List D
 | .agg [_,_,_,_,.slice l _]=>l
 | _=>[]
def Mg:Nat->D->Prop
 | 0,_=>True
 | k+1,d=>(LJ d).length<=2/\∀ a∈LJ d,Mg k a
section
variable {ts:List Tok} {en:Nat}
theorem DT:∀ (f deep n:Nat) (d:D) (n1:Nat),pE ts en f deep n=.inl (d,n1)->Mg f d/\n+1<=n1
 | 0,deep,n,d,n1,h=>by cases h
 | f+1,deep,n,d,n1,h=>by
  have nil:∀ (k a m:Int) (x:ByteArray),Mg (f+1) (eD k a m x []):=fun k a m x=>⟨Nat.zero_le _,fun y hy=>by cases hy⟩;unfold pE at h;split at h
  ·injection h with h;injection h with h1 h2;rw [<-h1];exact ⟨nil _ _ _ _,by omega⟩
  split at h
  ·split at h
   ·cases h
   split at h
   ·injection h with h;injection h with h1 h2;rw [<-h1];exact ⟨nil _ _ _ _,by omega⟩
   ·cases h
  split at h
  ·injection h with h;injection h with h1 h2;rw [<-h1];exact ⟨nil _ _ _ _,by omega⟩
  split at h
  ·cases ha:pE ts en f (deep+1) (n+1) with
   | inr m=>rw [ha] at h;cases h
   | inl p=>
    obtain ⟨a,m1⟩:=p;rw [ha] at h;obtain ⟨a1,a2⟩:=DT f _ _ _ _ ha;dsimp only at h;split at h
    ·cases h
    cases hb:pE ts en f (deep+1) (m1+1) with
    | inr m=>rw [hb] at h;cases h
    | inl q=>
     obtain ⟨b,m2⟩:=q;rw [hb] at h;obtain ⟨b1,b2⟩:=DT f _ _ _ _ hb;dsimp only at h;split at h
     ·injection h with h
      injection h with h1 h2;rw [<-h1];refine ⟨⟨Nat.le_refl _,fun y hy=>?_⟩,by omega⟩;have hy':y∈[a,b]:=hy;simp at hy';rcases hy' with rfl | rfl
      ·exact a1
      ·exact b1
     ·cases h
  ·cases h
end
theorem RE.xe {S:Nat->Prop} {W:World}:∀ {k:Nat} {cs:List Value} {d:D},RE S W k cs d->Mg k d->XE W k cs d
 | 0,cs,d,h,_=>h.elim
 | k+1,cs,d,h,hf=>by
  obtain ⟨kd,a,n,x,v,ds,h1,h2,ao,cap,hv,hc⟩:=h;subst h2;refine ⟨kd,a,n,x,v,ds,h1,rfl,?_,ao,cap,hv,fun hne=>?_⟩
  ·have:=hf.1
   have e:(LJ (eD kd a n x ds))=ds:=rfl;rw [e] at this;unfold maxLen;omega
  obtain ⟨b,off,hb,-,he⟩:=hc hne;refine ⟨b,off,hb,fun i d hd=>?_⟩;obtain ⟨cs,q1,q2,q3⟩:=he i d hd;exact ⟨cs,q1,q2,RE.xe q3 (hf.2 d (List.mem_of_getElem? hd))⟩
theorem DY {rb:Nat} {tv:Value} {ts:List Tok} {en:Nat} (hall:ts.all An=true) (n:Nat) (w:World) (h:St rb tv ts en n w) :
  Calls Tryz.prog 133 #[zd (some ⟨rb,0,none⟩),M O 0] w (Ao ts en (pX ts en n) (fun d n1 e w'=>∃ (kd a m:Int) (x:ByteArray) (ao:Option Addr) (l c:Nat),e=zg (zf #[M O kd,M O a,M O m,.string x,U ao l c])/\Off w.heap.size none w' (fun W=>XE W 61 [M O kd,M O a,M O m,.string x,U ao l c] d)/\Ij d=kd/\FX d=x.data.toList/\w.grownBy w' (some rb)/\St rb tv ts en n1 w') (fun w'=>w.grownBy w' (some rb))):=by
 have B:=LI rb tv ts hall en 61 0 n w (by omega) (by omega) h;refine B.mono fun e w' g=>?_;obtain ⟨m,i⟩ | ⟨d,n1,i⟩:=Ak (pX ts en n)
 ·have f:pE ts en 61 0 n=.inr m:=i
  rw [f] at g;rw [i];exact ⟨g.2,g.1⟩
 ·have f:pE ts en 61 0 n=.inl (d,n1):=i
  rw [f] at g;rw [i];obtain ⟨y,E,rfl,hr,r⟩:=g;obtain ⟨kd,a,m,x,v,C,rfl,rfl,u⟩:=id hr;obtain ⟨ao,k,rfl,-⟩:=id u;refine ⟨kd,a,m,x,ao,C.length,k,rfl,fun W hW=>?_,rfl,rfl,y,r⟩;exact RE.xe (S:=fun _=>True) (RE.mono (fun _ _ _=>trivial) (fun b A j=>hW b A j (by simp)) 61 61 _ _ (Nat.le_refl _) hr) (DT 61 0 n _ _ f).1
theorem XE.none (W:World):XE W 61 [M O 0,M O 0,M O 0,.string ⟨#[]⟩,U none 0 0] noE:=⟨0,0,0,⟨#[]⟩,_,[],rfl,rfl,LS.nil⟩
section
variable (rb:Nat) (tv:Value) (ts:List Tok) (en:Nat)
def CC (f:Nat):Prop:=∀ (n:Nat) (w:World),St rb tv ts en n w->2*(ts.length - n)+2<=f ->
 Calls Tryz.prog 99 #[zd (some ⟨rb,0,none⟩)] w (Ao ts en (AL ts en f [] n) (fun l n1 e w'=>∃ a c,e=zg (U a l.length c)/\Off w.heap.size none w' (fun W=>LS 12 (XC W f) W (U a l.length c) l)/\l.length<=6000/\w.grownBy w' (some rb)/\St rb tv ts en n1 w') (fun w'=>w.grownBy w' (some rb)))
def Ja (f:Nat):Prop:=∀ (n:Nat) (w:World),St rb tv ts en n w->2*(ts.length - n)+1<=f ->
 Calls Tryz.prog 137 #[zd (some ⟨rb,0,none⟩)] w (Ao ts en (BQ ts en f n) (fun d n1 e w'=>∃ (kd a:Int) (x y:ByteArray) (e0 e1 e2:Int) (e3:ByteArray) (q0:Option Addr) (q1 q2:Nat) (q3:Option Addr) (q4 q5:Nat) (q6:Option Addr) (q7 q8:Nat) (q9:Option Addr) (r0 r1:Nat),e=zg (zf #[M O kd,M O a,.string x,.string y,M O e0,M O e1,M O e2,.string e3,U q0 q1 q2,U q3 q4 q5,U q6 q7 q8,U q9 r0 r1])/\Off w.heap.size none w' (fun W=>XC W f [M O kd,M O a,.string x,.string y,M O e0,M O e1,M O e2,.string e3,U q0 q1 q2,U q3 q4 q5,U q6 q7 q8,U q9 r0 r1] d)/\n+1<=n1/\w.grownBy w' (some rb)/\St rb tv ts en n1 w') (fun w'=>w.grownBy w' (some rb)))
end
theorem Tryz.infoStm:(Tryz.prog.info? 55).map (fun i=>(i.zero,i.size,i.bytes))=some (some (zf #[M O 0,M O 0,.string ⟨#[]⟩,.string ⟨#[]⟩,M O 0,M O 0,M O 0,.string ⟨#[]⟩,U none 0 0,U none 0 0,U none 0 0,U none 0 0]),12,184):=by kernel_rfl
section
variable {rb:Nat} {tv:Value} {ts:List Tok} {en:Nat}
theorem Rd.row {w V V':World} {n B T s k:Nat} {v:Value} {xs:List Value} (h:Rd rb tv ts en w n V) (ho:V.ownsRow B T s v k xs) (hB:w.heap.size<=B) (hg:V.grownBy V' v.ownBlock):Rd rb tv ts en w n V':=by
 obtain ⟨j,g⟩:=h.st0;have hr:=g.lt;have b:∀ i,i < w.heap.size->some i≠v.ownBlock:=fun i f e=>by have:=(AF ho e.symm).1;omega
 have a:=h.gr;have c:w.grownBy V' (some rb):=⟨hg.os.trans a.os,hg.tape.trans a.tape,hg.output.trans a.output,Nat.le_trans a.size hg.size,fun i f l=>(hg.block i (Nat.lt_of_lt_of_le f a.size) (b i f)).trans (a.block i f l)⟩;exact ⟨⟨j,g⟩,g.keep c (by rw [hg.block rb (Nat.lt_of_lt_of_le hr a.size) (b rb hr)];exact h.st.1) h.st.2.1,c⟩
theorem J4 (x:ByteArray) (l:List UInt8) (hl:x.data.toList=l) (n:Nat) (w:World) (h:St rb tv ts en n w):Calls Tryz.prog 51 #[zd (some ⟨rb,0,none⟩),.string x] w fun e w'=>e=zg (zc (isT ts n l))/\w.grownBy w' (some rb)/\St rb tv ts en n w':=by
 rw [<-hl];exact M8 x n w h
theorem Kz (f:Nat) (hS:∀ f',f' < f->Ja rb tv ts en f'):CC rb tv ts en f:=by
 intro n w h hf;obtain ⟨i0,hi,bp,bo,bn⟩:=info_parts Tryz.infoStm;obtain ⟨H,J⟩:=nm (AL ts en f [] n);rw [<-J];have HR:=Aa J;have HS:=Aa hS;have b7:=Aa (Rd.start h);have b3:=Aa hf;clear h J hS hf;go_enter Tryz.func99,Tryz.ntmps99;go_wp2_with fail;go_loopw [3] (fun l wr=>∃ (acc:List D) (m f':Nat),Cop w.heap.size 55 12 (fun i cs W=>∀ x,acc[i]? = some x->XC W f cs x) acc.length l wr/\Rd rb tv ts en w m wr/\AL ts en f' acc m=H/\2*(ts.length - m)+2<=f'/\f'<=f/\acc.length<=m) (fun _ wr=>ts.length - nOf rb wr)
 case atStart=>exact ⟨[],n,f,Cop.nil,b7.o,HR.o.symm,b3.o,Nat.le_refl _,Nat.zero_le _⟩
 case round=>
  obtain ⟨acc,m,f',j,hd,hp,ap,ao,aq⟩:=hrel;obtain ⟨f1,rfl⟩:∃ f1,f'=f1+1:=⟨f' - 1,by omega⟩;rw [Hr] at hp;have I:=hd.st;have al:m<=6000:=Nat.le_trans I.2.1 I.2.2.1;have K1:=Aa (J4 ⟨#[125]⟩ [125] rfl m wr I);obtain ⟨la,lc,bt,-⟩:=j.cells (by decide);subst bt;have HN:=Aa (EZ I);have a1:=Aa j;have HD:=Aa hd;have ag:=Aa hp;have HF:=Aa (And.intro ap (And.intro ao (And.intro aq al)));obtain ⟨k,hk⟩:=nm acc.length;rw [<-hk] at a1 ⊢;have V:=Aa hk;clear j hd hp I ap ao aq al hk;go_wp2_with fail;refine K1.o.mono ?_;rintro e w1 ⟨rfl,r,R⟩;have Q:=Aa (a1.o.keep r HD.o.rlt);have N:=Aa (HD.o.call r R);have an:=r;have az:=Aa r;clear r R an K1
  cases hq:isT ts m [125] with
  | true=>
   have HE:Hx (H=.inl (acc,m)):=by
    show _=_;rw [<-ag.o,if_pos (Or.inl hq)]
   have K:acc.length<=6000:=by have:=HF.o;omega
   have B:=Q.o;rw [V.o] at B;obtain ⟨a,c,hv,b⟩:=Cop.ls B (by decide) (by omega);injection hv with v1 v2 v3;subst v1 v3;have v:=Aa b;have ah:=Aa K;clear hq B b K v2;go_wp2_with fail;go_ret;rw [HE.o];exact ⟨la,lc,by rw [V.o];rfl,v.o,ah.o,N.o.gr,N.o.st⟩
  | false=>
   have K2:=Aa (J4 ⟨#[114,101,116,117,114,110]⟩ [114,101,116,117,114,110] rfl m w1 N.o.st);have HQ:=Aa hq;clear hq;go_wp2_with fail;refine K2.o.mono ?_;rintro e w2 ⟨rfl,r,R⟩;have P:=Aa (Q.o.keep r HD.o.rlt);have G:=Aa (N.o.call r R);have cd:=Aa (Ac az.o r);clear r R K2 Q N
   cases hq:isT ts m [114,101,116,117,114,110] with
   | true=>
    have HE:Hx (H=.inl (acc,m)):=by
     show _=_;rw [<-ag.o,if_pos (Or.inr hq)]
    have K:acc.length<=6000:=by have:=HF.o;omega
    have B:=P.o;rw [V.o] at B;obtain ⟨a,c,hv,b⟩:=Cop.ls B (by decide) (by omega);injection hv with v1 v2 v3;subst v1 v3;have v:=Aa b;have ah:=Aa K;clear hq B b K v2;go_wp2_with fail;go_ret;rw [HE.o];exact ⟨la,lc,by rw [V.o];rfl,v.o,ah.o,G.o.gr,G.o.st⟩
   | false=>
    have hr:=ag.o;rw [if_neg (by rw [HQ.o,hq];simp)] at hr;have aw:Hx (H=Aw (BQ ts en f1 m) fun s n1=>AL ts en f1 (acc++[s]) n1):=hr.symm;have KS:=Aa (HS.o f1 (by have:=HF.o;omega) m w2 G.o.st (by have:=HF.o;omega));clear hr hq;go_wp2_with fail;refine KS.o.mono ?_;rintro e w3 S;obtain ⟨m1,ho⟩ | ⟨d,n1,ho⟩:=Ak (BQ ts en f1 m)
    ·rw [ho] at S
     obtain ⟨rfl,r⟩:=S;have HO:Hx (H=.inr m1):=by show _=_;rw [aw.o,ho];rfl
     have HG:=Aa (Ac G.o.gr r);clear r ho;unfold Ai;go_wp2_with fail;refine ⟨rfl,?_⟩;rw [HO.o];exact ⟨rfl,HG.o⟩
    rw [ho] at S;obtain ⟨kd,a,x,y,e0,e1,e2,e3,q0,q1,q2,q3,q4,q5,q6,q7,q8,q9,r0,r1,rfl,b,am,r,R⟩:=S;have hr:=aw.o;rw [ho,Am] at hr;have bz:=Aa hr;have Z:=P.o.keep r HD.o.rlt;have ae:=G.o.call r R;obtain ⟨W4,F⟩:=nm (w3.alloc (ze #[M O kd,M O a,.string x,.string y,M O e0,M O e1,M O e2,.string e3,U q0 q1 q2,U q3 q4 q5,U q6 q7 q8,U q9 r0 r1] 55));have L:Ov w3 W4:=by rw [F];exact bA _ _
    obtain ⟨xs,C,Y⟩:=Z.over L;have b1:Hx (Ae [M O kd,M O a,.string x,.string y,M O e0,M O e1,M O e2,.string e3,U q0 q1 q2,U q3 q4 q5,U q6 q7 q8,U q9 r0 r1] W4 w3.heap.size):=by show Ae _ _ _;rw [F];exact AW w3 [M O kd,M O a,.string x,.string y,M O e0,M O e1,M O e2,.string e3,U q0 q1 q2,U q3 q4 q5,U q6 q7 q8,U q9 r0 r1] 55
    have v:=Aa (b.over L);have ar:w.heap.size<=W4.heap.size:=Nat.le_trans ae.size L.size;have X:∀ g,(Value.slice la k lc).ownBlock=some g->g < w2.heap.size:=fun g r=>by
     obtain ⟨ys,h1,-⟩:=P.o;exact (AF h1 r).2
    have ax:=Aa X;have ay:=Aa Y;have b6:=Aa (ae.over L);have b2:=Aa (And.intro am R.2.1);have av:=Aa G.o.size;have cp:k<=6000:=by have h1:=HF.o;have h2:=V.o;omega
    clear hr ho b am r R Z ae L Y X KS;go_wp2_with (at_builtin;(try rw [<-F]);refine wpList_append_own_at _ rfl _ _ 23 rfl w.heap.size 55 i0 (zf #[M O 0,M O 0,.string ⟨#[]⟩,.string ⟨#[]⟩,M O 0,M O 0,M O 0,.string ⟨#[]⟩,U none 0 0,U none 0 0,U none 0 0,U none 0 0]) 12 184 Tryz.underlying23 hi bp bo bn rfl (by decide) _ _ _ rfl C ⟨w3.heap.size,0,none⟩ 1 1 [M O kd,M O a,.string x,.string y,M O e0,M O e1,M O e2,.string e3,U q0 q1 q2,U q3 q4 q5,U q6 q7 q8,U q9 r0 r1] rfl rfl (fun jj u hu=>by rw [Addr.add_lit,Nat.zero_add];exact b1.o jj u hu) (by simp [Value.oneCell']) (by unfold maxLen;omega) (by omega) ar ?_);intro v2 W5 A E _ T;rw [<-F] at E;have ak:W4.heap.size=w3.heap.size+1:=by rw [F];simp
    replace T:v2.ownBlock=(Value.slice la k lc).ownBlock\/v2.ownBlock=some W4.heap.size:=by rw [ak];simpa using T
    have j:Cop w.heap.size 55 12 (fun i cs W=>∀ x,(acc++[d])[i]? = some x->XC W f cs x) (k+1) v2 W5:=Cop.add (B1:=w2.heap.size) C (fun i hi=>by
      obtain ⟨ds,z1,z2,z3⟩:=ay.o i hi;exact ⟨ds,z1,z2,z3.imp fun W hW x hx=>hW x (by rw [List.getElem?_append_left (by rw [<-V.o];exact hi)] at hx;exact hx)⟩) rfl (v.o.imp fun W hW x hx=>by
       rw [List.getElem?_append_right (by rw [V.o];exact Nat.le_refl _),V.o,Nat.sub_self] at hx;injection hx with hx;rw [<-hx];exact XC.mono (by have:=HF.o;omega) hW) av.o ax.o A E T
    have ad:=b6.o.row C (Nat.le_refl _) E;obtain ⟨ck,ci,cj,bq⟩:=AK A;subst bq;have a0:=Aa j;have b5:=Aa ad;have b0:=Aa (EZ ad.st);clear j ad C A E T ar ak F;go_wp2_with fail;have hF:=HF.o;have hL:=b2.o;have hN:=HN.o;have cq:=b0.o;refine ⟨⟨acc++[d],n1,f1,?_,b5.o,bz.o.symm,by omega,by omega,by simp;omega⟩,by omega⟩;have:=a0.o;rw [V.o] at this;simpa using this
theorem Ft (f:Nat) (hS:CC rb tv ts en f) (n:Nat) (w:World) (h:St rb tv ts en n w) (hf:2*(ts.length - n)<=f) :
  Calls Tryz.prog 54 #[zd (some ⟨rb,0,none⟩)] w (Ao ts en (AZ ts (fun n=>AL ts en f [] n) n) (fun l n1 e w'=>∃ a c,e=zg (U a l.length c)/\Off w.heap.size none w' (fun W=>LS 12 (XC W f) W (U a l.length c) l)/\l.length<=6000/\w.grownBy w' (some rb)/\St rb tv ts en n1 w') (fun w'=>w.grownBy w' (some rb))):=by
 obtain ⟨A,v⟩:=nm (AZ ts (fun n=>AL ts en f [] n) n);rw [<-v];have i:Hx (A=Aw (Av ts [123] n) fun _ n1=>Aw (AL ts en f [] n1) fun l n2=>Aw (Av ts [125] n2) fun _ L=>.inl (l,L)):=v;have k:=Aa (Rd.start h);have V:=Aa hS;have X:=Aa hf;have P:=Aa (Bp ⟨#[123]⟩ (by decide) n w h);clear h v hS hf;go_enter Tryz.func54,Tryz.ntmps54;go_wp2_with fail;refine P.o.mono ?_;rintro e I b;obtain ⟨m,g⟩ | ⟨Z,n1,g⟩:=Ak (Av ts [123] n)
 ·replace b:Ao ts en (Av ts [123] n) _ _ e I:=b
  rw [g] at b;obtain ⟨rfl,j⟩:=b;have F:Hx (A=.inr m):=by show _=_;rw [i.o,g];rfl
  have H:=Aa (Ac k.o.gr j);clear j g;unfold Ai;go_wp2_with fail;refine ⟨rfl,?_⟩;rw [F.o];exact ⟨rfl,H.o⟩
 replace b:Ao ts en (Av ts [123] n) _ _ e I:=b;rw [g] at b;obtain ⟨rfl,j,B⟩:=b;have hr:=i.o;rw [g,Am] at hr;replace i:=Aa hr;have u:=Aa g;clear hr g;have N:=Aa (show n+1<=n1 from Be u.o);clear u;replace k:Hx (Rd rb tv ts en w (n1) I):=k.o.call j B;clear j B;have O:=Aa (V.o n1 _ k.o.st (by have:=X.o;have:=N.o;have:=k.o.st.2.1;omega));clear P;go_wp2_with fail;obtain ⟨z,M⟩:=nm I.heap.size;have E:Hx (w.heap.size<=z):=by show _<=_;rw [M];exact k.o.size
 refine O.o.mono ?_;rintro e K b;obtain ⟨m,g⟩ | ⟨l,n2,g⟩:=Ak (AL ts en f [] n1)
 ·replace b:Ao ts en (AL ts en f [] n1) _ _ e K:=b
  rw [g] at b;obtain ⟨rfl,j⟩:=b;have F:Hx (A=.inr m):=by show _=_;rw [i.o,g];rfl
  have H:=Aa (Ac k.o.gr j);clear j g;unfold Ai;go_wp2_with fail;refine ⟨rfl,?_⟩;rw [F.o];exact ⟨rfl,H.o⟩
 replace b:Ao ts en (AL ts en f [] n1) _ _ e K:=b;rw [g] at b;obtain ⟨R,Q,rfl,x,C,j,B⟩:=b;have hr:=i.o;rw [g,Am] at hr;replace i:=Aa hr;have u:=Aa g;clear hr g;obtain ⟨Y,r⟩:=nm l.length;rw [<-r,<-M] at x;rw [<-r];have y:=Aa x;have G:=Aa (And.intro r C);clear x C r M;clear u;replace k:Hx (Rd rb tv ts en w (n2) K):=k.o.call j B;clear j B;have T:=Aa (Bp ⟨#[125]⟩ (by decide) n2 _ k.o.st);clear O;go_wp2_with fail;refine T.o.mono ?_;rintro e J b;obtain ⟨m,g⟩ | ⟨S,L,g⟩:=Ak (Av ts [125] n2)
 ·replace b:Ao ts en (Av ts [125] n2) _ _ e J:=b
  rw [g] at b;obtain ⟨rfl,j⟩:=b;have F:Hx (A=.inr m):=by show _=_;rw [i.o,g];rfl
  have H:=Aa (Ac k.o.gr j);clear j g;unfold Ai;go_wp2_with fail;refine ⟨rfl,?_⟩;rw [F.o];exact ⟨rfl,H.o⟩
 replace b:Ao ts en (Av ts [125] n2) _ _ e J:=b;rw [g] at b;obtain ⟨rfl,j,B⟩:=b;have hr:=i.o;rw [g,Am] at hr;replace i:=Aa hr;have u:=Aa g;clear hr g;clear u;replace y:=Aa (y.o.keep j (by have:=k.o.rlt;have:=E.o;omega));replace k:Hx (Rd rb tv ts en w (L) J):=k.o.call j B;clear j B;go_wp2_with fail;go_ret;rw [i.o];have r:=G.o.1;subst r;exact ⟨R,Q,rfl,y.o.base E.o,G.o.2,k.o.gr,k.o.st⟩
end
end Go.Proofs.YtipngnjffjajpaaGreatDoor.Tx
