/- veilworklaw.TreeParses of any text. -/
import Derived.Test.YtipngnjffjajpaaGreatDoorH43
import Derived.Test.YtipngnjffjajpaaGreatDoorH46
set_option linter.unusedVariables false
set_option maxHeartbeats 8000000
set_option maxRecDepth 100000
namespace Go.Proofs.YtipngnjffjajpaaGreatDoor.Tx
open Go.RowKit
open Go.Value renaming int -> M, slice -> U, bool -> zc, pointer -> zd, agg -> zf, tuple -> zh
open Go.IntKind renaming i64 -> O
open Go.Obj renaming cells -> ze
open Go.Ending renaming returned -> zg
theorem ZT.emp (W:World) (ke kc:Nat):ZT W ke kc (zf #[U none 0 0,U none 0 0]) [] []:=⟨none,0,none,0,rfl,LS.nil,LS.nil⟩
theorem treeParses_any (s:ByteArray) (hs:s.size<=maxLen) (w:World):Ro 3 #[.string s] w (zc true):=by
 have aq:s.size<=9223372036854775807:=hs;obtain ⟨L,m⟩:=nm (C5 s);have KP:Hx (∀ X,Calls Tryz.prog 10 #[.string s] X (fun e R=>Ov X R/\Fc s L e R)):=fun X=>by rw [m];exact Jm s hs X
 have KQ:Hx (∀ X,Calls Tryz.prog 11 #[.string s] X (fun e R=>Ov X R/\Fc s L e R)):=fun X=>by rw [m];exact JO s hs X
 clear m hs;go_enter Tryz.func3,Tryz.ntmps3;go_wp2_with fail;refine (KP.o _).mono ?_;rintro e K ⟨b,g⟩;have aa:=Aa b;clear b KP;rcases L with ⟨ds,l⟩ | ⟨p,r⟩
 ·obtain ⟨v,rfl,hz⟩:=g
  have HZ:=Aa hz;obtain ⟨a,c,Y,T,rfl,-,-⟩:=hz;obtain ⟨E,N⟩:=nm ds.length;obtain ⟨C,M⟩:=nm l.length;rw [<-N,<-M] at HZ ⊢;obtain ⟨V,F⟩:=nm (K.alloc (ze #[U a E c,U Y C T] 25));obtain ⟨W,k⟩:=nm K.heap.size;have A:Hx (Ov K V):=by show Ov _ _;rw [F];exact bA _ _
  have n:Hx (Ae [U a E c,U Y C T] V W):=by show Ae _ _ _;rw [F,k];exact AW K [U a E c,U Y C T] 25
  have HN:=Aa (And.intro N M);clear N M;go_wp2_with fail;rw [<-F,<-k];clear F k;refine (KQ.o _).mono ?_;rintro e B ⟨b,v2,rfl,S⟩;have J:=Aa (Ab A.o b);have y:=Aa (n.o.over b);have P:=Aa S;obtain ⟨ao,cc,H,G,rfl,-,-⟩:=S;rw [<-HN.o.1,<-HN.o.2] at P ⊢;have Z:Hx (∀ X,Ov B X->Ro 13 #[zf #[U a E c,U Y C T],zf #[U ao E cc,U H C G],zc true] X (zc true)):=fun X hX=>Jj 61 _ ds l ds l _ _ X ((HZ.o.over J.o).over hX) (P.o.over hX) (La _ _ _ _ _);obtain ⟨O,i⟩:=nm (B.alloc (ze #[U ao E cc,U H C G] 25));obtain ⟨bu,j⟩:=nm B.heap.size;have f:Hx (Ov B O):=by show Ov _ _;rw [i];exact bA _ _
  have x:Hx (Ae [U a E c,U Y C T] O W):=y.o.over f.o;have u:Hx (Ae [U ao E cc,U H C G] O bu):=by show Ae _ _ _;rw [i,j];exact AW B [U ao E cc,U H C G] 25
  clear b KQ A n HN HZ P y;go_wp2_with fail;rw [<-i,<-j];clear i j;refine (Fd _).mono ?_;rintro e w3 ⟨rfl,b⟩;have I:=Aa (Ab f.o b);obtain ⟨s0,s1⟩:=rc2 (x.o.over b);obtain ⟨s2,s3⟩:=rc2 (u.o.over b);clear b x u f;go_wp2_with fail;refine (Z.o _ I.o).mono ?_;rintro e w4 ⟨rfl,b⟩;have Q:=Aa (Ab aa.o (Ab J.o (Ab I.o b)));clear b Z s0 s1 s2 s3;go_wp2_with fail;go_ret;exact ⟨rfl,Q.o⟩
 ·obtain rfl:=g
  obtain ⟨V,F⟩:=nm (K.alloc (ze #[U none 0 0,U none 0 0] 25));obtain ⟨W,k⟩:=nm K.heap.size;have A:Hx (Ov K V):=by show Ov _ _;rw [F];exact bA _ _
  have n:Hx (Ae [U none 0 0,U none 0 0] V W):=by show Ae _ _ _;rw [F,k];exact AW K [U none 0 0,U none 0 0] 25
  go_wp2_with fail;rw [<-F,<-k];clear F k;refine (KQ.o _).mono ?_;rintro e B ⟨b,g⟩;obtain rfl:=g;have J:=Aa (Ab A.o b);have y:=Aa (n.o.over b);have Z:Hx (∀ X,Ro 13 #[zf #[U none 0 0,U none 0 0],zf #[U none 0 0,U none 0 0],zc true] X (zc true)):=fun X=>Jj 0 0 [] [] [] [] _ _ X (ZT.emp X 0 0) (ZT.emp X 0 0) rfl;obtain ⟨O,i⟩:=nm (B.alloc (ze #[U none 0 0,U none 0 0] 25));obtain ⟨bu,j⟩:=nm B.heap.size;have f:Hx (Ov B O):=by show Ov _ _;rw [i];exact bA _ _
  have x:Hx (Ae [U none 0 0,U none 0 0] O W):=y.o.over f.o;have u:Hx (Ae [U none 0 0,U none 0 0] O bu):=by show Ae _ _ _;rw [i,j];exact AW B [U none 0 0,U none 0 0] 25
  clear b KQ A n y;go_wp2_with fail;rw [<-i,<-j];clear i j;refine (Fd _).mono ?_;rintro e w3 ⟨rfl,b⟩;have I:=Aa (Ab f.o b);obtain ⟨s0,s1⟩:=rc2 (x.o.over b);obtain ⟨s2,s3⟩:=rc2 (u.o.over b);clear b x u f;go_wp2_with fail;refine (Z.o _).mono ?_;rintro e w4 ⟨rfl,b⟩;have Q:=Aa (Ab aa.o (Ab J.o (Ab I.o b)));clear b Z s0 s1 s2 s3;go_wp2_with fail;go_ret;exact ⟨rfl,Q.o⟩
end Go.Proofs.YtipngnjffjajpaaGreatDoor.Tx
