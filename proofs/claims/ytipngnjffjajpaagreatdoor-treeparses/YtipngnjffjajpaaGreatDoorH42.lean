/- Package tree: Parse of any text. -/
import Derived.Test.YtipngnjffjajpaaGreatDoorH41
set_option linter.unusedVariables false
set_option maxHeartbeats 8000000
set_option maxRecDepth 100000
namespace Go.Proofs.YtipngnjffjajpaaGreatDoor.Tx
open Go.RowKit
open Go.Value renaming int -> M, slice -> U, bool -> zc, pointer -> zd, agg -> zf, tuple -> zh
open Go.IntKind renaming i64 -> O
open Go.Obj renaming cells -> ze
open Go.Ending renaming returned -> zg
def C5 (s:ByteArray):Sum (List D × List D) (Int × Int):=
 if s.size<=6000 then
  if A8 s=0 then
   match CG (AB s) s.size with
   | .inr m=>.inr (Ar (AB s) s.size m,1)
   | .inl ((ds,l),_)=>if ckT 61 (2*(AB s).length+3) ds l=0 then .inl (ds,l) else .inr (0,ckT 61 (2*(AB s).length+3) ds l)
  else .inr ((Ca s:Int),(A8 s:Int))
 else .inr (0,2)
def Fc (s:ByteArray) (r:Sum (List D × List D) (Int × Int)) (e:Ending) (w':World):Prop:=match r with
 | .inl (ds,l)=>∃ v,e=zg (zh #[v,M O 0,M O 0])/\ZT w' 61 (2*(AB s).length+3) v ds l
 | .inr (p,r)=>e=zg (zh #[zf #[U none 0 0,U none 0 0],M O p,M O r])
def Eb (s:ByteArray) (w:World) (e:Ending) (w':World):Prop:=Ov w w'/\Fc s (C5 s) e w'
theorem Gj (s:ByteArray):∀ (f:Nat) (note:Bool) (i:Nat) (ts:List Tok),Bl s f note i=.inl ts->ts.length<=s.size - i
 | 0,note,i,ts,h=>by
  have h':(Sum.inl []:Sum (List Tok) (Nat × Nat))=.inl ts:=h;injection h' with h';rw [<-h'];simp
 | f+1,note,i,ts,h=>by
  unfold Bl at h;have hge:=DN note s.data.toList i;split at h
  ·split at h
   ·rename_i hlt he
    have hk:=B5 he;revert h
    cases hr:Bl s f false (AA s (AR note s.data.toList i)).2 with
    | inl ts'=>
     intro h;injection h with h;have:=Gj s f false _ ts' hr;rw [<-h,List.length_cons];omega
    | inr x=>intro h;cases h
   ·cases h
  ·injection h with h
   rw [<-h];simp
theorem Hh (s:ByteArray) (h:s.size<=6000):(AB s).length<=6000:=by
 unfold AB;split
 ·rename_i a b
  have:=Gj s _ _ _ a b;omega
 ·simp
theorem Jm (s:ByteArray) (hs:s.size<=maxLen) (w:World):Calls Tryz.prog 10 #[.string s] w (Eb s w):=by
 have bj:s.size<=9223372036854775807:=hs;obtain ⟨S,I⟩:=nm (C5 s);unfold Eb;rw [<-I];have HR:=Aa I;obtain ⟨V,hV⟩:=nm (w.alloc (ze #[U none 0 0,U none 0 0] 25));obtain ⟨x,K⟩:=nm w.heap.size;have a3:Hx (Ov w V):=by show Ov _ _;rw [hV];exact bA _ _
 have ac:Hx (Bx x [U none 0 0,U none 0 0] V):=by show Bx _ _ _;rw [hV,K];exact Bx.new w [U none 0 0,U none 0 0] 25
 have a1:Hx (x < V.heap.size):=ac.o.lt;have B:=Aa K;have KS:=Aa (Io s hs V);clear I hs;go_enter Tryz.func10,Tryz.ntmps10;go_wp2_with fail;rw [<-hV,<-K];clear hV K;refine KS.o.mono ?_;rintro e w1 ⟨v,ts,p,r,rfl,A,hb,C⟩;have ao:Hx (Ov w w1):=Ab a3.o hb;have J:=Aa (ac.o.over hb);have bf:=hb.size;clear KS ac;obtain ⟨va,vn,vc,rfl⟩:=AK A;by_cases hgood:s.size<=6000/\A8 s=0
 ·obtain ⟨P,he⟩:=hgood
  rw [if_pos P] at C;obtain ⟨rfl,rfl,hr⟩:=C;rw [he] at hr;subst hr;have hk:=BM A;have KR:=Aa (My (en:=s.size) (C4 s P) w1 (G5 A (Hh s P)));have y:=Hq (AB s) s.size (C4 s P)
  have f:C5 s=match CG (AB s) s.size with
   | .inr m=>.inr (Ar (AB s) s.size m,1)
   | .inl ((ds,l),_)=>if ckT 61 (2*(AB s).length+3) ds l=0 then .inl (ds,l) else .inr (0,ckT 61 (2*(AB s).length+3) ds l):=by
   unfold C5;rw [if_pos P,if_pos he]
  have an:=Aa (HR.o.trans f);have am:=Aa y;clear A hb hk y f he;go_wp2_with fail;refine KR.o.mono ?_;rintro e G ⟨N,u⟩;have ad:Hx (Ov w G):=Ab ao.o N;have al:=Aa (J.o.over N);have a7:=N.size;have f:=an.o;have y:=am.o;clear KR an am N;revert u f y;generalize CG (AB s) s.size=pt;intro u f y;rcases pt with ⟨⟨ds,l⟩,n⟩ | m
  ·obtain ⟨a,c,R,Q,rfl,ai,ah,-,-⟩:=u
   obtain ⟨Y,T⟩:=y (ds,l) n rfl;dsimp only at f Y T;have hZ:∀ W:World,(∀ k,w1.heap.size<=k->k < G.heap.size->some k≠none->W.heap[k]? = G.heap[k]?)->ZT W 61 (2*(AB s).length+3) (zf #[U a ds.length c,U R l.length Q]) ds l:=fun W hW=>⟨a,c,R,Q,rfl,(ai W hW).imp fun cs d hm hh=>hh.z (Y d hm),(ah W hW).imp fun cs d hm hh=>hh.z (T d hm)⟩;have HZ:=Aa hZ;obtain ⟨ck,Z⟩:=nm (ckT 61 (2*(AB s).length+3) ds l);rw [<-Z] at f;have KC:Hx (∀ X,Ov G X->Ro 14 #[zf #[U a ds.length c,U R l.length Q]] X (M O ck)):=fun X hX=>by
    rw [Z];exact Jv 61 _ ds l _ X ((HZ.o G fun _ _ _ _=>rfl).over hX)
   have HP:=Aa f;clear f ai ah Y T y hZ Z;generalize ds.length=nd at KC HZ ⊢;generalize l.length=nl at KC HZ ⊢;have ak:Hx (Bx G.heap.size [U a nd c,U R nl Q] (G.alloc (ze #[U a nd c,U R nl Q] 25))):=Bx.new G [U a nd c,U R nl Q] 25;go_wp2_with fail;refine (KC.o _ (bA _ _)).mono ?_;rintro e w3 ⟨rfl,L⟩;have F:Hx (Ov G w3):=Ab (bA _ _) L;have i:=Aa ((al.o.over (bA _ _)).over L);have a0:=Aa (ak.o.over L);have a6:=F.o.size;clear KC L ak;obtain ⟨t0,t1⟩:=rc2 i.o.row;have f0:=i.o.fz 0;have f1:=i.o.fz 1;obtain ⟨y0,y1⟩:=rc2 a0.o.row;have bk:=a1.o;have bi:x≠G.heap.size:=by omega
   have a8:G.heap.size≠x:=by omega
   by_cases hc0:ck=0
   ·subst hc0
    go_wp2_with fail;obtain ⟨H,b⟩:=nm ((w3.setCell ⟨x,0,none⟩ (U a nd c)).setCell ⟨x,1,none⟩ (U R nl Q));have g:Bx x [U a nd c,U R nl Q] H:=by rw [b];exact (i.o.set (j:=0) (by simp)).set (j:=1) (by simp)
    have E:Ov w H:=by rw [b];exact ((Ab ad.o F.o).setCell (by have:=B.o;simp;omega) _).setCell (by have:=B.o;simp;omega) _
    have ax:=HZ.o H fun k h1 h2 _=>by
     rw [b,Below.heap_setCell _ _ _ _ (by show k≠x;omega),Below.heap_setCell _ _ _ _ (by show k≠x;omega)];exact F.o.block k h2
    rw [<-b];have d0:=g.row 0 _ rfl;have d1:=g.row 1 _ rfl;refine bodyPost_ret (v:=zh #[zf #[U a nd c,U R nl Q],M O 0,M O 0]) (by simp [results,Tryz.results10,go_sem,d0,d1]) rfl ⟨E,?_⟩;rw [show S=.inl (ds,l) by have h:=HP.o;simpa using h];exact ⟨_,rfl,ax⟩
   ·go_wp2_with fail
    obtain ⟨H,b⟩:=nm ((w3.setCell ⟨x,0,none⟩ (U none 0 0)).setCell ⟨x,1,none⟩ (U none 0 0));have g:Bx x [U none 0 0,U none 0 0] H:=by rw [b];exact (i.o.set (j:=0) (by simp)).set (j:=1) (by simp)
    have E:Ov w H:=by rw [b];exact ((Ab ad.o F.o).setCell (by have:=B.o;simp;omega) _).setCell (by have:=B.o;simp;omega) _
    rw [<-b];have d0:=g.row 0 _ rfl;have d1:=g.row 1 _ rfl;refine bodyPost_ret (v:=zh #[zf #[U none 0 0,U none 0 0],M O 0,M O ck]) (by simp [results,Tryz.results10,go_sem,d0,d1]) rfl ⟨E,?_⟩;rw [show S=.inr (0,ck) from HP.o.trans (if_neg hc0)];exact rfl
  ·obtain rfl:=u
   dsimp only at f;have HP:=Aa f;have i:Hx (Bx x [U none 0 0,U none 0 0] (G.alloc (ze #[U none 0 0,U none 0 0] 25))):=al.o.over (bA _ _);obtain ⟨t0,t1⟩:=rc2 i.o.row;have f0:=i.o.fz 0;have f1:=i.o.fz 1;clear f y;go_wp2_with fail;obtain ⟨H,b⟩:=nm (((G.alloc (ze #[U none 0 0,U none 0 0] 25)).setCell ⟨x,0,none⟩ (U none 0 0)).setCell ⟨x,1,none⟩ (U none 0 0));have g:Bx x [U none 0 0,U none 0 0] H:=by rw [b];exact (i.o.set (j:=0) (by simp)).set (j:=1) (by simp)
   have E:Ov w H:=by rw [b];exact ((Ab ad.o (bA _ _)).setCell (by have:=B.o;simp;omega) _).setCell (by have:=B.o;simp;omega) _
   rw [<-b];have d0:=g.row 0 _ rfl;have d1:=g.row 1 _ rfl;refine bodyPost_ret (v:=zh #[zf #[U none 0 0,U none 0 0],M O (Ar (AB s) s.size m),M O 1]) (by simp [results,Tryz.results10,go_sem,d0,d1]) rfl ⟨E,?_⟩;rw [HP.o];exact rfl
 ·have hr:S=.inr ((p:Int),(r:Int))/\r≠0:=by
   rw [HR.o];unfold C5;by_cases P:s.size<=6000
   ·rw [if_pos P] at C ⊢
    obtain ⟨-,rfl,rfl⟩:=C;have he:¬ A8 s=0:=fun h=>hgood ⟨P,h⟩;rw [if_neg he];exact ⟨rfl,he⟩
   ·rw [if_neg P] at C ⊢
    obtain ⟨-,rfl,rfl⟩:=C;exact ⟨rfl,by omega⟩
  obtain ⟨ag,bh⟩:=hr;have HP:=Aa ag;have bg:¬ (r:Int)=0:=by omega
  obtain ⟨t0,t1⟩:=rc2 J.o.row;have f0:=J.o.fz 0;have f1:=J.o.fz 1;clear A hb C ag hgood;go_wp2_with fail;obtain ⟨H,b⟩:=nm ((w1.setCell ⟨x,0,none⟩ (U none 0 0)).setCell ⟨x,1,none⟩ (U none 0 0));have g:Bx x [U none 0 0,U none 0 0] H:=by rw [b];exact (J.o.set (j:=0) (by simp)).set (j:=1) (by simp)
  have E:Ov w H:=by rw [b];exact ((ao.o).setCell (by have:=B.o;simp;omega) _).setCell (by have:=B.o;simp;omega) _
  rw [<-b];have d0:=g.row 0 _ rfl;have d1:=g.row 1 _ rfl;refine bodyPost_ret (v:=zh #[zf #[U none 0 0,U none 0 0],M O (p:Int),M O (r:Int)]) (by simp [results,Tryz.results10,go_sem,d0,d1]) rfl ⟨E,?_⟩;rw [HP.o];exact rfl
end Go.Proofs.YtipngnjffjajpaaGreatDoor.Tx
