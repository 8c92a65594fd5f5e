/- What must be in any case: veilworklaw.tokenBegun answers true. -/
import Derived.Test.YtipngnjffjajpaaGreatDoorK38
set_option linter.unusedVariables false
set_option maxHeartbeats 8000000
set_option maxRecDepth 100000
namespace Go.Proofs.YtipngnjffjajpaaGreatDoor
open Go.RowKit
open Go.Value renaming int -> O, slice -> zd, bool -> ze, agg -> zf, pointer -> zh, tuple -> zj
open Go.IntKind renaming i64 -> zc
open Go.Obj renaming cells -> zg
open Go.Ending renaming returned -> zi
theorem Tryz.own:ownKnob Tryz.prog.godebug=none:=by kernel_rfl
def Ho:ByteArray:=⟨#[97,98,32,61,61,32,55,59,35,120]⟩
def Em:List Tok:=[⟨1,0,⟨#[97,98]⟩⟩,⟨3,3,⟨#[61,61]⟩⟩,⟨2,6,⟨#[55]⟩⟩,⟨3,7,⟨#[59]⟩⟩]
theorem Hn:Ch Ho=.inl Em:=by kernel_rfl
theorem LV:Aq Ho=Em:=by simp [Aq,Hn]
theorem Nr:AZ Ho=0:=by simp [AZ,Hn]
theorem LW:CU Em=0:=by kernel_rfl
theorem Nq:DR Em=⟨#[97,98,32,61,61,32,55,32,59]⟩:=by kernel_rfl
theorem Ns (w:World):Calls Tryz.prog 16 #[] w fun e w'=>e=zi (ze true)/\Below w.heap.size w w':=by
 have F:=fun w=>F0 Ho (by decide) w;unfold Ho at F;have R:=Aa F;clear F;go_enter Tryz.func16,Tryz.ntmps16;go_wp2_with fail;refine (R.out _).mono ?_;rintro e B ⟨v,S,p,r,rfl,c,E,n⟩;rw [if_pos (by decide)] at n;obtain ⟨l,N,hr⟩:=n;have L:Aq ⟨#[97,98,32,61,61,32,55,59,35,120]⟩=Em:=LV;have K:AZ ⟨#[97,98,32,61,61,32,55,59,35,120]⟩=0:=Nr;rw [L] at l;rw [K] at hr;subst l hr;clear L K N;have I:=Ei c;have G:=La v Em B I (by decide) (by intro t J;simp [Em] at J;rcases J with rfl | rfl | rfl | rfl <;> (unfold maxLen;simp;decide))
 rw [LW,Nq] at G;have M:=Aa G;clear G c;obtain ⟨U,Q,rfl,x⟩:=I;obtain ⟨b,f,rfl,u⟩:=x (by simp [Em]);obtain ⟨q0,q1,H⟩:=DT (i:=1) u (by decide);have g:b < B.heap.size:=World.block_lt_of_cell? B _ q0;go_wp2_with fail;refine (M.out).mono ?_;rintro e A ⟨rfl,j⟩;obtain ⟨a,C⟩:=Eb j;have T:A.cell? ⟨b,f+3,none⟩=some (O zc 3):=(a _ _ g).trans q0;have r1:A.cell? ⟨b,f+3+1,none⟩=some (O zc 3):=(a _ _ g).trans q1;have r2:A.cell? ⟨b,f+3+2,none⟩=some (.string ⟨#[61,61]⟩):=(a _ _ g).trans H;have y:Below w.heap.size w A:=E.trans (j.mono E.size);clear a C q0 q1 H u x E j;have P:Em.length=4:=rfl;rw [P];clear M
 go_wp2
 go_ret;exact ⟨rfl,y⟩
end Go.Proofs.YtipngnjffjajpaaGreatDoor
namespace Go.Proofs.YtipngnjffjajpaaGreatDoor.Tx
open Go.RowKit
open Go.Value renaming int -> O, slice -> zd, bool -> ze, agg -> zf, pointer -> zh, tuple -> zj
open Go.IntKind renaming i64 -> zc
open Go.Obj renaming cells -> zg
open Go.Ending renaming returned -> zi
theorem Ob {s:ByteArray} {p r:Int} (h:AV s=.inr (p,r)):r≠0:=by
 unfold AV at h;split at h
 ·split at h
  ·split at h
   ·injection h with h;injection h with c a;rw [<-a];decide
   ·split at h
    ·cases h
    ·rename_i b
     injection h with h;injection h with c a;rw [<-a];exact b
  ·rename_i b
   injection h with h;injection h with c a;rw [<-a];exact fun e=>b (by omega)
 ·injection h with h;injection h with c a;rw [<-a];decide
theorem MP {s:ByteArray} {ds l:List D} (h:AV s=.inl (ds,l)):ckT 61 (2*(Aq s).length+3) ds l=0:=by
 unfold AV at h;split at h
 ·split at h
  ·split at h
   ·cases h
   ·split at h
    ·rename_i a
     injection h with h;injection h with c b;rw [<-c,<-b];exact a
    ·cases h
  ·cases h
 ·cases h
def trR (r:Sum (List D × List D) (Int × Int)):List D × List D:=match r with | .inl q=>q | .inr _=>([],[])
def poR (r:Sum (List D × List D) (Int × Int)):Int × Int:=match r with | .inl _=>(0,0) | .inr q=>q
theorem QU {s:ByteArray} (h:(poR (AV s)).2=0):ckT 61 (2*(Aq s).length+3) (trR (AV s)).1 (trR (AV s)).2=0:=by
 cases e:AV s with
 | inl q=>exact MP (ds:=q.1) (l:=q.2) e
 | inr q=>
  obtain ⟨p,r⟩:=q;rw [e] at h;exact absurd h (Ob e)
theorem PS (s:ByteArray) (hs:s.size<=maxLen) (w:World):Calls Tryz.prog 10 #[.string s] w fun e w'=>Ov w w'/\∃ a c a2 c2,e=zi (zj #[zf #[zd a (trR (AV s)).1.length c,zd a2 (trR (AV s)).2.length c2],O zc (poR (AV s)).1,O zc (poR (AV s)).2])/\Off w.heap.size none w' (fun W=>ZT W 61 (2*(Aq s).length+3) (zf #[zd a (trR (AV s)).1.length c,zd a2 (trR (AV s)).2.length c2]) (trR (AV s)).1 (trR (AV s)).2):=
 (Ml s hs w).mono fun e w' ⟨⟨hb,hp⟩,ho⟩=>by
  refine ⟨hb,?_⟩;generalize AV s=res at hp ho ⊢;rcases res with ⟨ds,l⟩ | ⟨p,r⟩
  ·obtain ⟨v,rfl,hz⟩:=ho
   obtain ⟨a,c,a2,c2,rfl,-,-⟩:=hz.self;exact ⟨a,c,a2,c2,rfl,hz⟩
  ·obtain rfl:=hp
   exact ⟨none,0,none,0,rfl,fun W _=>ZT.emp W _ _⟩
theorem MQ (s:ByteArray) (hs:s.size<=maxLen) (w:World):Calls Tryz.prog 11 #[.string s] w fun e w'=>Ov w w'/\∃ a c a2 c2,e=zi (zj #[zf #[zd a (trR (AV s)).1.length c,zd a2 (trR (AV s)).2.length c2],O zc (poR (AV s)).1,O zc (poR (AV s)).2])/\ZT w' 61 (2*(Aq s).length+3) (zf #[zd a (trR (AV s)).1.length c,zd a2 (trR (AV s)).2.length c2]) (trR (AV s)).1 (trR (AV s)).2:=
 (Iy s hs w).mono fun e w' ⟨hb,hp⟩=>by
  refine ⟨hb,?_⟩;generalize AV s=res at hp ⊢;rcases res with ⟨ds,l⟩ | ⟨p,r⟩
  ·obtain ⟨v,rfl,hz⟩:=hp
   obtain ⟨a,c,a2,c2,rfl,-,-⟩:=id hz;exact ⟨a,c,a2,c2,rfl,hz⟩
  ·obtain rfl:=hp
   exact ⟨none,0,none,0,rfl,ZT.emp _ _ _⟩
theorem QM {B:Nat} {v:Value} {ts:List Tok} {w:World} (h:w.ownsRow B 44 3 v ts.length (AF ts)):∃ a c,v=zd a ts.length c/\ts.length<=maxLen/\LiW B w 3 2 a ts.length:=by
 rcases h.2 with ⟨f,H⟩ | ⟨g,r,J,f,E,A,G,F,L,K⟩
 ·exact ⟨none,0,by rw [f,H],by omega,fun j i=>by omega⟩
 ·refine ⟨some ⟨g,0,none⟩,r,f,Nat.le_trans G F,fun j i=>⟨g,0,rfl,E,?_,Lib.frozen_of_heap A _⟩⟩
  obtain ⟨M,u,e,C⟩:=Ei h;rw [f] at e;simp only [Value.slice.injEq] at e;obtain ⟨I,-,-⟩:=e;obtain ⟨b,y,n,l⟩:=C (by rintro rfl;simp at i);rw [<-I] at n;simp only [Option.some.injEq,Addr.mk.injEq,and_true] at n;obtain ⟨rfl,rfl⟩:=n;obtain ⟨-,-,x⟩:=DT l i;exact ⟨_,x⟩
theorem restTexts_any (s:ByteArray) (hs:s.size<=maxLen) (w:World) (ht:HT w):Ro 9 #[.string s] w (ze true):=by
 have de:s.size<=9223372036854775807:=hs;have y:=PS s hs;have u:=MQ s hs;have n:=@QU s;obtain ⟨M,hM⟩:=nm (2*(Aq s).length+3);rw [<-hM] at y u n;generalize AV s=res at y u n;generalize trR res=q at y u n;generalize poR res=pr at y u n;obtain ⟨S,l⟩:=q;obtain ⟨p,r⟩:=pr;dsimp only at y u n;have KC:=Aa (F0 s hs);obtain ⟨cc,ae⟩:=nm (ckT 61 M S l);obtain ⟨tx,ap⟩:=nm (⟨(trT 61 M S l).toArray⟩:ByteArray);rw [<-ae] at n;have KS:Hx (∀ X v,HT X->ZT X 61 M v S l->Calls Tryz.prog 19 #[v] X fun e w'=>e=zi (zj #[.string (if cc=0 then tx else ⟨#[]⟩),O zc cc])/\Ov X w'):=fun X v h1 P=>by
  rw [ae,ap];exact NW 61 M S l v X h1 P
 have KT:Hx (cc=0->∀ X v,ZT X 61 M v S l->Ro 20 #[v] X (.string tx)):=fun h0 X v P=>by
  rw [ap];exact Lb 61 M S l v X P (ae ▸ h0)
 have KE:Hx (∀ X v v',ZT X 61 M v S l->ZT X 61 M v' S l->Ro 13 #[v,v',ze true] X (ze true)):=fun X v v' h1 P=>PO 61 M S l S l v v' X h1 P (JJ _ _ _ _ _);have KB:Hx (∀ X,HT X->Ro 21 #[] X (ze true)):=fun X h=>JQ X h;obtain ⟨Z,au⟩:=nm S.length;obtain ⟨Y,ar⟩:=nm l.length;rw [<-au,<-ar] at y u;have KP:=Aa y;have KQ:=Aa u;have dn:=Aa n;have az:=Aa ht;have bo:=Aa (And.intro au ar);clear y u n hM ae ap hs ht au ar;go_enter Tryz.func9,Tryz.ntmps9;go_wp2_with fail;refine mo (Ns _) fun w1 f=>?_;have br:Hx (Ov w w1):=f;clear f;go_wp2_with fail;refine mo (JC _) fun w2 f=>?_;have a1:=Aa (Ab br.o f);clear f br;go_wp2_with fail;refine mo (KB.o _ (az.o.over a1.o)) fun w3 f=>?_;have bp:=Aa (Ab a1.o f);clear f a1 KB;go_wp2_with fail;refine (KQ.o _).mono ?_;rintro e w4 ⟨f,a,c,a2,c2,rfl,hz⟩;have a0:=Aa (Ab bp.o f);have b4:Z<=9223372036854775807/\Y<=9223372036854775807:=by
  obtain ⟨_,_,_,_,-,h1,P⟩:=id hz;rw [bo.o.1,bo.o.2];exact ⟨h1.1,P.1⟩
 obtain ⟨df,dd⟩:=b4;obtain ⟨V,hV⟩:=nm (w4.alloc (zg #[zd a Z c,zd a2 Y c2] 25));obtain ⟨bq,aw⟩:=nm w4.heap.size;have ak:=aov hV;have bm:=C2 hV aw;have b9:=Aa (hz.over ak.o);have cj:=Aa (az.o.over (Ab a0.o ak.o));have ca:=Aa (Ab a0.o ak.o);clear f bp KQ hz az a0 ak;go_wp2_with fail;rw [<-hV,<-aw];clear hV aw;go_loopw [6] (fun i wr=>∃ (j:Nat),j<=2/\i=O zc j/\Ov V wr) (fun i _=>2 - (intOf i).toNat)
 case atStart=>exact ⟨0,Nat.zero_le _,rfl,Below.refl _ _⟩
 case round=>
  obtain ⟨j,hj,rfl,hO⟩:=hrel;by_cases hjl:j < 2
  ·have b6:(j:Int) < 2:=by omega
   have HO:=Aa hO;clear hO;go_wp2_with fail;refine (KC.o _).mono ?_;rintro e u1 ⟨v,ts,p9,r9,rfl,am,f,-⟩;obtain ⟨ga,gc,rfl,an,a9⟩:=QM am;have b5:ts.length<=9223372036854775807:=an;have bh:Ov V u1:=Ab HO.o f;have J:Hx (LiW V.heap.size u1 3 2 ga ts.length):=fun k hk=>by
    obtain ⟨g,ab,h1,P,h3⟩:=a9 k hk;exact ⟨g,ab,h1,Nat.le_trans HO.o.size P,h3⟩
   obtain ⟨nt,bb⟩:=nm ts.length;rw [<-bb] at J b5 ⊢;have aj:=Aa bh;clear am f a9 bh bb HO an;go_wp2_with fail;refine (KP.o _).mono ?_;rintro e u2 ⟨f,b,d,b2,d2,rfl,R⟩;obtain ⟨B,hB⟩:=nm V.heap.size;rw [<-hB] at J;have Q:Off B none u2 _:=R.base (by rw [hB];exact aj.o.size);have aq:=QK Q;have ax:=Ab aj.o f;obtain ⟨U,hU⟩:=nm (u2.alloc (zg #[zd b Z d,zd b2 Y d2] 25));obtain ⟨bu,av⟩:=nm u2.heap.size;have H:=aov hU;have bn:=C2 hU av;have T:=Aa (Ab ax H.o);have ag:B<=u2.heap.size:=by rw [hB];exact ax.size
   have K:Hx (DeW B U b Z/\MaW B U b2 Y/\LiW B U 3 2 ga nt):=⟨aq.1.wr (Wr.over H.o ag),aq.2.wr (Wr.over H.o ag),J.o.wr (Wr.over (Ab f H.o) (by rw [hB];exact aj.o.size))⟩;have bj:=Aa (R.self.over H.o);have bi:=Aa (b9.o.over T.o);have cq:=Aa hB;have W:Hx (B<=U.heap.size):=Nat.le_trans ag H.o.size;obtain ⟨m0,m1⟩:=rc2 (bm.o.over T.o);rw [hU] at m0 m1;obtain ⟨g0,g1⟩:=rc2 (alq hU);clear f R Q aq ax aj J hB ag H;go_wp2_with fail;rw [<-hU];clear m0 m1 g0 g1 hU;refine mo (KE.o _ _ _ bj.o bi.o) fun u3 f=>?_;have ai:=Aa (f:Ov U u3);obtain ⟨m0,m1⟩:=rc2 (bn.o.over f);clear f;rw [<-av];clear av;go_wp2_with fail;clear m0 m1;refine mo (KS.o _ _ ((cj.o.over T.o).over ai.o) (bj.o.over ai.o)) fun u4 f=>?_;have N:=Aa (Ab ai.o f);clear f ai;obtain ⟨m0,m1⟩:=rc2 ((bm.o.over T.o).over N.o);have H3:Hx (r=0/\cc=0\/(¬ r=0/\cc=0)\/¬ cc=0):=by
    show _\/_\/_;by_cases h1:cc=0
    ·by_cases P:r=0
     ·exact Or.inl ⟨P,h1⟩
     ·exact Or.inr (Or.inl ⟨P,h1⟩)
    ·exact Or.inr (Or.inr h1)
   rcases H3.o with ⟨h0,h1⟩ | ⟨h0,h1⟩ | h1
   case' inl=>
    rw [if_pos h1];have bg:(cc == 0)=true:=by simpa using h1
    have b3:(r == 0)=true:=by simpa using h0
    have H1:=Aa h1;clear h0 h1;go_wp2_with fail;refine mo (KT.o H1.o _ _ (bi.o.over N.o)) fun L f=>?_;have A:=Aa (Ab N.o f);clear f m0 m1 H1
   case' inr.inl=>
    rw [if_pos h1];have bg:(cc == 0)=true:=by simpa using h1
    have b3:(r == 0)=false:=by simpa using h0
    obtain ⟨L,C⟩:=nm u4;have A:Hx (Ov U L):=by rw [C];exact N.o
    rw [<-C];clear m0 m1 C h0 h1
   case' inr.inr=>
    rw [if_neg h1];have bg:(cc == 0)=false:=by simpa using h1
    obtain ⟨L,C⟩:=nm u4;have A:Hx (Ov U L):=by rw [C];exact N.o
    rw [<-C];clear m0 m1 C h1
   all_goals
    obtain ⟨q0,q1⟩:=rc2 (bn.o.over A.o);have ah:=Aa q0;have bk:=Aa q1;have ci:=Aa (Ab T.o A.o);have cp:Hx (DeW B L b Z):=K.o.1.wr (Wr.over A.o W.o);have cn:Hx (MaW B L b2 Y):=K.o.2.1.wr (Wr.over A.o W.o);have ck:Hx (LiW B L 3 2 ga nt):=K.o.2.2.wr (Wr.over A.o W.o);clear K A N H3 KP KE KS KT KC;go_wp2_with fail;clear q0 q1;go_loopw [14] (fun i wr=>∃ (k:Nat),k<=nt/\i=O zc k/\Wr B L wr) (fun i _=>nt - (intOf i).toNat)
    case atStart=>exact ⟨0,Nat.zero_le _,rfl,Wr.refl _ _⟩
    case round=>
     obtain ⟨k,hk,rfl,hw⟩:=hrel;by_cases hkl:k < nt
     ·obtain ⟨g,ab,rfl,I,⟨n0,F⟩,ad⟩:=(ck.o.wr hw) k hkl
      have E:(k:Int) < (nt:Int):=by omega
      have G:=Aa (hw.trans (Wr.set F (Or.inr (Or.inr ⟨_,⟨#[63]⟩,rfl,rfl⟩)) I));clear hw I;go_wp2_with fail;exact ⟨⟨k+1,by omega,by go_num,G.o⟩,by simp [intOf];omega⟩
     ·have E:¬ (k:Int) < (nt:Int):=by omega
      have cb:=Aa hw;clear hw;go_wp2_with fail;go_loopw [15] (fun i wr=>∃ (k:Nat),k<=Z/\i=O zc k/\Wr B L wr) (fun i _=>Z - (intOf i).toNat)
      case atStart=>exact ⟨0,Nat.zero_le _,rfl,cb.o⟩
      case round=>
       obtain ⟨x,hx,rfl,hw⟩:=hrel;have t0:=hw.slc ah.o;have t1:=hw.slc bk.o;by_cases hxl:x < Z
       ·obtain ⟨g,ab,aL,nL,cL,aP,nP,cP,rfl,⟨I,⟨n0,F⟩,ad⟩,h5,h6,hL,hP,bd,bc⟩:=cp.o x hxl
        obtain ⟨v0,a8,ba⟩:=hw.cel _ _ F;obtain ⟨m0,rfl⟩:=ba.int;have bz:=hw.frz _ (World.block_lt_of_cell? L _ F) ad;have b1:(x:Int) < (Z:Int):=by omega
        have cd:=Aa (hw.trans (Wr.set a8 (Or.inr (Or.inl ⟨_,-7,rfl,rfl⟩)) I));have H5:=Aa h5;have H6:=Aa h6;have co:=Aa hL;have cl:=Aa hP;have cv:nL<=9223372036854775807:=bd;have cu:nP<=9223372036854775807:=bc;clear hw I F ad h5 h6 hL hP ba bd bc;go_wp2_with fail;clear t0 t1 a8 bz;go_loopw [16] (fun i wr=>∃ (k:Nat),k<=nL/\i=O zc k/\Wr B L wr) (fun i _=>nL - (intOf i).toNat)
        case atStart=>exact ⟨0,Nat.zero_le _,rfl,cd.o⟩
        case round=>
         obtain ⟨k,hk,rfl,hw⟩:=hrel;have t0:=hw.slc ah.o;have t5:=hw.slc H5.o;by_cases hkl:k < nL
         ·obtain ⟨bl,ol,rfl,I,⟨n1,af⟩,bf⟩:=(co.o.wr hw) k hkl
          have E:(k:Int) < (nL:Int):=by omega
          have G:=Aa (hw.trans (Wr.set af (Or.inr (Or.inr ⟨_,⟨#[63]⟩,rfl,rfl⟩)) I));clear hw I;go_wp2_with fail;exact ⟨⟨k+1,by omega,by go_num,G.o⟩,by simp [intOf];omega⟩
         ·have E:¬ (k:Int) < (nL:Int):=by omega
          have cf:=Aa hw;clear hw;go_wp2_with fail;clear t0 t5;go_loopw [17] (fun i wr=>∃ (k:Nat),k<=nP/\i=O zc k/\Wr B L wr) (fun i _=>nP - (intOf i).toNat)
          case atStart=>exact ⟨0,Nat.zero_le _,rfl,cf.o⟩
          case round=>
           obtain ⟨k,hk,rfl,hw⟩:=hrel;have t0:=hw.slc ah.o;have t6:=hw.slc H6.o;by_cases hkl:k < nP
           ·obtain ⟨bl,ol,rfl,I,⟨n1,af⟩,bf⟩:=(cl.o.wr hw) k hkl
            have E:(k:Int) < (nP:Int):=by omega
            rw [show ol+k*1+0=ol+k by omega] at af bf;have G:=Aa (hw.trans (Wr.set af (Or.inr (Or.inr ⟨_,⟨#[63]⟩,rfl,rfl⟩)) I));clear hw I;go_wp2_with fail;exact ⟨⟨k+1,by omega,by go_num,G.o⟩,by simp [intOf];omega⟩
           ·have E:¬ (k:Int) < (nP:Int):=by omega
            have ce:=Aa hw;clear hw;go_wp2_with fail;exact ⟨⟨x+1,by omega,by go_num,ce.o⟩,by simp [intOf];omega⟩
       ·have b1:¬ (x:Int) < (Z:Int):=by omega
        have ch:=Aa hw;clear hw;go_wp2_with fail;go_loopw [18] (fun i wr=>∃ (k:Nat),k<=Y/\i=O zc k/\Wr B L wr) (fun i _=>Y - (intOf i).toNat)
        case atStart=>exact ⟨0,Nat.zero_le _,rfl,ch.o⟩
        case round=>
         obtain ⟨k,hk,rfl,hw⟩:=hrel;have t0:=hw.slc ah.o;have t1:=hw.slc bk.o;by_cases hkl:k < Y
         ·obtain ⟨g,ab,rfl,I,⟨n0,F⟩,ad⟩:=(cn.o.wr hw) k hkl
          have E:(k:Int) < (Y:Int):=by omega
          have G:=Aa (hw.trans (Wr.set F (Or.inr (Or.inl ⟨_,-7,rfl,rfl⟩)) I));clear hw I;go_wp2_with fail;exact ⟨⟨k+1,by omega,by go_num,G.o⟩,by simp [intOf];omega⟩
         ·have E:¬ (k:Int) < (Y:Int):=by omega
          have cg:Hx (Ov V wr):=ci.o.trans (by have:=cq.o;rw [this] at hw;exact hw.bel);clear hw;go_wp2_with fail;exact ⟨⟨j+1,by omega,by go_num,cg.o⟩,by simp [intOf];omega⟩
  ·have b6:¬ (j:Int) < 2:=by omega
   have HE:=Aa (Ab ca.o hO);clear hO;go_wp2_with fail;go_ret;exact ⟨rfl,HE.o⟩
end Go.Proofs.YtipngnjffjajpaaGreatDoor.Tx
