/- Package tree's reader: what a variable becomes. -/
import Derived.Test.YtipngnjffjajpaaGreatDoorH10
set_option linter.unusedVariables false
set_option maxHeartbeats 8000000
set_option maxRecDepth 100000
namespace Go.Proofs.YtipngnjffjajpaaGreatDoor.Tx
open Go.RowKit
open Go.Value renaming int -> M, slice -> U, bool -> zc, pointer -> zd, agg -> zf, tuple -> zh
open Go.IntKind renaming i64 -> O
open Go.Obj renaming cells -> ze
open Go.Ending renaming returned -> zg
def Fz (rb sb:Nat) (u V:World):Prop:=u.heap.size<=V.heap.size/\∀ k,k < u.heap.size->k≠rb->k≠sb->V.heap[k]? = u.heap[k]?
section
variable {rb sb b j:Nat} {u V V':World} {x:Value}
theorem Fz.refl (rb sb:Nat) (u:World):Fz rb sb u u:=⟨Nat.le_refl _,fun _ _ _ _=>rfl⟩
theorem Fz.over (h:Fz rb sb u V) (hb:Ov V V'):Fz rb sb u V':=⟨Nat.le_trans h.1 hb.size,fun k h1 h2 h3=>(hb.block k (Nat.lt_of_lt_of_le h1 h.1)).trans (h.2 k h1 h2 h3)⟩
theorem Fz.call (h:Fz rb sb u V) (hg:V.grownBy V' (some rb)):Fz rb sb u V':=⟨Nat.le_trans h.1 hg.size,fun k h1 h2 h3=>(hg.block k (Nat.lt_of_lt_of_le h1 h.1) (nsr h2)).trans (h.2 k h1 h2 h3)⟩
theorem Fz.set (h:Fz rb sb u V) (hb:b=sb\/u.heap.size<=b):Fz rb sb u (V.setCell ⟨b,j,none⟩ x):=⟨by rw [(Ba _ _ _).2.2.2];exact h.1,fun k h1 h2 h3=>by
 rw [Below.heap_setCell _ _ _ _ (by show k≠b;rcases hb with e | e <;> omega)]
 exact h.2 k h1 h2 h3⟩
end
theorem Mo (args:Array Value) (w:World):(callFunc 169 args).run Tryz.prog w=.ok (.enter 169 args) w:=by simp [go_sem]
theorem LO {rb:Nat} {tv:Value} {ts:List Tok} {en:Nat} (hall:ts.all An=true) {w:World} {bs:Nat} (at_:Int) (n:Nat) (u:World) (hd:Rd rb tv ts en w n u) (hsb:w.heap.size<=bs) (hb:Bx bs [M O 0,M O at_,.string ⟨#[]⟩,.string ⟨#[]⟩,M O 0,M O 0,M O 0,.string ⟨#[]⟩,U none 0 0,U none 0 0,U none 0 0,U none 0 0] u) :
  Calls Tryz.prog 157 #[zd (some ⟨rb,0,none⟩),zd (some ⟨bs,0,none⟩)] u (Ao ts en (CO ts en at_ n) (fun d n1 e w'=>e=zg (zh #[])/\∃ (kd:Int) (x y:ByteArray) (e0 e1 e2:Int) (e3:ByteArray) (q0:Option Addr) (q1 q2:Nat) (q3:Option Addr) (q4 q5:Nat),Bx bs [M O kd,M O at_,.string x,.string y,M O e0,M O e1,M O e2,.string e3,U q0 q1 q2,U q3 q4 q5,U none 0 0,U none 0 0] w'/\Off u.heap.size none w' (fun W=>XC W 1 [M O kd,M O at_,.string x,.string y,M O e0,M O e1,M O e2,.string e3,U q0 q1 q2,U q3 q4 q5,U none 0 0,U none 0 0] d)/\Rd rb tv ts en w n1 w'/\Fz rb bs u w') (fun w'=>w.grownBy w' (some rb))):=by
 obtain ⟨cb,cg⟩:=nm (CO ts en at_ n);rw [<-cg];have aa:Hx (cb=Aw (AD ts n) fun x n1=>Aw (Av ts [61] n1) fun _ n2=>Aw (pX ts en n2) fun e n3=>
   if Ij e=2/\isT ts n3 [40]=true then
    Aw (Bn ts [44] (pX ts en) (ts.length+1) (!isT ts (n3+1) [41]) [] (n3+1)) fun l n4=>Aw (Av ts [41] n4) fun _ n5=>.inl (stD 2 at_ x ⟨(FX e).toArray⟩ noE l [] [],n5)
   else .inl (stD 1 at_ x noS e [] [] [],n3)):=cg
 have H:=Aa hd;have b:=Aa hb;have af:=Aa hsb;have r:=Aa (Fz.refl rb bs u);clear cg hd hb hsb;have b7:Hx (u.heap.size<=u.heap.size):=r.o.1;obtain ⟨V1,ca⟩:=nm (u.alloc (ze #[zd (some ⟨rb,0,none⟩)] 91));obtain ⟨L,cu⟩:=nm u.heap.size;have b2:=cu;have ce:Hx (w.heap.size<=L):=by show _<=_;rw [b2];exact H.o.size
 have A:Hx (bs < L):=by show _ < _;rw [b2];exact b.o.lt
 have i:Hx (Bx L [zd (some ⟨rb,0,none⟩)] V1):=by show Bx _ _ _;rw [ca,b2];exact Bx.new u [zd (some ⟨rb,0,none⟩)] 91
 replace b:Hx (Bx bs [M O 0,M O at_,.string ⟨#[]⟩,.string ⟨#[]⟩,M O 0,M O 0,M O 0,.string ⟨#[]⟩,U none 0 0,U none 0 0,U none 0 0,U none 0 0] V1):=by show Bx _ _ _;rw [ca];exact b.o.over (bA _ _)
 replace H:Hx (Rd rb tv ts en w (n) V1):=by show Rd _ _ _ _ _ _ _;rw [ca];exact H.o.over (bA _ _)
 replace r:Hx (Fz rb bs u V1):=by show Fz _ _ _ _;rw [ca];exact r.o.over (bA _ _)
 have d7:Hx (u.heap.size<=L):=by show _<=_;rw [b2];exact b7.o
 clear b7;have b7:Hx (u.heap.size<=V1.heap.size):=r.o.1;obtain ⟨V2,b9⟩:=nm (V1.alloc (ze #[zd (some ⟨bs,0,none⟩)] 164));obtain ⟨J,cv⟩:=nm (L+1);have b3:J=V1.heap.size:=by rw [cv,ca,alS,b2]
 have cf:Hx (w.heap.size<=J):=by show _<=_;rw [b3];exact H.o.size
 have C:Hx (bs < J):=by show _ < _;rw [b3];exact b.o.lt
 have ad:Hx (L < J):=by show _ < _;rw [b3];exact i.o.lt
 have c:Hx (Bx J [zd (some ⟨bs,0,none⟩)] V2):=by show Bx _ _ _;rw [b9,b3];exact Bx.new V1 [zd (some ⟨bs,0,none⟩)] 164
 replace b:Hx (Bx bs [M O 0,M O at_,.string ⟨#[]⟩,.string ⟨#[]⟩,M O 0,M O 0,M O 0,.string ⟨#[]⟩,U none 0 0,U none 0 0,U none 0 0,U none 0 0] V2):=by show Bx _ _ _;rw [b9];exact b.o.over (bA _ _)
 replace i:Hx (Bx L [zd (some ⟨rb,0,none⟩)] V2):=by show Bx _ _ _;rw [b9];exact i.o.over (bA _ _)
 replace H:Hx (Rd rb tv ts en w (n) V2):=by show Rd _ _ _ _ _ _ _;rw [b9];exact H.o.over (bA _ _)
 replace r:Hx (Fz rb bs u V2):=by show Fz _ _ _ _;rw [b9];exact r.o.over (bA _ _)
 have d8:Hx (u.heap.size<=J):=by show _<=_;rw [b3];exact b7.o
 clear b7;go_enter Tryz.func157,Tryz.ntmps157;go_wp2_with fail;rw [<-ca,<-cu,<-b9,<-cv];clear b3 b2;clear cv b9 cu ca;have K1:=Aa fun X hX=>Ck (rb:=rb) (tv:=tv) (ts:=ts) (en:=en) n X hX;obtain ⟨V3,b6⟩:=nm V2.drew;replace b:Hx (Bx bs [M O 0,M O at_,.string ⟨#[]⟩,.string ⟨#[]⟩,M O 0,M O 0,M O 0,.string ⟨#[]⟩,U none 0 0,U none 0 0,U none 0 0,U none 0 0] V3):=by show Bx _ _ _;rw [b6];exact b.o.over (bD _)
 replace i:Hx (Bx L [zd (some ⟨rb,0,none⟩)] V3):=by show Bx _ _ _;rw [b6];exact i.o.over (bD _)
 replace c:Hx (Bx J [zd (some ⟨bs,0,none⟩)] V3):=by show Bx _ _ _;rw [b6];exact c.o.over (bD _)
 replace H:Hx (Rd rb tv ts en w (n) V3):=by show Rd _ _ _ _ _ _ _;rw [b6];exact H.o.over (bD _)
 replace r:Hx (Fz rb bs u V3):=by show Fz _ _ _ _;rw [b6];exact r.o.over (bD _)
 refine gS (fun Wz=>Wz.cell? ⟨J,0,none⟩=some (zd (some ⟨bs,0,none⟩))/\Wz.cell? ⟨L,0,none⟩=some (zd (some ⟨rb,0,none⟩))) (by rw [<-b6];exact ⟨c.o.row 0 _ rfl,i.o.row 0 _ rfl⟩) fun g=>?_;rw [<-b6] at g ⊢;clear b6;refine kT 0 ?_;refine kT 1 ?_;refine rdA 2 rfl fun K hK=>?_;go_simp;refine (K1.o _ H.o.st).mono ?_;rintro e w4 E;obtain ⟨m,ho⟩ | ⟨x,n1,ho⟩:=Ak (AD ts n)
 ·replace E:Ao ts en (AD ts n) _ _ e w4:=E
  rw [ho] at E;obtain ⟨rfl,Y⟩:=E;have HO:Hx (cb=.inr m):=by show _=_;rw [aa.o,ho];rfl
  have HG:=Aa (Ac H.o.gr Y);clear Y ho hK g;unfold Ai;go_simp;refine ⟨rfl,?_⟩;rw [HO.o];exact ⟨rfl,HG.o⟩
 replace E:Ao ts en (AD ts n) _ _ e w4:=E;rw [ho] at E;obtain ⟨rfl,Y,hs⟩:=E;have hr:=aa.o;rw [ho,Am] at hr;replace aa:=Aa hr;have ci:=Aa ho;clear hr ho g;clear ci;replace r:=Aa (r.o.call Y);replace b:=bkp b H.o.rlt af Y;replace i:=bkp i H.o.rlt ce Y;replace c:=bkp c H.o.rlt cf Y;replace H:Hx (Rd rb tv ts en w (n1) w4):=H.o.call Y hs;clear Y hs;go_simp;refine xK hK (⟨c.o.row 0 _ rfl,i.o.row 0 _ rfl⟩) fun g=>?_;clear hK K;refine kT 3 ?_;refine kT 4 ?_;refine rdA 5 rfl fun K hK=>?_;have ah:bs≠L:=by have:=A.o;omega
 have aj:L≠bs:=by have:=A.o;omega
 have ai:bs≠J:=by have:=C.o;omega
 have al:J≠bs:=by have:=C.o;omega
 have ak:L≠J:=by have:=ad.o;omega
 have am:J≠L:=by have:=ad.o;omega
 obtain ⟨bu,bt,bp,bo,bn,bm,bl,bk,bj,bi,aq,ap⟩:=AC b.o.row;obtain ⟨bh,bg,bf,bd,bc,bb,ba,a9,a8,a7,ao,an⟩:=A0 b.o.fz;obtain ⟨V5,b8⟩:=nm (w4.setCell ⟨bs,2,none⟩ (.string x));replace b:Hx (Bx bs [M O 0,M O at_,.string x,.string ⟨#[]⟩,M O 0,M O 0,M O 0,.string ⟨#[]⟩,U none 0 0,U none 0 0,U none 0 0,U none 0 0] V5):=by show Bx _ _ _;rw [b8];exact b.o.set (j:=2) (by simp)
 replace i:Hx (Bx L [zd (some ⟨rb,0,none⟩)] V5):=by show Bx _ _ _;rw [b8];exact i.o.far (by have:=A.o;omega)
 replace c:Hx (Bx J [zd (some ⟨bs,0,none⟩)] V5):=by show Bx _ _ _;rw [b8];exact c.o.far (by have:=C.o;omega)
 replace H:Hx (Rd rb tv ts en w (n1) V5):=by show Rd _ _ _ _ _ _ _;rw [b8];exact H.o.set (by exact af.o)
 replace r:Hx (Fz rb bs u V5):=by show Fz _ _ _ _;rw [b8];exact r.o.set (Or.inl rfl)
 go_simp;rw [<-b8];clear b8 g;clear an ao a7 a8 a9 ba bb bc bd bf bg bh ap aq bi bj bk bl bm bn bo bp bt bu am ak al ai aj ah;refine xK hK (⟨c.o.row 0 _ rfl,i.o.row 0 _ rfl⟩) fun g=>?_;clear hK K;refine gE ?_;have K2:=Aa (Bp ⟨#[61]⟩ (by decide) n1 _ H.o.st);clear K1;have cd:=i.o.row 0 _ rfl;go_wp2_with fail;clear cd;refine K2.o.mono ?_;rintro e w6 E;obtain ⟨m,ho⟩ | ⟨_u,n2,ho⟩:=Ak (Av ts [61] n1)
 ·replace E:Ao ts en (Av ts [61] n1) _ _ e w6:=E
  rw [ho] at E;obtain ⟨rfl,Y⟩:=E;have HO:Hx (cb=.inr m):=by show _=_;rw [aa.o,ho];rfl
  have HG:=Aa (Ac H.o.gr Y);clear Y ho;unfold Ai;go_wp2_with fail;refine ⟨rfl,?_⟩;rw [HO.o];exact ⟨rfl,HG.o⟩
 replace E:Ao ts en (Av ts [61] n1) _ _ e w6:=E;rw [ho] at E;obtain ⟨rfl,Y,hs⟩:=E;have hr:=aa.o;rw [ho,Am] at hr;replace aa:=Aa hr;have ci:=Aa ho;clear hr ho;clear ci;replace r:=Aa (r.o.call Y);replace b:=bkp b H.o.rlt af Y;replace i:=bkp i H.o.rlt ce Y;replace c:=bkp c H.o.rlt cf Y;replace H:Hx (Rd rb tv ts en w (n2) w6):=H.o.call Y hs;clear Y hs;have K3:=Aa (DY hall n2 _ H.o.st);clear K2;have cd:=i.o.row 0 _ rfl;go_wp2_with fail;clear cd;obtain ⟨z,hz⟩:=nm w6.heap.size;have dd:Hx (u.heap.size<=z):=by show _<=_;rw [hz];exact r.o.1
 have dc:Hx (w.heap.size<=z):=by show _<=_;rw [hz];exact H.o.size
 have ab:Hx (bs < z):=by show _ < _;rw [hz];exact b.o.lt
 have dw:Hx (L < z):=by show _ < _;rw [hz];exact i.o.lt
 have dx:Hx (J < z):=by show _ < _;rw [hz];exact c.o.lt
 refine K3.o.mono ?_;rintro e w7 E;obtain ⟨m,ho⟩ | ⟨ed,n3,ho⟩:=Ak (pX ts en n2)
 ·replace E:Ao ts en (pX ts en n2) _ _ e w7:=E
  rw [ho] at E;obtain ⟨rfl,Y⟩:=E;have HO:Hx (cb=.inr m):=by show _=_;rw [aa.o,ho];rfl
  have HG:=Aa (Ac H.o.gr Y);clear Y ho;unfold Ai;go_wp2_with fail;refine ⟨rfl,?_⟩;rw [HO.o];exact ⟨rfl,HG.o⟩
 replace E:Ao ts en (pX ts en n2) _ _ e w7:=E;rw [ho] at E;obtain ⟨e0,e1,e2,e3,q0,q1,q2,rfl,b4,c8,c7,Y,hs⟩:=E;have hr:=aa.o;rw [ho,Am] at hr;replace aa:=Aa hr;have ci:=Aa ho;clear hr ho;rw [<-hz] at b4;have f:=Aa b4;have cz:=Aa (And.intro c8 c7);clear b4 c8 c7 hz;clear ci;replace r:=Aa (r.o.call Y);replace b:=bkp b H.o.rlt af Y;replace i:=bkp i H.o.rlt ce Y;replace c:=bkp c H.o.rlt cf Y;replace H:Hx (Rd rb tv ts en w (n3) w7):=H.o.call Y hs;clear Y hs;clear K3;have cd:=Mr (i.o.row 0 _ rfl) (ze #[M O e0,M O e1,M O e2,.string e3,U q0 q1 q2] 49);have b7:Hx (u.heap.size<=w7.heap.size):=r.o.1;obtain ⟨V8,b1⟩:=nm (w7.alloc (ze #[M O e0,M O e1,M O e2,.string e3,U q0 q1 q2] 49));obtain ⟨N,ch⟩:=nm w7.heap.size;have bv:=ch;have de:Hx (w.heap.size<=N):=by show _<=_;rw [bv];exact H.o.size
 have I:Hx (bs < N):=by show _ < _;rw [bv];exact b.o.lt
 have ar:Hx (L < N):=by show _ < _;rw [bv];exact i.o.lt
 have au:Hx (J < N):=by show _ < _;rw [bv];exact c.o.lt
 have a:Hx (Bx N [M O e0,M O e1,M O e2,.string e3,U q0 q1 q2] V8):=by show Bx _ _ _;rw [b1,bv];exact Bx.new w7 [M O e0,M O e1,M O e2,.string e3,U q0 q1 q2] 49
 replace b:Hx (Bx bs [M O 0,M O at_,.string x,.string ⟨#[]⟩,M O 0,M O 0,M O 0,.string ⟨#[]⟩,U none 0 0,U none 0 0,U none 0 0,U none 0 0] V8):=by show Bx _ _ _;rw [b1];exact b.o.over (bA _ _)
 replace i:Hx (Bx L [zd (some ⟨rb,0,none⟩)] V8):=by show Bx _ _ _;rw [b1];exact i.o.over (bA _ _)
 replace c:Hx (Bx J [zd (some ⟨bs,0,none⟩)] V8):=by show Bx _ _ _;rw [b1];exact c.o.over (bA _ _)
 replace H:Hx (Rd rb tv ts en w (n3) V8):=by show Rd _ _ _ _ _ _ _;rw [b1];exact H.o.over (bA _ _)
 replace f:Hx (Off z none V8 (fun W=>XE W 61 [M O e0,M O e1,M O e2,.string e3,U q0 q1 q2] ed)):=by show Off _ _ _ _;rw [b1];exact f.o.over (bA _ _)
 replace r:Hx (Fz rb bs u V8):=by show Fz _ _ _ _;rw [b1];exact r.o.over (bA _ _)
 have d9:Hx (u.heap.size<=N):=by show _<=_;rw [bv];exact b7.o
 clear b7;by_cases hk2:e0=2
 ·have dn:=Aa hk2
  have K4:=Aa (Fs ⟨#[40]⟩ (by decide) n3 _ H.o.st);have ct:(e0 != 2)=false:=by simpa using hk2
  have cs:(e0 == 2)=true:=by simpa using hk2
  clear hk2;go_wp2_with fail;rw [<-b1,<-ch];clear bv cd;clear ch b1;clear ct cs;refine K4.o.mono ?_;rintro e wt ⟨rfl,Y,hs⟩;replace hs:St rb tv ts en (if isT ts n3 [40]=true then n3+1 else n3) wt:=hs
  cases hq:isT ts n3 [40] with
  | false=>
   rw [hq] at hs;have hr:=aa.o;rw [if_neg (by rw [hq];simp)] at hr;replace aa:=Aa hr;replace hs:St rb tv ts en n3 wt:=hs;try rw [show isT ts n3 (ByteArray.mk #[40]).data.toList=false from hq]
   clear hr hq K4;replace r:=Aa (r.o.call Y);replace b:=bkp b H.o.rlt af Y;replace i:=bkp i H.o.rlt ce Y;replace c:=bkp c H.o.rlt cf Y;replace a:=bkp a H.o.rlt de Y;replace f:=Aa (f.o.keep Y (by have:=H.o.rlt;have:=dc.o;omega));replace H:Hx (Rd rb tv ts en w (n3) wt):=H.o.call Y hs;clear Y hs;go_wp2_with fail;obtain ⟨V9,Q⟩:=nm wt.drew;replace b:Hx (Bx bs [M O 0,M O at_,.string x,.string ⟨#[]⟩,M O 0,M O 0,M O 0,.string ⟨#[]⟩,U none 0 0,U none 0 0,U none 0 0,U none 0 0] V9):=by show Bx _ _ _;rw [Q];exact b.o.over (bD _)
   replace i:Hx (Bx L [zd (some ⟨rb,0,none⟩)] V9):=by show Bx _ _ _;rw [Q];exact i.o.over (bD _)
   replace c:Hx (Bx J [zd (some ⟨bs,0,none⟩)] V9):=by show Bx _ _ _;rw [Q];exact c.o.over (bD _)
   replace a:Hx (Bx N [M O e0,M O e1,M O e2,.string e3,U q0 q1 q2] V9):=by show Bx _ _ _;rw [Q];exact a.o.over (bD _)
   replace H:Hx (Rd rb tv ts en w (n3) V9):=by show Rd _ _ _ _ _ _ _;rw [Q];exact H.o.over (bD _)
   replace r:Hx (Fz rb bs u V9):=by show Fz _ _ _ _;rw [Q];exact r.o.over (bD _)
   replace f:Hx (Off z none V9 (fun W=>XE W 61 [M O e0,M O e1,M O e2,.string e3,U q0 q1 q2] ed)):=by show Off _ _ _ _;rw [Q];exact f.o.over (bD _)
   refine gS (fun Wz=>Wz.cell? ⟨J,0,none⟩=some (zd (some ⟨bs,0,none⟩))/\Wz.cell? ⟨N,0,none⟩=some (M O e0)/\Wz.cell? ⟨N,1,none⟩=some (M O e1)/\Wz.cell? ⟨N,2,none⟩=some (M O e2)/\Wz.cell? ⟨N,3,none⟩=some (.string e3)/\Wz.cell? ⟨N,4,none⟩=some (U q0 q1 q2)) (by rw [<-Q];exact ⟨c.o.row 0 _ rfl,a.o.row 0 _ rfl,a.o.row 1 _ rfl,a.o.row 2 _ rfl,a.o.row 3 _ rfl,a.o.row 4 _ rfl⟩) fun g=>?_;rw [<-Q] at g ⊢;clear Q;refine kT 0 ?_;refine kT 1 ?_;refine kT 2 ?_;refine kT 3 ?_;refine kT 4 ?_;refine rdA 5 rfl fun K hK=>?_;have ah:bs≠L:=by have:=A.o;omega
   have aj:L≠bs:=by have:=A.o;omega
   have ai:bs≠J:=by have:=C.o;omega
   have al:J≠bs:=by have:=C.o;omega
   have aw:bs≠N:=by have:=I.o;omega
   have az:N≠bs:=by have:=I.o;omega
   have ak:L≠J:=by have:=ad.o;omega
   have am:J≠L:=by have:=ad.o;omega
   have ax:L≠N:=by have:=ar.o;omega
   have a0:N≠L:=by have:=ar.o;omega
   have ay:J≠N:=by have:=au.o;omega
   have a1:N≠J:=by have:=au.o;omega
   obtain ⟨bu,bt,bp,bo,bn,bm,bl,bk,bj,bi,aq,ap⟩:=AC b.o.row;obtain ⟨bh,bg,bf,bd,bc,bb,ba,a9,a8,a7,ao,an⟩:=A0 b.o.fz;obtain ⟨Z,G⟩:=nm (V9.setCell ⟨bs,0,none⟩ (M O 1));replace b:Hx (Bx bs [M O 1,M O at_,.string x,.string ⟨#[]⟩,M O 0,M O 0,M O 0,.string ⟨#[]⟩,U none 0 0,U none 0 0,U none 0 0,U none 0 0] Z):=by show Bx _ _ _;rw [G];exact b.o.set (j:=0) (by simp)
   replace i:Hx (Bx L [zd (some ⟨rb,0,none⟩)] Z):=by show Bx _ _ _;rw [G];exact i.o.far (by have:=A.o;omega)
   replace c:Hx (Bx J [zd (some ⟨bs,0,none⟩)] Z):=by show Bx _ _ _;rw [G];exact c.o.far (by have:=C.o;omega)
   replace a:Hx (Bx N [M O e0,M O e1,M O e2,.string e3,U q0 q1 q2] Z):=by show Bx _ _ _;rw [G];exact a.o.far (by have:=I.o;omega)
   replace H:Hx (Rd rb tv ts en w (n3) Z):=by show Rd _ _ _ _ _ _ _;rw [G];exact H.o.set (by exact af.o)
   replace r:Hx (Fz rb bs u Z):=by show Fz _ _ _ _;rw [G];exact r.o.set (Or.inl rfl)
   replace f:Hx (Off z none Z (fun W=>XE W 61 [M O e0,M O e1,M O e2,.string e3,U q0 q1 q2] ed)):=by show Off _ _ _ _;rw [G];exact f.o.set ab.o
   go_simp;rw [<-G];clear G g;clear an ao a7 a8 a9 ba bb bc bd bf bg bh ap aq bi bj bk bl bm bn bo bp bt bu a1 ay a0 ax am ak az aw al ai aj ah;refine xK hK (⟨c.o.row 0 _ rfl,a.o.row 0 _ rfl,a.o.row 1 _ rfl,a.o.row 2 _ rfl,a.o.row 3 _ rfl,a.o.row 4 _ rfl⟩) fun g=>?_;clear hK K;refine kT 6 ?_;refine kT 7 ?_;refine rdA 8 rfl fun K hK=>?_;have ah:bs≠L:=by have:=A.o;omega
   have aj:L≠bs:=by have:=A.o;omega
   have ai:bs≠J:=by have:=C.o;omega
   have al:J≠bs:=by have:=C.o;omega
   have aw:bs≠N:=by have:=I.o;omega
   have az:N≠bs:=by have:=I.o;omega
   have ak:L≠J:=by have:=ad.o;omega
   have am:J≠L:=by have:=ad.o;omega
   have ax:L≠N:=by have:=ar.o;omega
   have a0:N≠L:=by have:=ar.o;omega
   have ay:J≠N:=by have:=au.o;omega
   have a1:N≠J:=by have:=au.o;omega
   obtain ⟨bu,bt,bp,bo,bn,bm,bl,bk,bj,bi,aq,ap⟩:=AC b.o.row;obtain ⟨bh,bg,bf,bd,bc,bb,ba,a9,a8,a7,ao,an⟩:=A0 b.o.fz;obtain ⟨P,F⟩:=nm (Z.setCell ⟨bs,4,none⟩ (M O e0));replace b:Hx (Bx bs [M O 1,M O at_,.string x,.string ⟨#[]⟩,M O e0,M O 0,M O 0,.string ⟨#[]⟩,U none 0 0,U none 0 0,U none 0 0,U none 0 0] P):=by show Bx _ _ _;rw [F];exact b.o.set (j:=4) (by simp)
   replace i:Hx (Bx L [zd (some ⟨rb,0,none⟩)] P):=by show Bx _ _ _;rw [F];exact i.o.far (by have:=A.o;omega)
   replace c:Hx (Bx J [zd (some ⟨bs,0,none⟩)] P):=by show Bx _ _ _;rw [F];exact c.o.far (by have:=C.o;omega)
   replace a:Hx (Bx N [M O e0,M O e1,M O e2,.string e3,U q0 q1 q2] P):=by show Bx _ _ _;rw [F];exact a.o.far (by have:=I.o;omega)
   replace H:Hx (Rd rb tv ts en w (n3) P):=by show Rd _ _ _ _ _ _ _;rw [F];exact H.o.set (by exact af.o)
   replace r:Hx (Fz rb bs u P):=by show Fz _ _ _ _;rw [F];exact r.o.set (Or.inl rfl)
   replace f:Hx (Off z none P (fun W=>XE W 61 [M O e0,M O e1,M O e2,.string e3,U q0 q1 q2] ed)):=by show Off _ _ _ _;rw [F];exact f.o.set ab.o
   obtain ⟨a4,V⟩:=nm (P.setCell ⟨bs,5,none⟩ (M O e1));replace b:Hx (Bx bs [M O 1,M O at_,.string x,.string ⟨#[]⟩,M O e0,M O e1,M O 0,.string ⟨#[]⟩,U none 0 0,U none 0 0,U none 0 0,U none 0 0] a4):=by show Bx _ _ _;rw [V];exact b.o.set (j:=5) (by simp)
   replace i:Hx (Bx L [zd (some ⟨rb,0,none⟩)] a4):=by show Bx _ _ _;rw [V];exact i.o.far (by have:=A.o;omega)
   replace c:Hx (Bx J [zd (some ⟨bs,0,none⟩)] a4):=by show Bx _ _ _;rw [V];exact c.o.far (by have:=C.o;omega)
   replace a:Hx (Bx N [M O e0,M O e1,M O e2,.string e3,U q0 q1 q2] a4):=by show Bx _ _ _;rw [V];exact a.o.far (by have:=I.o;omega)
   replace H:Hx (Rd rb tv ts en w (n3) a4):=by show Rd _ _ _ _ _ _ _;rw [V];exact H.o.set (by exact af.o)
   replace r:Hx (Fz rb bs u a4):=by show Fz _ _ _ _;rw [V];exact r.o.set (Or.inl rfl)
   replace f:Hx (Off z none a4 (fun W=>XE W 61 [M O e0,M O e1,M O e2,.string e3,U q0 q1 q2] ed)):=by show Off _ _ _ _;rw [V];exact f.o.set ab.o
   obtain ⟨a3,T⟩:=nm (a4.setCell ⟨bs,6,none⟩ (M O e2));replace b:Hx (Bx bs [M O 1,M O at_,.string x,.string ⟨#[]⟩,M O e0,M O e1,M O e2,.string ⟨#[]⟩,U none 0 0,U none 0 0,U none 0 0,U none 0 0] a3):=by show Bx _ _ _;rw [T];exact b.o.set (j:=6) (by simp)
   replace i:Hx (Bx L [zd (some ⟨rb,0,none⟩)] a3):=by show Bx _ _ _;rw [T];exact i.o.far (by have:=A.o;omega)
   replace c:Hx (Bx J [zd (some ⟨bs,0,none⟩)] a3):=by show Bx _ _ _;rw [T];exact c.o.far (by have:=C.o;omega)
   replace a:Hx (Bx N [M O e0,M O e1,M O e2,.string e3,U q0 q1 q2] a3):=by show Bx _ _ _;rw [T];exact a.o.far (by have:=I.o;omega)
   replace H:Hx (Rd rb tv ts en w (n3) a3):=by show Rd _ _ _ _ _ _ _;rw [T];exact H.o.set (by exact af.o)
   replace r:Hx (Fz rb bs u a3):=by show Fz _ _ _ _;rw [T];exact r.o.set (Or.inl rfl)
   replace f:Hx (Off z none a3 (fun W=>XE W 61 [M O e0,M O e1,M O e2,.string e3,U q0 q1 q2] ed)):=by show Off _ _ _ _;rw [T];exact f.o.set ab.o
   obtain ⟨a2,S⟩:=nm (a3.setCell ⟨bs,7,none⟩ (.string e3));replace b:Hx (Bx bs [M O 1,M O at_,.string x,.string ⟨#[]⟩,M O e0,M O e1,M O e2,.string e3,U none 0 0,U none 0 0,U none 0 0,U none 0 0] a2):=by show Bx _ _ _;rw [S];exact b.o.set (j:=7) (by simp)
   replace i:Hx (Bx L [zd (some ⟨rb,0,none⟩)] a2):=by show Bx _ _ _;rw [S];exact i.o.far (by have:=A.o;omega)
   replace c:Hx (Bx J [zd (some ⟨bs,0,none⟩)] a2):=by show Bx _ _ _;rw [S];exact c.o.far (by have:=C.o;omega)
   replace a:Hx (Bx N [M O e0,M O e1,M O e2,.string e3,U q0 q1 q2] a2):=by show Bx _ _ _;rw [S];exact a.o.far (by have:=I.o;omega)
   replace H:Hx (Rd rb tv ts en w (n3) a2):=by show Rd _ _ _ _ _ _ _;rw [S];exact H.o.set (by exact af.o)
   replace r:Hx (Fz rb bs u a2):=by show Fz _ _ _ _;rw [S];exact r.o.set (Or.inl rfl)
   replace f:Hx (Off z none a2 (fun W=>XE W 61 [M O e0,M O e1,M O e2,.string e3,U q0 q1 q2] ed)):=by show Off _ _ _ _;rw [S];exact f.o.set ab.o
   obtain ⟨a6,R⟩:=nm (a2.setCell ⟨bs,8,none⟩ (U q0 q1 q2));replace b:Hx (Bx bs [M O 1,M O at_,.string x,.string ⟨#[]⟩,M O e0,M O e1,M O e2,.string e3,U q0 q1 q2,U none 0 0,U none 0 0,U none 0 0] a6):=by show Bx _ _ _;rw [R];exact b.o.set (j:=8) (by simp)
   replace i:Hx (Bx L [zd (some ⟨rb,0,none⟩)] a6):=by show Bx _ _ _;rw [R];exact i.o.far (by have:=A.o;omega)
   replace c:Hx (Bx J [zd (some ⟨bs,0,none⟩)] a6):=by show Bx _ _ _;rw [R];exact c.o.far (by have:=C.o;omega)
   replace a:Hx (Bx N [M O e0,M O e1,M O e2,.string e3,U q0 q1 q2] a6):=by show Bx _ _ _;rw [R];exact a.o.far (by have:=I.o;omega)
   replace H:Hx (Rd rb tv ts en w (n3) a6):=by show Rd _ _ _ _ _ _ _;rw [R];exact H.o.set (by exact af.o)
   replace r:Hx (Fz rb bs u a6):=by show Fz _ _ _ _;rw [R];exact r.o.set (Or.inl rfl)
   replace f:Hx (Off z none a6 (fun W=>XE W 61 [M O e0,M O e1,M O e2,.string e3,U q0 q1 q2] ed)):=by show Off _ _ _ _;rw [R];exact f.o.set ab.o
   go_simp;rw [<-F,<-V,<-T,<-S,<-R];clear R S T V F g;clear an ao a7 a8 a9 ba bb bc bd bf bg bh ap aq bi bj bk bl bm bn bo bp bt bu a1 ay a0 ax am ak az aw al ai aj ah;refine xK hK (⟨c.o.row 0 _ rfl,a.o.row 0 _ rfl,a.o.row 1 _ rfl,a.o.row 2 _ rfl,a.o.row 3 _ rfl,a.o.row 4 _ rfl⟩) fun g=>?_;clear hK K;refine gE ?_;go_wp2_with fail;go_end0;rw [aa.o];exact ⟨rfl,1,x,⟨#[]⟩,e0,e1,e2,e3,q0,q1,q2,none,0,0,b.o,(f.o.base dd.o).imp (fun W hW=>⟨1,at_,x,⟨#[]⟩,_,_,_,_,_,ed,_,[],_,[],_,[],rfl,rfl,hW,LS.nil,LS.nil,LS.nil⟩),H.o,r.o⟩
  | true=>
   rw [hq] at hs;have hr:=aa.o;rw [if_pos ⟨cz.o.1.trans dn.o,hq⟩] at hr;replace aa:=Aa hr;replace hs:St rb tv ts en (n3+1) wt:=hs;try rw [show isT ts n3 (ByteArray.mk #[40]).data.toList=true from hq]
   clear hr hq K4;replace r:=Aa (r.o.call Y);replace b:=bkp b H.o.rlt af Y;replace i:=bkp i H.o.rlt ce Y;replace c:=bkp c H.o.rlt cf Y;replace a:=bkp a H.o.rlt de Y;replace f:=Aa (f.o.keep Y (by have:=H.o.rlt;have:=dc.o;omega));replace H:Hx (Rd rb tv ts en w (n3+1) wt):=H.o.call Y hs;clear Y hs;go_wp2_with fail;obtain ⟨V9,Q⟩:=nm wt.drew;replace b:Hx (Bx bs [M O 0,M O at_,.string x,.string ⟨#[]⟩,M O 0,M O 0,M O 0,.string ⟨#[]⟩,U none 0 0,U none 0 0,U none 0 0,U none 0 0] V9):=by show Bx _ _ _;rw [Q];exact b.o.over (bD _)
   replace i:Hx (Bx L [zd (some ⟨rb,0,none⟩)] V9):=by show Bx _ _ _;rw [Q];exact i.o.over (bD _)
   replace c:Hx (Bx J [zd (some ⟨bs,0,none⟩)] V9):=by show Bx _ _ _;rw [Q];exact c.o.over (bD _)
   replace a:Hx (Bx N [M O e0,M O e1,M O e2,.string e3,U q0 q1 q2] V9):=by show Bx _ _ _;rw [Q];exact a.o.over (bD _)
   replace H:Hx (Rd rb tv ts en w (n3+1) V9):=by show Rd _ _ _ _ _ _ _;rw [Q];exact H.o.over (bD _)
   replace r:Hx (Fz rb bs u V9):=by show Fz _ _ _ _;rw [Q];exact r.o.over (bD _)
   replace f:Hx (Off z none V9 (fun W=>XE W 61 [M O e0,M O e1,M O e2,.string e3,U q0 q1 q2] ed)):=by show Off _ _ _ _;rw [Q];exact f.o.over (bD _)
   refine gS (fun Wz=>Wz.cell? ⟨J,0,none⟩=some (zd (some ⟨bs,0,none⟩))/\Wz.cell? ⟨N,0,none⟩=some (M O e0)/\Wz.cell? ⟨N,1,none⟩=some (M O e1)/\Wz.cell? ⟨N,2,none⟩=some (M O e2)/\Wz.cell? ⟨N,3,none⟩=some (.string e3)/\Wz.cell? ⟨N,4,none⟩=some (U q0 q1 q2)) (by rw [<-Q];exact ⟨c.o.row 0 _ rfl,a.o.row 0 _ rfl,a.o.row 1 _ rfl,a.o.row 2 _ rfl,a.o.row 3 _ rfl,a.o.row 4 _ rfl⟩) fun g=>?_;rw [<-Q] at g ⊢;clear Q;refine kT 0 ?_;refine kT 1 ?_;refine kT 2 ?_;refine kT 3 ?_;refine kT 4 ?_;refine kT 5 ?_;refine rdA 6 rfl fun K hK=>?_;have ah:bs≠L:=by have:=A.o;omega
   have aj:L≠bs:=by have:=A.o;omega
   have ai:bs≠J:=by have:=C.o;omega
   have al:J≠bs:=by have:=C.o;omega
   have aw:bs≠N:=by have:=I.o;omega
   have az:N≠bs:=by have:=I.o;omega
   have ak:L≠J:=by have:=ad.o;omega
   have am:J≠L:=by have:=ad.o;omega
   have ax:L≠N:=by have:=ar.o;omega
   have a0:N≠L:=by have:=ar.o;omega
   have ay:J≠N:=by have:=au.o;omega
   have a1:N≠J:=by have:=au.o;omega
   obtain ⟨bu,bt,bp,bo,bn,bm,bl,bk,bj,bi,aq,ap⟩:=AC b.o.row;obtain ⟨bh,bg,bf,bd,bc,bb,ba,a9,a8,a7,ao,an⟩:=A0 b.o.fz;obtain ⟨Z,G⟩:=nm (V9.setCell ⟨bs,0,none⟩ (M O 2));replace b:Hx (Bx bs [M O 2,M O at_,.string x,.string ⟨#[]⟩,M O 0,M O 0,M O 0,.string ⟨#[]⟩,U none 0 0,U none 0 0,U none 0 0,U none 0 0] Z):=by show Bx _ _ _;rw [G];exact b.o.set (j:=0) (by simp)
   replace i:Hx (Bx L [zd (some ⟨rb,0,none⟩)] Z):=by show Bx _ _ _;rw [G];exact i.o.far (by have:=A.o;omega)
   replace c:Hx (Bx J [zd (some ⟨bs,0,none⟩)] Z):=by show Bx _ _ _;rw [G];exact c.o.far (by have:=C.o;omega)
   replace a:Hx (Bx N [M O e0,M O e1,M O e2,.string e3,U q0 q1 q2] Z):=by show Bx _ _ _;rw [G];exact a.o.far (by have:=I.o;omega)
   replace H:Hx (Rd rb tv ts en w (n3+1) Z):=by show Rd _ _ _ _ _ _ _;rw [G];exact H.o.set (by exact af.o)
   replace r:Hx (Fz rb bs u Z):=by show Fz _ _ _ _;rw [G];exact r.o.set (Or.inl rfl)
   replace f:Hx (Off z none Z (fun W=>XE W 61 [M O e0,M O e1,M O e2,.string e3,U q0 q1 q2] ed)):=by show Off _ _ _ _;rw [G];exact f.o.set ab.o
   go_simp;rw [<-G];clear G g;clear an ao a7 a8 a9 ba bb bc bd bf bg bh ap aq bi bj bk bl bm bn bo bp bt bu a1 ay a0 ax am ak az aw al ai aj ah;refine xK hK (⟨c.o.row 0 _ rfl,a.o.row 0 _ rfl,a.o.row 1 _ rfl,a.o.row 2 _ rfl,a.o.row 3 _ rfl,a.o.row 4 _ rfl⟩) fun g=>?_;clear hK K;refine kT 7 ?_;refine kT 8 ?_;refine rdA 9 rfl fun K hK=>?_;have ah:bs≠L:=by have:=A.o;omega
   have aj:L≠bs:=by have:=A.o;omega
   have ai:bs≠J:=by have:=C.o;omega
   have al:J≠bs:=by have:=C.o;omega
   have aw:bs≠N:=by have:=I.o;omega
   have az:N≠bs:=by have:=I.o;omega
   have ak:L≠J:=by have:=ad.o;omega
   have am:J≠L:=by have:=ad.o;omega
   have ax:L≠N:=by have:=ar.o;omega
   have a0:N≠L:=by have:=ar.o;omega
   have ay:J≠N:=by have:=au.o;omega
   have a1:N≠J:=by have:=au.o;omega
   obtain ⟨bu,bt,bp,bo,bn,bm,bl,bk,bj,bi,aq,ap⟩:=AC b.o.row;obtain ⟨bh,bg,bf,bd,bc,bb,ba,a9,a8,a7,ao,an⟩:=A0 b.o.fz;obtain ⟨P,F⟩:=nm (Z.setCell ⟨bs,3,none⟩ (.string e3));replace b:Hx (Bx bs [M O 2,M O at_,.string x,.string e3,M O 0,M O 0,M O 0,.string ⟨#[]⟩,U none 0 0,U none 0 0,U none 0 0,U none 0 0] P):=by show Bx _ _ _;rw [F];exact b.o.set (j:=3) (by simp)
   replace i:Hx (Bx L [zd (some ⟨rb,0,none⟩)] P):=by show Bx _ _ _;rw [F];exact i.o.far (by have:=A.o;omega)
   replace c:Hx (Bx J [zd (some ⟨bs,0,none⟩)] P):=by show Bx _ _ _;rw [F];exact c.o.far (by have:=C.o;omega)
   replace a:Hx (Bx N [M O e0,M O e1,M O e2,.string e3,U q0 q1 q2] P):=by show Bx _ _ _;rw [F];exact a.o.far (by have:=I.o;omega)
   replace H:Hx (Rd rb tv ts en w (n3+1) P):=by show Rd _ _ _ _ _ _ _;rw [F];exact H.o.set (by exact af.o)
   replace r:Hx (Fz rb bs u P):=by show Fz _ _ _ _;rw [F];exact r.o.set (Or.inl rfl)
   replace f:Hx (Off z none P (fun W=>XE W 61 [M O e0,M O e1,M O e2,.string e3,U q0 q1 q2] ed)):=by show Off _ _ _ _;rw [F];exact f.o.set ab.o
   go_simp;rw [<-F];clear F g;clear an ao a7 a8 a9 ba bb bc bd bf bg bh ap aq bi bj bk bl bm bn bo bp bt bu a1 ay a0 ax am ak az aw al ai aj ah;refine xK hK (⟨c.o.row 0 _ rfl,a.o.row 0 _ rfl,a.o.row 1 _ rfl,a.o.row 2 _ rfl,a.o.row 3 _ rfl,a.o.row 4 _ rfl⟩) fun g=>?_;clear hK K;refine gE ?_;obtain ⟨B,hB⟩:=nm P.heap.size;have c1:Hx (u.heap.size<=B):=by show _<=_;rw [hB];exact r.o.1
   have cy:Hx (DJ w P rb tv ts en bs L J B (M O 2) (M O at_) (.string x) (.string e3) (M O 0) (M O 0) (M O 0) (.string ⟨#[]⟩) (U none 0 0) (U none 0 0) (U none 0 0) [] (n3+1) P):=⟨H.o,af.o,by rw [hB];exact b.o.lt,ce.o,by rw [hB];exact i.o.lt,cf.o,by rw [hB];exact c.o.lt,by have:=A.o;omega,by have:=C.o;omega,by rw [hB];exact Nat.le_refl _,i.o,c.o,Nat.zero_le _,fun _ _ _ _=>rfl,U none 0 0,b.o,Cop.nil⟩;have ea:Hx (bs < B/\rb < B):=⟨by rw [hB];exact b.o.lt,by have:=H.o.rlt;have:=H.o.size;rw [hB];omega⟩;have K5:Hx (∀ X,Ov P X->_):=fun X (hX:Ov P X)=>J4 (rb:=rb) (tv:=tv) (ts:=ts) (en:=en) ⟨#[41]⟩ [41] rfl (n3+1) X (cy.o.rd.st.below hX);have x0:=cy.o.r1.row 0 _ rfl;clear hB;go_wp2_with fail;refine gS (fun Wz=>Wz.cell? ⟨L,0,none⟩=some (zd (some ⟨rb,0,none⟩))) (ce1 (bD P) x0) fun g=>?_;have c0:Hx (Ov P P.drew):=bD P;generalize P.drew=W at g c0 ⊢;clear x0;refine kT 0 ?_;refine kT 1 ?_;refine kT 4 ?_;refine rdA 2 rfl fun K hK=>?_;go_simp;refine (K5.o _ c0.o).mono ?_;rintro e wq ⟨rfl,c6,c4⟩;obtain ⟨q,hq⟩:=nm (isT ts (n3+1) [41]);rw [<-hq] at aa ⊢;have df:=Aa (cy.o.move (Nat.le_refl _) (Ac (Ad c0.o) c6) c4);clear hq c6 c4 g;go_simp;refine xK hK (df.o.r1.row 0 _ rfl) fun g=>?_;clear hK K;refine kT 3 ?_;refine rdA 5 rfl fun K hK=>?_;have KE:=Aa (IZ (rb:=rb) (tv:=tv) (ts:=ts) (en:=en) 169 [zd (some ⟨J,0,none⟩),zd (some ⟨L,0,none⟩)] Mo ⟨#[44]⟩ (by decide) (pX ts en) (fun cw n2 w'=>DJ w P rb tv ts en bs L J B (M O 2) (M O at_) (.string x) (.string e3) (M O 0) (M O 0) (M O 0) (.string ⟨#[]⟩) (U none 0 0) (U none 0 0) (U none 0 0) cw n2 w') (fun w'=>w.grownBy w' (some rb)) (fun _ _ _ h=>h.rd.st) (fun _ _ _ h=>Nat.le_of_lt (DT 61 0 _ _ _ h).2) (fun _ _ _ _ _ h hn Y hs=>h.move hn Y hs) (fun cw n w' h=>Ks hall cw n w' h) (!q) (n3+1) wq df.o);go_simp;refine KE.o.mono ?_;rintro e we E;obtain ⟨m,ho⟩ | ⟨l,n4,ho⟩:=Ak (Bn ts [44] (pX ts en) (ts.length+1) (!q) [] (n3+1))
   ·replace E:Ao ts en (Bn ts [44] (pX ts en) (ts.length+1) (!q) [] (n3+1)) _ _ e we:=E
    rw [ho] at E;obtain ⟨rfl,Y⟩:=E;have HO:Hx (cb=.inr m):=by show _=_;rw [aa.o,ho];rfl
    have HG:=Aa Y;clear Y ho hK g;unfold Ai;go_simp;refine ⟨rfl,?_⟩;rw [HO.o];exact ⟨rfl,HG.o⟩
   replace E:Ao ts en (Bn ts [44] (pX ts en) (ts.length+1) (!q) [] (n3+1)) _ _ e we:=E;rw [ho] at E;obtain ⟨rfl,c5⟩:=E;have hr:=aa.o;rw [ho,Am] at hr;replace aa:=Aa hr;have cj:=Aa c5;clear ho c5 hr g;refine xK hK (cj.o.r1.row 0 _ rfl) fun g=>?_;clear hK K;refine gE ?_;have K6:=Aa (Bp ⟨#[41]⟩ (by decide) n4 we cj.o.rd.st);have x3:=cj.o.r1.row 0 _ rfl;go_wp2_with fail;clear x3;refine K6.o.mono ?_;rintro e wf E;obtain ⟨m,ho⟩ | ⟨d3,n5,ho⟩:=Ak (Av ts [41] n4)
   ·replace E:Ao ts en (Av ts [41] n4) _ _ e wf:=E
    rw [ho] at E;obtain ⟨rfl,Y⟩:=E;have HO:Hx (cb=.inr m):=by show _=_;rw [aa.o,ho];rfl
    have HG:=Aa (Ac cj.o.rd.gr Y);clear Y ho;unfold Ai;go_wp2_with fail;refine ⟨rfl,?_⟩;rw [HO.o];exact ⟨rfl,HG.o⟩
   replace E:Ao ts en (Av ts [41] n4) _ _ e wf:=E;rw [ho] at E;obtain ⟨rfl,Y,hs⟩:=E;have hr:=aa.o;rw [ho,Am] at hr;replace aa:=Aa hr;have cc:=cj.o.move (Nat.le_of_lt (Be ho)) Y hs;obtain ⟨v,c9,hc⟩:=cc.row;have dj:l.length<=6000:=Nat.le_trans cc.few (Nat.le_trans cc.rd.st.2.1 cc.rd.st.2.2.1);obtain ⟨av,ac,rfl,b4⟩:=Cop.ls hc (by decide) (by omega);have cx:=Aa cc;have dm:=Aa (b4.base c1.o);have dp:=Aa c9;clear ho Y hs cc hc b4 hr dj c9;go_wp2_with fail;go_end0;rw [aa.o];refine ⟨rfl,2,x,e3,0,0,0,⟨#[]⟩,none,0,0,av,l.length,ac,dp.o,dm.o.imp (fun W hW=>⟨2,at_,x,e3,_,_,_,_,_,noE,_,l,_,[],_,[],rfl,?_,XE.none W,hW,LS.nil,LS.nil⟩),cx.o.rd,?_,fun k k1 k2 k3=>?_⟩
   ·rw [cz.o.2]
   ·exact Nat.le_trans c1.o cx.o.sz
   ·rw [cx.o.fr k (Nat.lt_of_lt_of_le k1 c1.o) k2 k3]
    exact r.o.2 k k1 k2 k3
 ·have hr:=aa.o
  rw [if_neg (fun h=>hk2 (cz.o.1.symm.trans h.1))] at hr;replace aa:=Aa hr;clear hr;have ct:(e0 != 2)=true:=by simpa using hk2
  have cs:(e0 == 2)=false:=by simpa using hk2
  go_wp2_with fail;rw [<-b1,<-ch];clear bv cd;clear ch b1;clear ct cs;obtain ⟨V9,Q⟩:=nm V8.drew;replace b:Hx (Bx bs [M O 0,M O at_,.string x,.string ⟨#[]⟩,M O 0,M O 0,M O 0,.string ⟨#[]⟩,U none 0 0,U none 0 0,U none 0 0,U none 0 0] V9):=by show Bx _ _ _;rw [Q];exact b.o.over (bD _)
  replace i:Hx (Bx L [zd (some ⟨rb,0,none⟩)] V9):=by show Bx _ _ _;rw [Q];exact i.o.over (bD _)
  replace c:Hx (Bx J [zd (some ⟨bs,0,none⟩)] V9):=by show Bx _ _ _;rw [Q];exact c.o.over (bD _)
  replace a:Hx (Bx N [M O e0,M O e1,M O e2,.string e3,U q0 q1 q2] V9):=by show Bx _ _ _;rw [Q];exact a.o.over (bD _)
  replace H:Hx (Rd rb tv ts en w (n3) V9):=by show Rd _ _ _ _ _ _ _;rw [Q];exact H.o.over (bD _)
  replace r:Hx (Fz rb bs u V9):=by show Fz _ _ _ _;rw [Q];exact r.o.over (bD _)
  replace f:Hx (Off z none V9 (fun W=>XE W 61 [M O e0,M O e1,M O e2,.string e3,U q0 q1 q2] ed)):=by show Off _ _ _ _;rw [Q];exact f.o.over (bD _)
  refine gS (fun Wz=>Wz.cell? ⟨J,0,none⟩=some (zd (some ⟨bs,0,none⟩))/\Wz.cell? ⟨N,0,none⟩=some (M O e0)/\Wz.cell? ⟨N,1,none⟩=some (M O e1)/\Wz.cell? ⟨N,2,none⟩=some (M O e2)/\Wz.cell? ⟨N,3,none⟩=some (.string e3)/\Wz.cell? ⟨N,4,none⟩=some (U q0 q1 q2)) (by rw [<-Q];exact ⟨c.o.row 0 _ rfl,a.o.row 0 _ rfl,a.o.row 1 _ rfl,a.o.row 2 _ rfl,a.o.row 3 _ rfl,a.o.row 4 _ rfl⟩) fun g=>?_;rw [<-Q] at g ⊢;clear Q;refine kT 0 ?_;refine kT 1 ?_;refine kT 2 ?_;refine kT 3 ?_;refine kT 4 ?_;refine rdA 5 rfl fun K hK=>?_;have ah:bs≠L:=by have:=A.o;omega
  have aj:L≠bs:=by have:=A.o;omega
  have ai:bs≠J:=by have:=C.o;omega
  have al:J≠bs:=by have:=C.o;omega
  have aw:bs≠N:=by have:=I.o;omega
  have az:N≠bs:=by have:=I.o;omega
  have ak:L≠J:=by have:=ad.o;omega
  have am:J≠L:=by have:=ad.o;omega
  have ax:L≠N:=by have:=ar.o;omega
  have a0:N≠L:=by have:=ar.o;omega
  have ay:J≠N:=by have:=au.o;omega
  have a1:N≠J:=by have:=au.o;omega
  obtain ⟨bu,bt,bp,bo,bn,bm,bl,bk,bj,bi,aq,ap⟩:=AC b.o.row;obtain ⟨bh,bg,bf,bd,bc,bb,ba,a9,a8,a7,ao,an⟩:=A0 b.o.fz;obtain ⟨Z,G⟩:=nm (V9.setCell ⟨bs,0,none⟩ (M O 1));replace b:Hx (Bx bs [M O 1,M O at_,.string x,.string ⟨#[]⟩,M O 0,M O 0,M O 0,.string ⟨#[]⟩,U none 0 0,U none 0 0,U none 0 0,U none 0 0] Z):=by show Bx _ _ _;rw [G];exact b.o.set (j:=0) (by simp)
  replace i:Hx (Bx L [zd (some ⟨rb,0,none⟩)] Z):=by show Bx _ _ _;rw [G];exact i.o.far (by have:=A.o;omega)
  replace c:Hx (Bx J [zd (some ⟨bs,0,none⟩)] Z):=by show Bx _ _ _;rw [G];exact c.o.far (by have:=C.o;omega)
  replace a:Hx (Bx N [M O e0,M O e1,M O e2,.string e3,U q0 q1 q2] Z):=by show Bx _ _ _;rw [G];exact a.o.far (by have:=I.o;omega)
  replace H:Hx (Rd rb tv ts en w (n3) Z):=by show Rd _ _ _ _ _ _ _;rw [G];exact H.o.set (by exact af.o)
  replace r:Hx (Fz rb bs u Z):=by show Fz _ _ _ _;rw [G];exact r.o.set (Or.inl rfl)
  replace f:Hx (Off z none Z (fun W=>XE W 61 [M O e0,M O e1,M O e2,.string e3,U q0 q1 q2] ed)):=by show Off _ _ _ _;rw [G];exact f.o.set ab.o
  go_simp;rw [<-G];clear G g;clear an ao a7 a8 a9 ba bb bc bd bf bg bh ap aq bi bj bk bl bm bn bo bp bt bu a1 ay a0 ax am ak az aw al ai aj ah;refine xK hK (⟨c.o.row 0 _ rfl,a.o.row 0 _ rfl,a.o.row 1 _ rfl,a.o.row 2 _ rfl,a.o.row 3 _ rfl,a.o.row 4 _ rfl⟩) fun g=>?_;clear hK K;refine kT 6 ?_;refine kT 7 ?_;refine rdA 8 rfl fun K hK=>?_;have ah:bs≠L:=by have:=A.o;omega
  have aj:L≠bs:=by have:=A.o;omega
  have ai:bs≠J:=by have:=C.o;omega
  have al:J≠bs:=by have:=C.o;omega
  have aw:bs≠N:=by have:=I.o;omega
  have az:N≠bs:=by have:=I.o;omega
  have ak:L≠J:=by have:=ad.o;omega
  have am:J≠L:=by have:=ad.o;omega
  have ax:L≠N:=by have:=ar.o;omega
  have a0:N≠L:=by have:=ar.o;omega
  have ay:J≠N:=by have:=au.o;omega
  have a1:N≠J:=by have:=au.o;omega
  obtain ⟨bu,bt,bp,bo,bn,bm,bl,bk,bj,bi,aq,ap⟩:=AC b.o.row;obtain ⟨bh,bg,bf,bd,bc,bb,ba,a9,a8,a7,ao,an⟩:=A0 b.o.fz;obtain ⟨P,F⟩:=nm (Z.setCell ⟨bs,4,none⟩ (M O e0));replace b:Hx (Bx bs [M O 1,M O at_,.string x,.string ⟨#[]⟩,M O e0,M O 0,M O 0,.string ⟨#[]⟩,U none 0 0,U none 0 0,U none 0 0,U none 0 0] P):=by show Bx _ _ _;rw [F];exact b.o.set (j:=4) (by simp)
  replace i:Hx (Bx L [zd (some ⟨rb,0,none⟩)] P):=by show Bx _ _ _;rw [F];exact i.o.far (by have:=A.o;omega)
  replace c:Hx (Bx J [zd (some ⟨bs,0,none⟩)] P):=by show Bx _ _ _;rw [F];exact c.o.far (by have:=C.o;omega)
  replace a:Hx (Bx N [M O e0,M O e1,M O e2,.string e3,U q0 q1 q2] P):=by show Bx _ _ _;rw [F];exact a.o.far (by have:=I.o;omega)
  replace H:Hx (Rd rb tv ts en w (n3) P):=by show Rd _ _ _ _ _ _ _;rw [F];exact H.o.set (by exact af.o)
  replace r:Hx (Fz rb bs u P):=by show Fz _ _ _ _;rw [F];exact r.o.set (Or.inl rfl)
  replace f:Hx (Off z none P (fun W=>XE W 61 [M O e0,M O e1,M O e2,.string e3,U q0 q1 q2] ed)):=by show Off _ _ _ _;rw [F];exact f.o.set ab.o
  obtain ⟨a4,V⟩:=nm (P.setCell ⟨bs,5,none⟩ (M O e1));replace b:Hx (Bx bs [M O 1,M O at_,.string x,.string ⟨#[]⟩,M O e0,M O e1,M O 0,.string ⟨#[]⟩,U none 0 0,U none 0 0,U none 0 0,U none 0 0] a4):=by show Bx _ _ _;rw [V];exact b.o.set (j:=5) (by simp)
  replace i:Hx (Bx L [zd (some ⟨rb,0,none⟩)] a4):=by show Bx _ _ _;rw [V];exact i.o.far (by have:=A.o;omega)
  replace c:Hx (Bx J [zd (some ⟨bs,0,none⟩)] a4):=by show Bx _ _ _;rw [V];exact c.o.far (by have:=C.o;omega)
  replace a:Hx (Bx N [M O e0,M O e1,M O e2,.string e3,U q0 q1 q2] a4):=by show Bx _ _ _;rw [V];exact a.o.far (by have:=I.o;omega)
  replace H:Hx (Rd rb tv ts en w (n3) a4):=by show Rd _ _ _ _ _ _ _;rw [V];exact H.o.set (by exact af.o)
  replace r:Hx (Fz rb bs u a4):=by show Fz _ _ _ _;rw [V];exact r.o.set (Or.inl rfl)
  replace f:Hx (Off z none a4 (fun W=>XE W 61 [M O e0,M O e1,M O e2,.string e3,U q0 q1 q2] ed)):=by show Off _ _ _ _;rw [V];exact f.o.set ab.o
  obtain ⟨a3,T⟩:=nm (a4.setCell ⟨bs,6,none⟩ (M O e2));replace b:Hx (Bx bs [M O 1,M O at_,.string x,.string ⟨#[]⟩,M O e0,M O e1,M O e2,.string ⟨#[]⟩,U none 0 0,U none 0 0,U none 0 0,U none 0 0] a3):=by show Bx _ _ _;rw [T];exact b.o.set (j:=6) (by simp)
  replace i:Hx (Bx L [zd (some ⟨rb,0,none⟩)] a3):=by show Bx _ _ _;rw [T];exact i.o.far (by have:=A.o;omega)
  replace c:Hx (Bx J [zd (some ⟨bs,0,none⟩)] a3):=by show Bx _ _ _;rw [T];exact c.o.far (by have:=C.o;omega)
  replace a:Hx (Bx N [M O e0,M O e1,M O e2,.string e3,U q0 q1 q2] a3):=by show Bx _ _ _;rw [T];exact a.o.far (by have:=I.o;omega)
  replace H:Hx (Rd rb tv ts en w (n3) a3):=by show Rd _ _ _ _ _ _ _;rw [T];exact H.o.set (by exact af.o)
  replace r:Hx (Fz rb bs u a3):=by show Fz _ _ _ _;rw [T];exact r.o.set (Or.inl rfl)
  replace f:Hx (Off z none a3 (fun W=>XE W 61 [M O e0,M O e1,M O e2,.string e3,U q0 q1 q2] ed)):=by show Off _ _ _ _;rw [T];exact f.o.set ab.o
  obtain ⟨a2,S⟩:=nm (a3.setCell ⟨bs,7,none⟩ (.string e3));replace b:Hx (Bx bs [M O 1,M O at_,.string x,.string ⟨#[]⟩,M O e0,M O e1,M O e2,.string e3,U none 0 0,U none 0 0,U none 0 0,U none 0 0] a2):=by show Bx _ _ _;rw [S];exact b.o.set (j:=7) (by simp)
  replace i:Hx (Bx L [zd (some ⟨rb,0,none⟩)] a2):=by show Bx _ _ _;rw [S];exact i.o.far (by have:=A.o;omega)
  replace c:Hx (Bx J [zd (some ⟨bs,0,none⟩)] a2):=by show Bx _ _ _;rw [S];exact c.o.far (by have:=C.o;omega)
  replace a:Hx (Bx N [M O e0,M O e1,M O e2,.string e3,U q0 q1 q2] a2):=by show Bx _ _ _;rw [S];exact a.o.far (by have:=I.o;omega)
  replace H:Hx (Rd rb tv ts en w (n3) a2):=by show Rd _ _ _ _ _ _ _;rw [S];exact H.o.set (by exact af.o)
  replace r:Hx (Fz rb bs u a2):=by show Fz _ _ _ _;rw [S];exact r.o.set (Or.inl rfl)
  replace f:Hx (Off z none a2 (fun W=>XE W 61 [M O e0,M O e1,M O e2,.string e3,U q0 q1 q2] ed)):=by show Off _ _ _ _;rw [S];exact f.o.set ab.o
  obtain ⟨a6,R⟩:=nm (a2.setCell ⟨bs,8,none⟩ (U q0 q1 q2));replace b:Hx (Bx bs [M O 1,M O at_,.string x,.string ⟨#[]⟩,M O e0,M O e1,M O e2,.string e3,U q0 q1 q2,U none 0 0,U none 0 0,U none 0 0] a6):=by show Bx _ _ _;rw [R];exact b.o.set (j:=8) (by simp)
  replace i:Hx (Bx L [zd (some ⟨rb,0,none⟩)] a6):=by show Bx _ _ _;rw [R];exact i.o.far (by have:=A.o;omega)
  replace c:Hx (Bx J [zd (some ⟨bs,0,none⟩)] a6):=by show Bx _ _ _;rw [R];exact c.o.far (by have:=C.o;omega)
  replace a:Hx (Bx N [M O e0,M O e1,M O e2,.string e3,U q0 q1 q2] a6):=by show Bx _ _ _;rw [R];exact a.o.far (by have:=I.o;omega)
  replace H:Hx (Rd rb tv ts en w (n3) a6):=by show Rd _ _ _ _ _ _ _;rw [R];exact H.o.set (by exact af.o)
  replace r:Hx (Fz rb bs u a6):=by show Fz _ _ _ _;rw [R];exact r.o.set (Or.inl rfl)
  replace f:Hx (Off z none a6 (fun W=>XE W 61 [M O e0,M O e1,M O e2,.string e3,U q0 q1 q2] ed)):=by show Off _ _ _ _;rw [R];exact f.o.set ab.o
  go_simp;rw [<-F,<-V,<-T,<-S,<-R];clear R S T V F g;clear an ao a7 a8 a9 ba bb bc bd bf bg bh ap aq bi bj bk bl bm bn bo bp bt bu a1 ay a0 ax am ak az aw al ai aj ah;refine xK hK (⟨c.o.row 0 _ rfl,a.o.row 0 _ rfl,a.o.row 1 _ rfl,a.o.row 2 _ rfl,a.o.row 3 _ rfl,a.o.row 4 _ rfl⟩) fun g=>?_;clear hK K;refine gE ?_;go_wp2_with fail;go_end0;rw [aa.o];exact ⟨rfl,1,x,⟨#[]⟩,e0,e1,e2,e3,q0,q1,q2,none,0,0,b.o,(f.o.base dd.o).imp (fun W hW=>⟨1,at_,x,⟨#[]⟩,_,_,_,_,_,ed,_,[],_,[],_,[],rfl,rfl,hW,LS.nil,LS.nil,LS.nil⟩),H.o,r.o⟩
end Go.Proofs.YtipngnjffjajpaaGreatDoor.Tx
