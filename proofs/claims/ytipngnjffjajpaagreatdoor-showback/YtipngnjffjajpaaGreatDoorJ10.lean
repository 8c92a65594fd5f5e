/- Package tree's reader: what a variable becomes. -/
import Derived.Test.YtipngnjffjajpaaGreatDoorJ09
set_option linter.unusedVariables false
set_option maxHeartbeats 8000000
set_option maxRecDepth 100000
namespace Go.Proofs.YtipngnjffjajpaaGreatDoor.Tx
open Go.RowKit
open Go.Value renaming int -> I, slice -> zc, bool -> zd, pointer -> zf, agg -> zg, tuple -> zi
open Go.IntKind renaming i64 -> O
open Go.Obj renaming cells -> ze
open Go.Ending renaming returned -> zh
def Fz (rb sb:Nat) (u V:World):Prop:=u.heap.size<=V.heap.size/\∀ k,k < u.heap.size->k≠rb->k≠sb->V.heap[k]? = u.heap[k]?
section
variable {rb sb b j:Nat} {u V V':World} {x:Value}
theorem Fz.refl (rb sb:Nat) (u:World):Fz rb sb u u:=⟨Nat.le_refl _,fun _ _ _ _=>rfl⟩
theorem Fz.over (h:Fz rb sb u V) (hb:Ov V V'):Fz rb sb u V':=⟨Nat.le_trans h.1 hb.size,fun k h1 h2 h3=>(hb.block k (Nat.lt_of_lt_of_le h1 h.1)).trans (h.2 k h1 h2 h3)⟩
theorem Fz.call (h:Fz rb sb u V) (hg:V.grownBy V' (some rb)):Fz rb sb u V':=⟨Nat.le_trans h.1 hg.size,fun k h1 h2 h3=>(hg.block k (Nat.lt_of_lt_of_le h1 h.1) (nsr h2)).trans (h.2 k h1 h2 h3)⟩
theorem Fz.set (h:Fz rb sb u V) (hb:b=sb\/u.heap.size<=b):Fz rb sb u (V.setCell ⟨b,j,none⟩ x):=⟨by rw [(Bf _ _ _).2.2.2];exact h.1,fun k h1 h2 h3=>by
 rw [Below.heap_setCell _ _ _ _ (by show k≠b;rcases hb with e | e <;> omega)]
 exact h.2 k h1 h2 h3⟩
end
theorem PH (args:Array Value) (w:World):(callFunc 169 args).run Tryz.prog w=.ok (.enter 169 args) w:=by simp [go_sem]
theorem Oh {rb:Nat} {tv:Value} {ts:List Tok} {en:Nat} (hall:ts.all Ao=true) {w:World} {bs:Nat} (at_:Int) (n:Nat) (u:World) (hd:Rd rb tv ts en w n u) (hsb:w.heap.size<=bs) (hb:Bx bs [I O 0,I O at_,.string ⟨#[]⟩,.string ⟨#[]⟩,I O 0,I O 0,I O 0,.string ⟨#[]⟩,zc none 0 0,zc none 0 0,zc none 0 0,zc none 0 0] u) :
  Calls Tryz.prog 157 #[zf (some ⟨rb,0,none⟩),zf (some ⟨bs,0,none⟩)] u (Am ts en (Db ts en at_ n) (fun d n1 e w'=>e=zh (zi #[])/\∃ (kd:Int) (x y:ByteArray) (e0 e1 e2:Int) (e3:ByteArray) (q0:Option Addr) (q1 q2:Nat) (q3:Option Addr) (q4 q5:Nat),Bx bs [I O kd,I O at_,.string x,.string y,I O e0,I O e1,I O e2,.string e3,zc q0 q1 q2,zc q3 q4 q5,zc none 0 0,zc none 0 0] w'/\Off u.heap.size none w' (fun W=>XC W 1 [I O kd,I O at_,.string x,.string y,I O e0,I O e1,I O e2,.string e3,zc q0 q1 q2,zc q3 q4 q5,zc none 0 0,zc none 0 0] d)/\Rd rb tv ts en w n1 w'/\Fz rb bs u w') (fun w'=>w.grownBy w' (some rb))):=by
 obtain ⟨ca,cf⟩:=nm (Db ts en at_ n);rw [<-cf];have Z:Hx (ca=Ar (AD ts n) fun x n1=>Ar (Aq ts [61] n1) fun _ n2=>Ar (pX ts en n2) fun e n3=>
   if N4 e=2/\isT ts n3 [40]=true then
    Ar (BW ts [44] (pX ts en) (ts.length+1) (!isT ts (n3+1) [41]) [] (n3+1)) fun l n4=>Ar (Aq ts [41] n4) fun _ n5=>.inl (stD 2 at_ x ⟨(Ia e).toArray⟩ noE l [] [],n5)
   else .inl (stD 1 at_ x noS e [] [] [],n3)):=cf
 have H:=Aa hd;have b:=Aa hb;have ae:=Aa hsb;have r:=Aa (Fz.refl rb bs u);clear cf hd hb hsb;have b6:Hx (u.heap.size<=u.heap.size):=r.o.1;obtain ⟨V1,b9⟩:=nm (u.alloc (ze #[zf (some ⟨rb,0,none⟩)] 91));obtain ⟨M,ct⟩:=nm u.heap.size;have b1:=ct;have cd:Hx (w.heap.size<=M):=by show _<=_;rw [b1];exact H.o.size
 have A:Hx (bs < M):=by show _ < _;rw [b1];exact b.o.lt
 have i:Hx (Bx M [zf (some ⟨rb,0,none⟩)] V1):=by show Bx _ _ _;rw [b9,b1];exact Bx.new u [zf (some ⟨rb,0,none⟩)] 91
 replace b:Hx (Bx bs [I O 0,I O at_,.string ⟨#[]⟩,.string ⟨#[]⟩,I O 0,I O 0,I O 0,.string ⟨#[]⟩,zc none 0 0,zc none 0 0,zc none 0 0,zc none 0 0] V1):=by show Bx _ _ _;rw [b9];exact b.o.over (bA _ _)
 replace H:Hx (Rd rb tv ts en w (n) V1):=by show Rd _ _ _ _ _ _ _;rw [b9];exact H.o.over (bA _ _)
 replace r:Hx (Fz rb bs u V1):=by show Fz _ _ _ _;rw [b9];exact r.o.over (bA _ _)
 have d9:Hx (u.heap.size<=M):=by show _<=_;rw [b1];exact b6.o
 clear b6;have b6:Hx (u.heap.size<=V1.heap.size):=r.o.1;obtain ⟨V2,b8⟩:=nm (V1.alloc (ze #[zf (some ⟨bs,0,none⟩)] 164));obtain ⟨L,cu⟩:=nm (M+1);have b2:L=V1.heap.size:=by rw [cu,b9,alS,b1]
 have ce:Hx (w.heap.size<=L):=by show _<=_;rw [b2];exact H.o.size
 have C:Hx (bs < L):=by show _ < _;rw [b2];exact b.o.lt
 have ab:Hx (M < L):=by show _ < _;rw [b2];exact i.o.lt
 have c:Hx (Bx L [zf (some ⟨bs,0,none⟩)] V2):=by show Bx _ _ _;rw [b8,b2];exact Bx.new V1 [zf (some ⟨bs,0,none⟩)] 164
 replace b:Hx (Bx bs [I O 0,I O at_,.string ⟨#[]⟩,.string ⟨#[]⟩,I O 0,I O 0,I O 0,.string ⟨#[]⟩,zc none 0 0,zc none 0 0,zc none 0 0,zc none 0 0] V2):=by show Bx _ _ _;rw [b8];exact b.o.over (bA _ _)
 replace i:Hx (Bx M [zf (some ⟨rb,0,none⟩)] V2):=by show Bx _ _ _;rw [b8];exact i.o.over (bA _ _)
 replace H:Hx (Rd rb tv ts en w (n) V2):=by show Rd _ _ _ _ _ _ _;rw [b8];exact H.o.over (bA _ _)
 replace r:Hx (Fz rb bs u V2):=by show Fz _ _ _ _;rw [b8];exact r.o.over (bA _ _)
 have ea:Hx (u.heap.size<=L):=by show _<=_;rw [b2];exact b6.o
 clear b6;go_enter Tryz.func157,Tryz.ntmps157;go_wp2_with fail;rw [<-b9,<-ct,<-b8,<-cu];clear b2 b1;clear cu b8 ct b9;have K1:=Aa fun X hX=>Cq (rb:=rb) (tv:=tv) (ts:=ts) (en:=en) n X hX;obtain ⟨V3,b5⟩:=nm V2.drew;replace b:Hx (Bx bs [I O 0,I O at_,.string ⟨#[]⟩,.string ⟨#[]⟩,I O 0,I O 0,I O 0,.string ⟨#[]⟩,zc none 0 0,zc none 0 0,zc none 0 0,zc none 0 0] V3):=by show Bx _ _ _;rw [b5];exact b.o.over (bD _)
 replace i:Hx (Bx M [zf (some ⟨rb,0,none⟩)] V3):=by show Bx _ _ _;rw [b5];exact i.o.over (bD _)
 replace c:Hx (Bx L [zf (some ⟨bs,0,none⟩)] V3):=by show Bx _ _ _;rw [b5];exact c.o.over (bD _)
 replace H:Hx (Rd rb tv ts en w (n) V3):=by show Rd _ _ _ _ _ _ _;rw [b5];exact H.o.over (bD _)
 replace r:Hx (Fz rb bs u V3):=by show Fz _ _ _ _;rw [b5];exact r.o.over (bD _)
 refine gS (fun Wz=>Wz.cell? ⟨L,0,none⟩=some (zf (some ⟨bs,0,none⟩))/\Wz.cell? ⟨M,0,none⟩=some (zf (some ⟨rb,0,none⟩))) (by rw [<-b5];exact ⟨c.o.row 0 _ rfl,i.o.row 0 _ rfl⟩) fun g=>?_;rw [<-b5] at g ⊢;clear b5;refine kT 0 ?_;refine kT 1 ?_;refine rdA 2 rfl fun K hK=>?_;go_simp;refine (K1.o _ H.o.st).mono ?_;rintro e w4 E;obtain ⟨m,ho⟩ | ⟨x,n1,ho⟩:=Aj (AD ts n)
 ·replace E:Am ts en (AD ts n) _ _ e w4:=E
  rw [ho] at E;obtain ⟨rfl,V⟩:=E;have HO:Hx (ca=.inr m):=by show _=_;rw [Z.o,ho];rfl
  have HG:=Aa (Ab H.o.gr V);clear V ho hK g;unfold Ai;go_simp;refine ⟨rfl,?_⟩;rw [HO.o];exact ⟨rfl,HG.o⟩
 replace E:Am ts en (AD ts n) _ _ e w4:=E;rw [ho] at E;obtain ⟨rfl,V,hs⟩:=E;have hr:=Z.o;rw [ho,Al] at hr;replace Z:=Aa hr;have ch:=Aa ho;clear hr ho g;clear ch;replace r:=Aa (r.o.call V);replace b:=bkp b H.o.rlt ae V;replace i:=bkp i H.o.rlt cd V;replace c:=bkp c H.o.rlt ce V;replace H:Hx (Rd rb tv ts en w (n1) w4):=H.o.call V hs;clear V hs;go_simp;refine xK hK (⟨c.o.row 0 _ rfl,i.o.row 0 _ rfl⟩) fun g=>?_;clear hK K;refine kT 3 ?_;refine kT 4 ?_;refine rdA 5 rfl fun K hK=>?_;have ag:bs≠M:=by have:=A.o;omega
 have ai:M≠bs:=by have:=A.o;omega
 have ah:bs≠L:=by have:=C.o;omega
 have ak:L≠bs:=by have:=C.o;omega
 have aj:M≠L:=by have:=ab.o;omega
 have al:L≠M:=by have:=ab.o;omega
 obtain ⟨bt,bp,bo,bn,bm,bl,bk,bj,bi,bh,ap,ao⟩:=AU b.o.row;obtain ⟨bg,bf,bd,bc,bb,ba,a9,a8,a7,a6,an,am⟩:=Ci b.o.fz;obtain ⟨V5,b7⟩:=nm (w4.setCell ⟨bs,2,none⟩ (.string x));replace b:Hx (Bx bs [I O 0,I O at_,.string x,.string ⟨#[]⟩,I O 0,I O 0,I O 0,.string ⟨#[]⟩,zc none 0 0,zc none 0 0,zc none 0 0,zc none 0 0] V5):=by show Bx _ _ _;rw [b7];exact b.o.set (j:=2) (by simp)
 replace i:Hx (Bx M [zf (some ⟨rb,0,none⟩)] V5):=by show Bx _ _ _;rw [b7];exact i.o.far (by have:=A.o;omega)
 replace c:Hx (Bx L [zf (some ⟨bs,0,none⟩)] V5):=by show Bx _ _ _;rw [b7];exact c.o.far (by have:=C.o;omega)
 replace H:Hx (Rd rb tv ts en w (n1) V5):=by show Rd _ _ _ _ _ _ _;rw [b7];exact H.o.set (by exact ae.o)
 replace r:Hx (Fz rb bs u V5):=by show Fz _ _ _ _;rw [b7];exact r.o.set (Or.inl rfl)
 go_simp;rw [<-b7];clear b7 g;clear am an a6 a7 a8 a9 ba bb bc bd bf bg ao ap bh bi bj bk bl bm bn bo bp bt al aj ak ah ai ag;refine xK hK (⟨c.o.row 0 _ rfl,i.o.row 0 _ rfl⟩) fun g=>?_;clear hK K;refine gE ?_;have K2:=Aa (Bs ⟨#[61]⟩ (by decide) n1 _ H.o.st);clear K1;have cc:=i.o.row 0 _ rfl;go_wp2_with fail;clear cc;refine K2.o.mono ?_;rintro e w6 E;obtain ⟨m,ho⟩ | ⟨_u,n2,ho⟩:=Aj (Aq ts [61] n1)
 ·replace E:Am ts en (Aq ts [61] n1) _ _ e w6:=E
  rw [ho] at E;obtain ⟨rfl,V⟩:=E;have HO:Hx (ca=.inr m):=by show _=_;rw [Z.o,ho];rfl
  have HG:=Aa (Ab H.o.gr V);clear V ho;unfold Ai;go_wp2_with fail;refine ⟨rfl,?_⟩;rw [HO.o];exact ⟨rfl,HG.o⟩
 replace E:Am ts en (Aq ts [61] n1) _ _ e w6:=E;rw [ho] at E;obtain ⟨rfl,V,hs⟩:=E;have hr:=Z.o;rw [ho,Al] at hr;replace Z:=Aa hr;have ch:=Aa ho;clear hr ho;clear ch;replace r:=Aa (r.o.call V);replace b:=bkp b H.o.rlt ae V;replace i:=bkp i H.o.rlt cd V;replace c:=bkp c H.o.rlt ce V;replace H:Hx (Rd rb tv ts en w (n2) w6):=H.o.call V hs;clear V hs;have K3:=Aa (Ew hall n2 _ H.o.st);clear K2;have cc:=i.o.row 0 _ rfl;go_wp2_with fail;clear cc;obtain ⟨z,hz⟩:=nm w6.heap.size;have dc:Hx (u.heap.size<=z):=by show _<=_;rw [hz];exact r.o.1
 have db:Hx (w.heap.size<=z):=by show _<=_;rw [hz];exact H.o.size
 have aa:Hx (bs < z):=by show _ < _;rw [hz];exact b.o.lt
 have dy:Hx (M < z):=by show _ < _;rw [hz];exact i.o.lt
 have dz:Hx (L < z):=by show _ < _;rw [hz];exact c.o.lt
 refine K3.o.mono ?_;rintro e w7 E;obtain ⟨m,ho⟩ | ⟨ed,n3,ho⟩:=Aj (pX ts en n2)
 ·replace E:Am ts en (pX ts en n2) _ _ e w7:=E
  rw [ho] at E;obtain ⟨rfl,V⟩:=E;have HO:Hx (ca=.inr m):=by show _=_;rw [Z.o,ho];rfl
  have HG:=Aa (Ab H.o.gr V);clear V ho;unfold Ai;go_wp2_with fail;refine ⟨rfl,?_⟩;rw [HO.o];exact ⟨rfl,HG.o⟩
 replace E:Am ts en (pX ts en n2) _ _ e w7:=E;rw [ho] at E;obtain ⟨e0,e1,e2,e3,q0,q1,q2,rfl,b3,c7,c6,V,hs⟩:=E;have hr:=Z.o;rw [ho,Al] at hr;replace Z:=Aa hr;have ch:=Aa ho;clear hr ho;rw [<-hz] at b3;have f:=Aa b3;have cy:=Aa (And.intro c7 c6);clear b3 c7 c6 hz;clear ch;replace r:=Aa (r.o.call V);replace b:=bkp b H.o.rlt ae V;replace i:=bkp i H.o.rlt cd V;replace c:=bkp c H.o.rlt ce V;replace H:Hx (Rd rb tv ts en w (n3) w7):=H.o.call V hs;clear V hs;clear K3;have cc:=AQ (i.o.row 0 _ rfl) (ze #[I O e0,I O e1,I O e2,.string e3,zc q0 q1 q2] 49);have b6:Hx (u.heap.size<=w7.heap.size):=r.o.1;obtain ⟨V8,b0⟩:=nm (w7.alloc (ze #[I O e0,I O e1,I O e2,.string e3,zc q0 q1 q2] 49));obtain ⟨N,cg⟩:=nm w7.heap.size;have bu:=cg;have dd:Hx (w.heap.size<=N):=by show _<=_;rw [bu];exact H.o.size
 have J:Hx (bs < N):=by show _ < _;rw [bu];exact b.o.lt
 have aq:Hx (M < N):=by show _ < _;rw [bu];exact i.o.lt
 have ar:Hx (L < N):=by show _ < _;rw [bu];exact c.o.lt
 have a:Hx (Bx N [I O e0,I O e1,I O e2,.string e3,zc q0 q1 q2] V8):=by show Bx _ _ _;rw [b0,bu];exact Bx.new w7 [I O e0,I O e1,I O e2,.string e3,zc q0 q1 q2] 49
 replace b:Hx (Bx bs [I O 0,I O at_,.string x,.string ⟨#[]⟩,I O 0,I O 0,I O 0,.string ⟨#[]⟩,zc none 0 0,zc none 0 0,zc none 0 0,zc none 0 0] V8):=by show Bx _ _ _;rw [b0];exact b.o.over (bA _ _)
 replace i:Hx (Bx M [zf (some ⟨rb,0,none⟩)] V8):=by show Bx _ _ _;rw [b0];exact i.o.over (bA _ _)
 replace c:Hx (Bx L [zf (some ⟨bs,0,none⟩)] V8):=by show Bx _ _ _;rw [b0];exact c.o.over (bA _ _)
 replace H:Hx (Rd rb tv ts en w (n3) V8):=by show Rd _ _ _ _ _ _ _;rw [b0];exact H.o.over (bA _ _)
 replace f:Hx (Off z none V8 (fun W=>XE W 61 [I O e0,I O e1,I O e2,.string e3,zc q0 q1 q2] ed)):=by show Off _ _ _ _;rw [b0];exact f.o.over (bA _ _)
 replace r:Hx (Fz rb bs u V8):=by show Fz _ _ _ _;rw [b0];exact r.o.over (bA _ _)
 have eb:Hx (u.heap.size<=N):=by show _<=_;rw [bu];exact b6.o
 clear b6;by_cases hk2:e0=2
 ·have dm:=Aa hk2
  have K4:=Aa (Gd ⟨#[40]⟩ (by decide) n3 _ H.o.st);have cs:(e0 != 2)=false:=by simpa using hk2
  have cr:(e0 == 2)=true:=by simpa using hk2
  clear hk2;go_wp2_with fail;rw [<-b0,<-cg];clear bu cc;clear cg b0;clear cs cr;refine K4.o.mono ?_;rintro e wt ⟨rfl,V,hs⟩;replace hs:St rb tv ts en (if isT ts n3 [40]=true then n3+1 else n3) wt:=hs
  cases hq:isT ts n3 [40] with
  | false=>
   rw [hq] at hs;have hr:=Z.o;rw [if_neg (by rw [hq];simp)] at hr;replace Z:=Aa hr;replace hs:St rb tv ts en n3 wt:=hs;try rw [show isT ts n3 (ByteArray.mk #[40]).data.toList=false from hq]
   clear hr hq K4;replace r:=Aa (r.o.call V);replace b:=bkp b H.o.rlt ae V;replace i:=bkp i H.o.rlt cd V;replace c:=bkp c H.o.rlt ce V;replace a:=bkp a H.o.rlt dd V;replace f:=Aa (f.o.keep V (by have:=H.o.rlt;have:=db.o;omega));replace H:Hx (Rd rb tv ts en w (n3) wt):=H.o.call V hs;clear V hs;go_wp2_with fail;obtain ⟨V9,Q⟩:=nm wt.drew;replace b:Hx (Bx bs [I O 0,I O at_,.string x,.string ⟨#[]⟩,I O 0,I O 0,I O 0,.string ⟨#[]⟩,zc none 0 0,zc none 0 0,zc none 0 0,zc none 0 0] V9):=by show Bx _ _ _;rw [Q];exact b.o.over (bD _)
   replace i:Hx (Bx M [zf (some ⟨rb,0,none⟩)] V9):=by show Bx _ _ _;rw [Q];exact i.o.over (bD _)
   replace c:Hx (Bx L [zf (some ⟨bs,0,none⟩)] V9):=by show Bx _ _ _;rw [Q];exact c.o.over (bD _)
   replace a:Hx (Bx N [I O e0,I O e1,I O e2,.string e3,zc q0 q1 q2] V9):=by show Bx _ _ _;rw [Q];exact a.o.over (bD _)
   replace H:Hx (Rd rb tv ts en w (n3) V9):=by show Rd _ _ _ _ _ _ _;rw [Q];exact H.o.over (bD _)
   replace r:Hx (Fz rb bs u V9):=by show Fz _ _ _ _;rw [Q];exact r.o.over (bD _)
   replace f:Hx (Off z none V9 (fun W=>XE W 61 [I O e0,I O e1,I O e2,.string e3,zc q0 q1 q2] ed)):=by show Off _ _ _ _;rw [Q];exact f.o.over (bD _)
   refine gS (fun Wz=>Wz.cell? ⟨L,0,none⟩=some (zf (some ⟨bs,0,none⟩))/\Wz.cell? ⟨N,0,none⟩=some (I O e0)/\Wz.cell? ⟨N,1,none⟩=some (I O e1)/\Wz.cell? ⟨N,2,none⟩=some (I O e2)/\Wz.cell? ⟨N,3,none⟩=some (.string e3)/\Wz.cell? ⟨N,4,none⟩=some (zc q0 q1 q2)) (by rw [<-Q];exact ⟨c.o.row 0 _ rfl,a.o.row 0 _ rfl,a.o.row 1 _ rfl,a.o.row 2 _ rfl,a.o.row 3 _ rfl,a.o.row 4 _ rfl⟩) fun g=>?_;rw [<-Q] at g ⊢;clear Q;refine kT 0 ?_;refine kT 1 ?_;refine kT 2 ?_;refine kT 3 ?_;refine kT 4 ?_;refine rdA 5 rfl fun K hK=>?_;have ag:bs≠M:=by have:=A.o;omega
   have ai:M≠bs:=by have:=A.o;omega
   have ah:bs≠L:=by have:=C.o;omega
   have ak:L≠bs:=by have:=C.o;omega
   have au:bs≠N:=by have:=J.o;omega
   have ay:N≠bs:=by have:=J.o;omega
   have aj:M≠L:=by have:=ab.o;omega
   have al:L≠M:=by have:=ab.o;omega
   have aw:M≠N:=by have:=aq.o;omega
   have az:N≠M:=by have:=aq.o;omega
   have ax:L≠N:=by have:=ar.o;omega
   have a0:N≠L:=by have:=ar.o;omega
   obtain ⟨bt,bp,bo,bn,bm,bl,bk,bj,bi,bh,ap,ao⟩:=AU b.o.row;obtain ⟨bg,bf,bd,bc,bb,ba,a9,a8,a7,a6,an,am⟩:=Ci b.o.fz;obtain ⟨Y,G⟩:=nm (V9.setCell ⟨bs,0,none⟩ (I O 1));replace b:Hx (Bx bs [I O 1,I O at_,.string x,.string ⟨#[]⟩,I O 0,I O 0,I O 0,.string ⟨#[]⟩,zc none 0 0,zc none 0 0,zc none 0 0,zc none 0 0] Y):=by show Bx _ _ _;rw [G];exact b.o.set (j:=0) (by simp)
   replace i:Hx (Bx M [zf (some ⟨rb,0,none⟩)] Y):=by show Bx _ _ _;rw [G];exact i.o.far (by have:=A.o;omega)
   replace c:Hx (Bx L [zf (some ⟨bs,0,none⟩)] Y):=by show Bx _ _ _;rw [G];exact c.o.far (by have:=C.o;omega)
   replace a:Hx (Bx N [I O e0,I O e1,I O e2,.string e3,zc q0 q1 q2] Y):=by show Bx _ _ _;rw [G];exact a.o.far (by have:=J.o;omega)
   replace H:Hx (Rd rb tv ts en w (n3) Y):=by show Rd _ _ _ _ _ _ _;rw [G];exact H.o.set (by exact ae.o)
   replace r:Hx (Fz rb bs u Y):=by show Fz _ _ _ _;rw [G];exact r.o.set (Or.inl rfl)
   replace f:Hx (Off z none Y (fun W=>XE W 61 [I O e0,I O e1,I O e2,.string e3,zc q0 q1 q2] ed)):=by show Off _ _ _ _;rw [G];exact f.o.set aa.o
   go_simp;rw [<-G];clear G g;clear am an a6 a7 a8 a9 ba bb bc bd bf bg ao ap bh bi bj bk bl bm bn bo bp bt a0 ax az aw al aj ay au ak ah ai ag;refine xK hK (⟨c.o.row 0 _ rfl,a.o.row 0 _ rfl,a.o.row 1 _ rfl,a.o.row 2 _ rfl,a.o.row 3 _ rfl,a.o.row 4 _ rfl⟩) fun g=>?_;clear hK K;refine kT 6 ?_;refine kT 7 ?_;refine rdA 8 rfl fun K hK=>?_;have ag:bs≠M:=by have:=A.o;omega
   have ai:M≠bs:=by have:=A.o;omega
   have ah:bs≠L:=by have:=C.o;omega
   have ak:L≠bs:=by have:=C.o;omega
   have au:bs≠N:=by have:=J.o;omega
   have ay:N≠bs:=by have:=J.o;omega
   have aj:M≠L:=by have:=ab.o;omega
   have al:L≠M:=by have:=ab.o;omega
   have aw:M≠N:=by have:=aq.o;omega
   have az:N≠M:=by have:=aq.o;omega
   have ax:L≠N:=by have:=ar.o;omega
   have a0:N≠L:=by have:=ar.o;omega
   obtain ⟨bt,bp,bo,bn,bm,bl,bk,bj,bi,bh,ap,ao⟩:=AU b.o.row;obtain ⟨bg,bf,bd,bc,bb,ba,a9,a8,a7,a6,an,am⟩:=Ci b.o.fz;obtain ⟨P,F⟩:=nm (Y.setCell ⟨bs,4,none⟩ (I O e0));replace b:Hx (Bx bs [I O 1,I O at_,.string x,.string ⟨#[]⟩,I O e0,I O 0,I O 0,.string ⟨#[]⟩,zc none 0 0,zc none 0 0,zc none 0 0,zc none 0 0] P):=by show Bx _ _ _;rw [F];exact b.o.set (j:=4) (by simp)
   replace i:Hx (Bx M [zf (some ⟨rb,0,none⟩)] P):=by show Bx _ _ _;rw [F];exact i.o.far (by have:=A.o;omega)
   replace c:Hx (Bx L [zf (some ⟨bs,0,none⟩)] P):=by show Bx _ _ _;rw [F];exact c.o.far (by have:=C.o;omega)
   replace a:Hx (Bx N [I O e0,I O e1,I O e2,.string e3,zc q0 q1 q2] P):=by show Bx _ _ _;rw [F];exact a.o.far (by have:=J.o;omega)
   replace H:Hx (Rd rb tv ts en w (n3) P):=by show Rd _ _ _ _ _ _ _;rw [F];exact H.o.set (by exact ae.o)
   replace r:Hx (Fz rb bs u P):=by show Fz _ _ _ _;rw [F];exact r.o.set (Or.inl rfl)
   replace f:Hx (Off z none P (fun W=>XE W 61 [I O e0,I O e1,I O e2,.string e3,zc q0 q1 q2] ed)):=by show Off _ _ _ _;rw [F];exact f.o.set aa.o
   obtain ⟨a3,U⟩:=nm (P.setCell ⟨bs,5,none⟩ (I O e1));replace b:Hx (Bx bs [I O 1,I O at_,.string x,.string ⟨#[]⟩,I O e0,I O e1,I O 0,.string ⟨#[]⟩,zc none 0 0,zc none 0 0,zc none 0 0,zc none 0 0] a3):=by show Bx _ _ _;rw [U];exact b.o.set (j:=5) (by simp)
   replace i:Hx (Bx M [zf (some ⟨rb,0,none⟩)] a3):=by show Bx _ _ _;rw [U];exact i.o.far (by have:=A.o;omega)
   replace c:Hx (Bx L [zf (some ⟨bs,0,none⟩)] a3):=by show Bx _ _ _;rw [U];exact c.o.far (by have:=C.o;omega)
   replace a:Hx (Bx N [I O e0,I O e1,I O e2,.string e3,zc q0 q1 q2] a3):=by show Bx _ _ _;rw [U];exact a.o.far (by have:=J.o;omega)
   replace H:Hx (Rd rb tv ts en w (n3) a3):=by show Rd _ _ _ _ _ _ _;rw [U];exact H.o.set (by exact ae.o)
   replace r:Hx (Fz rb bs u a3):=by show Fz _ _ _ _;rw [U];exact r.o.set (Or.inl rfl)
   replace f:Hx (Off z none a3 (fun W=>XE W 61 [I O e0,I O e1,I O e2,.string e3,zc q0 q1 q2] ed)):=by show Off _ _ _ _;rw [U];exact f.o.set aa.o
   obtain ⟨a2,T⟩:=nm (a3.setCell ⟨bs,6,none⟩ (I O e2));replace b:Hx (Bx bs [I O 1,I O at_,.string x,.string ⟨#[]⟩,I O e0,I O e1,I O e2,.string ⟨#[]⟩,zc none 0 0,zc none 0 0,zc none 0 0,zc none 0 0] a2):=by show Bx _ _ _;rw [T];exact b.o.set (j:=6) (by simp)
   replace i:Hx (Bx M [zf (some ⟨rb,0,none⟩)] a2):=by show Bx _ _ _;rw [T];exact i.o.far (by have:=A.o;omega)
   replace c:Hx (Bx L [zf (some ⟨bs,0,none⟩)] a2):=by show Bx _ _ _;rw [T];exact c.o.far (by have:=C.o;omega)
   replace a:Hx (Bx N [I O e0,I O e1,I O e2,.string e3,zc q0 q1 q2] a2):=by show Bx _ _ _;rw [T];exact a.o.far (by have:=J.o;omega)
   replace H:Hx (Rd rb tv ts en w (n3) a2):=by show Rd _ _ _ _ _ _ _;rw [T];exact H.o.set (by exact ae.o)
   replace r:Hx (Fz rb bs u a2):=by show Fz _ _ _ _;rw [T];exact r.o.set (Or.inl rfl)
   replace f:Hx (Off z none a2 (fun W=>XE W 61 [I O e0,I O e1,I O e2,.string e3,zc q0 q1 q2] ed)):=by show Off _ _ _ _;rw [T];exact f.o.set aa.o
   obtain ⟨a1,S⟩:=nm (a2.setCell ⟨bs,7,none⟩ (.string e3));replace b:Hx (Bx bs [I O 1,I O at_,.string x,.string ⟨#[]⟩,I O e0,I O e1,I O e2,.string e3,zc none 0 0,zc none 0 0,zc none 0 0,zc none 0 0] a1):=by show Bx _ _ _;rw [S];exact b.o.set (j:=7) (by simp)
   replace i:Hx (Bx M [zf (some ⟨rb,0,none⟩)] a1):=by show Bx _ _ _;rw [S];exact i.o.far (by have:=A.o;omega)
   replace c:Hx (Bx L [zf (some ⟨bs,0,none⟩)] a1):=by show Bx _ _ _;rw [S];exact c.o.far (by have:=C.o;omega)
   replace a:Hx (Bx N [I O e0,I O e1,I O e2,.string e3,zc q0 q1 q2] a1):=by show Bx _ _ _;rw [S];exact a.o.far (by have:=J.o;omega)
   replace H:Hx (Rd rb tv ts en w (n3) a1):=by show Rd _ _ _ _ _ _ _;rw [S];exact H.o.set (by exact ae.o)
   replace r:Hx (Fz rb bs u a1):=by show Fz _ _ _ _;rw [S];exact r.o.set (Or.inl rfl)
   replace f:Hx (Off z none a1 (fun W=>XE W 61 [I O e0,I O e1,I O e2,.string e3,zc q0 q1 q2] ed)):=by show Off _ _ _ _;rw [S];exact f.o.set aa.o
   obtain ⟨a5,R⟩:=nm (a1.setCell ⟨bs,8,none⟩ (zc q0 q1 q2));replace b:Hx (Bx bs [I O 1,I O at_,.string x,.string ⟨#[]⟩,I O e0,I O e1,I O e2,.string e3,zc q0 q1 q2,zc none 0 0,zc none 0 0,zc none 0 0] a5):=by show Bx _ _ _;rw [R];exact b.o.set (j:=8) (by simp)
   replace i:Hx (Bx M [zf (some ⟨rb,0,none⟩)] a5):=by show Bx _ _ _;rw [R];exact i.o.far (by have:=A.o;omega)
   replace c:Hx (Bx L [zf (some ⟨bs,0,none⟩)] a5):=by show Bx _ _ _;rw [R];exact c.o.far (by have:=C.o;omega)
   replace a:Hx (Bx N [I O e0,I O e1,I O e2,.string e3,zc q0 q1 q2] a5):=by show Bx _ _ _;rw [R];exact a.o.far (by have:=J.o;omega)
   replace H:Hx (Rd rb tv ts en w (n3) a5):=by show Rd _ _ _ _ _ _ _;rw [R];exact H.o.set (by exact ae.o)
   replace r:Hx (Fz rb bs u a5):=by show Fz _ _ _ _;rw [R];exact r.o.set (Or.inl rfl)
   replace f:Hx (Off z none a5 (fun W=>XE W 61 [I O e0,I O e1,I O e2,.string e3,zc q0 q1 q2] ed)):=by show Off _ _ _ _;rw [R];exact f.o.set aa.o
   go_simp;rw [<-F,<-U,<-T,<-S,<-R];clear R S T U F g;clear am an a6 a7 a8 a9 ba bb bc bd bf bg ao ap bh bi bj bk bl bm bn bo bp bt a0 ax az aw al aj ay au ak ah ai ag;refine xK hK (⟨c.o.row 0 _ rfl,a.o.row 0 _ rfl,a.o.row 1 _ rfl,a.o.row 2 _ rfl,a.o.row 3 _ rfl,a.o.row 4 _ rfl⟩) fun g=>?_;clear hK K;refine gE ?_;go_wp2_with fail;go_end0;rw [Z.o];exact ⟨rfl,1,x,⟨#[]⟩,e0,e1,e2,e3,q0,q1,q2,none,0,0,b.o,(f.o.base dc.o).imp (fun W hW=>⟨1,at_,x,⟨#[]⟩,_,_,_,_,_,ed,_,[],_,[],_,[],rfl,rfl,hW,LS.nil,LS.nil,LS.nil⟩),H.o,r.o⟩
  | true=>
   rw [hq] at hs;have hr:=Z.o;rw [if_pos ⟨cy.o.1.trans dm.o,hq⟩] at hr;replace Z:=Aa hr;replace hs:St rb tv ts en (n3+1) wt:=hs;try rw [show isT ts n3 (ByteArray.mk #[40]).data.toList=true from hq]
   clear hr hq K4;replace r:=Aa (r.o.call V);replace b:=bkp b H.o.rlt ae V;replace i:=bkp i H.o.rlt cd V;replace c:=bkp c H.o.rlt ce V;replace a:=bkp a H.o.rlt dd V;replace f:=Aa (f.o.keep V (by have:=H.o.rlt;have:=db.o;omega));replace H:Hx (Rd rb tv ts en w (n3+1) wt):=H.o.call V hs;clear V hs;go_wp2_with fail;obtain ⟨V9,Q⟩:=nm wt.drew;replace b:Hx (Bx bs [I O 0,I O at_,.string x,.string ⟨#[]⟩,I O 0,I O 0,I O 0,.string ⟨#[]⟩,zc none 0 0,zc none 0 0,zc none 0 0,zc none 0 0] V9):=by show Bx _ _ _;rw [Q];exact b.o.over (bD _)
   replace i:Hx (Bx M [zf (some ⟨rb,0,none⟩)] V9):=by show Bx _ _ _;rw [Q];exact i.o.over (bD _)
   replace c:Hx (Bx L [zf (some ⟨bs,0,none⟩)] V9):=by show Bx _ _ _;rw [Q];exact c.o.over (bD _)
   replace a:Hx (Bx N [I O e0,I O e1,I O e2,.string e3,zc q0 q1 q2] V9):=by show Bx _ _ _;rw [Q];exact a.o.over (bD _)
   replace H:Hx (Rd rb tv ts en w (n3+1) V9):=by show Rd _ _ _ _ _ _ _;rw [Q];exact H.o.over (bD _)
   replace r:Hx (Fz rb bs u V9):=by show Fz _ _ _ _;rw [Q];exact r.o.over (bD _)
   replace f:Hx (Off z none V9 (fun W=>XE W 61 [I O e0,I O e1,I O e2,.string e3,zc q0 q1 q2] ed)):=by show Off _ _ _ _;rw [Q];exact f.o.over (bD _)
   refine gS (fun Wz=>Wz.cell? ⟨L,0,none⟩=some (zf (some ⟨bs,0,none⟩))/\Wz.cell? ⟨N,0,none⟩=some (I O e0)/\Wz.cell? ⟨N,1,none⟩=some (I O e1)/\Wz.cell? ⟨N,2,none⟩=some (I O e2)/\Wz.cell? ⟨N,3,none⟩=some (.string e3)/\Wz.cell? ⟨N,4,none⟩=some (zc q0 q1 q2)) (by rw [<-Q];exact ⟨c.o.row 0 _ rfl,a.o.row 0 _ rfl,a.o.row 1 _ rfl,a.o.row 2 _ rfl,a.o.row 3 _ rfl,a.o.row 4 _ rfl⟩) fun g=>?_;rw [<-Q] at g ⊢;clear Q;refine kT 0 ?_;refine kT 1 ?_;refine kT 2 ?_;refine kT 3 ?_;refine kT 4 ?_;refine kT 5 ?_;refine rdA 6 rfl fun K hK=>?_;have ag:bs≠M:=by have:=A.o;omega
   have ai:M≠bs:=by have:=A.o;omega
   have ah:bs≠L:=by have:=C.o;omega
   have ak:L≠bs:=by have:=C.o;omega
   have au:bs≠N:=by have:=J.o;omega
   have ay:N≠bs:=by have:=J.o;omega
   have aj:M≠L:=by have:=ab.o;omega
   have al:L≠M:=by have:=ab.o;omega
   have aw:M≠N:=by have:=aq.o;omega
   have az:N≠M:=by have:=aq.o;omega
   have ax:L≠N:=by have:=ar.o;omega
   have a0:N≠L:=by have:=ar.o;omega
   obtain ⟨bt,bp,bo,bn,bm,bl,bk,bj,bi,bh,ap,ao⟩:=AU b.o.row;obtain ⟨bg,bf,bd,bc,bb,ba,a9,a8,a7,a6,an,am⟩:=Ci b.o.fz;obtain ⟨Y,G⟩:=nm (V9.setCell ⟨bs,0,none⟩ (I O 2));replace b:Hx (Bx bs [I O 2,I O at_,.string x,.string ⟨#[]⟩,I O 0,I O 0,I O 0,.string ⟨#[]⟩,zc none 0 0,zc none 0 0,zc none 0 0,zc none 0 0] Y):=by show Bx _ _ _;rw [G];exact b.o.set (j:=0) (by simp)
   replace i:Hx (Bx M [zf (some ⟨rb,0,none⟩)] Y):=by show Bx _ _ _;rw [G];exact i.o.far (by have:=A.o;omega)
   replace c:Hx (Bx L [zf (some ⟨bs,0,none⟩)] Y):=by show Bx _ _ _;rw [G];exact c.o.far (by have:=C.o;omega)
   replace a:Hx (Bx N [I O e0,I O e1,I O e2,.string e3,zc q0 q1 q2] Y):=by show Bx _ _ _;rw [G];exact a.o.far (by have:=J.o;omega)
   replace H:Hx (Rd rb tv ts en w (n3+1) Y):=by show Rd _ _ _ _ _ _ _;rw [G];exact H.o.set (by exact ae.o)
   replace r:Hx (Fz rb bs u Y):=by show Fz _ _ _ _;rw [G];exact r.o.set (Or.inl rfl)
   replace f:Hx (Off z none Y (fun W=>XE W 61 [I O e0,I O e1,I O e2,.string e3,zc q0 q1 q2] ed)):=by show Off _ _ _ _;rw [G];exact f.o.set aa.o
   go_simp;rw [<-G];clear G g;clear am an a6 a7 a8 a9 ba bb bc bd bf bg ao ap bh bi bj bk bl bm bn bo bp bt a0 ax az aw al aj ay au ak ah ai ag;refine xK hK (⟨c.o.row 0 _ rfl,a.o.row 0 _ rfl,a.o.row 1 _ rfl,a.o.row 2 _ rfl,a.o.row 3 _ rfl,a.o.row 4 _ rfl⟩) fun g=>?_;clear hK K;refine kT 7 ?_;refine kT 8 ?_;refine rdA 9 rfl fun K hK=>?_;have ag:bs≠M:=by have:=A.o;omega
   have ai:M≠bs:=by have:=A.o;omega
   have ah:bs≠L:=by have:=C.o;omega
   have ak:L≠bs:=by have:=C.o;omega
   have au:bs≠N:=by have:=J.o;omega
   have ay:N≠bs:=by have:=J.o;omega
   have aj:M≠L:=by have:=ab.o;omega
   have al:L≠M:=by have:=ab.o;omega
   have aw:M≠N:=by have:=aq.o;omega
   have az:N≠M:=by have:=aq.o;omega
   have ax:L≠N:=by have:=ar.o;omega
   have a0:N≠L:=by have:=ar.o;omega
   obtain ⟨bt,bp,bo,bn,bm,bl,bk,bj,bi,bh,ap,ao⟩:=AU b.o.row;obtain ⟨bg,bf,bd,bc,bb,ba,a9,a8,a7,a6,an,am⟩:=Ci b.o.fz;obtain ⟨P,F⟩:=nm (Y.setCell ⟨bs,3,none⟩ (.string e3));replace b:Hx (Bx bs [I O 2,I O at_,.string x,.string e3,I O 0,I O 0,I O 0,.string ⟨#[]⟩,zc none 0 0,zc none 0 0,zc none 0 0,zc none 0 0] P):=by show Bx _ _ _;rw [F];exact b.o.set (j:=3) (by simp)
   replace i:Hx (Bx M [zf (some ⟨rb,0,none⟩)] P):=by show Bx _ _ _;rw [F];exact i.o.far (by have:=A.o;omega)
   replace c:Hx (Bx L [zf (some ⟨bs,0,none⟩)] P):=by show Bx _ _ _;rw [F];exact c.o.far (by have:=C.o;omega)
   replace a:Hx (Bx N [I O e0,I O e1,I O e2,.string e3,zc q0 q1 q2] P):=by show Bx _ _ _;rw [F];exact a.o.far (by have:=J.o;omega)
   replace H:Hx (Rd rb tv ts en w (n3+1) P):=by show Rd _ _ _ _ _ _ _;rw [F];exact H.o.set (by exact ae.o)
   replace r:Hx (Fz rb bs u P):=by show Fz _ _ _ _;rw [F];exact r.o.set (Or.inl rfl)
   replace f:Hx (Off z none P (fun W=>XE W 61 [I O e0,I O e1,I O e2,.string e3,zc q0 q1 q2] ed)):=by show Off _ _ _ _;rw [F];exact f.o.set aa.o
   go_simp;rw [<-F];clear F g;clear am an a6 a7 a8 a9 ba bb bc bd bf bg ao ap bh bi bj bk bl bm bn bo bp bt a0 ax az aw al aj ay au ak ah ai ag;refine xK hK (⟨c.o.row 0 _ rfl,a.o.row 0 _ rfl,a.o.row 1 _ rfl,a.o.row 2 _ rfl,a.o.row 3 _ rfl,a.o.row 4 _ rfl⟩) fun g=>?_;clear hK K;refine gE ?_;obtain ⟨B,hB⟩:=nm P.heap.size;have c0:Hx (u.heap.size<=B):=by show _<=_;rw [hB];exact r.o.1
   have cx:Hx (Ed w P rb tv ts en bs M L B (I O 2) (I O at_) (.string x) (.string e3) (I O 0) (I O 0) (I O 0) (.string ⟨#[]⟩) (zc none 0 0) (zc none 0 0) (zc none 0 0) [] (n3+1) P):=⟨H.o,ae.o,by rw [hB];exact b.o.lt,cd.o,by rw [hB];exact i.o.lt,ce.o,by rw [hB];exact c.o.lt,by have:=A.o;omega,by have:=C.o;omega,by rw [hB];exact Nat.le_refl _,i.o,c.o,Nat.zero_le _,fun _ _ _ _=>rfl,zc none 0 0,b.o,Cop.nil⟩;have ec:Hx (bs < B/\rb < B):=⟨by rw [hB];exact b.o.lt,by have:=H.o.rlt;have:=H.o.size;rw [hB];omega⟩;have K5:Hx (∀ X,Ov P X->_):=fun X (hX:Ov P X)=>ME (rb:=rb) (tv:=tv) (ts:=ts) (en:=en) ⟨#[41]⟩ [41] rfl (n3+1) X (cx.o.rd.st.below hX);have x0:=cx.o.r1.row 0 _ rfl;clear hB;go_wp2_with fail;refine gS (fun Wz=>Wz.cell? ⟨M,0,none⟩=some (zf (some ⟨rb,0,none⟩))) (ce1 (bD P) x0) fun g=>?_;have cz:Hx (Ov P P.drew):=bD P;generalize P.drew=W at g cz ⊢;clear x0;refine kT 0 ?_;refine kT 1 ?_;refine kT 4 ?_;refine rdA 2 rfl fun K hK=>?_;go_simp;refine (K5.o _ cz.o).mono ?_;rintro e wq ⟨rfl,c5,c3⟩;obtain ⟨q,hq⟩:=nm (isT ts (n3+1) [41]);rw [<-hq] at Z ⊢;have de:=Aa (cx.o.move (Nat.le_refl _) (Ab (Ad cz.o) c5) c3);clear hq c5 c3 g;go_simp;refine xK hK (de.o.r1.row 0 _ rfl) fun g=>?_;clear hK K;refine kT 3 ?_;refine rdA 5 rfl fun K hK=>?_;have KE:=Aa (Lm (rb:=rb) (tv:=tv) (ts:=ts) (en:=en) 169 [zf (some ⟨L,0,none⟩),zf (some ⟨M,0,none⟩)] PH ⟨#[44]⟩ (by decide) (pX ts en) (fun cv n2 w'=>Ed w P rb tv ts en bs M L B (I O 2) (I O at_) (.string x) (.string e3) (I O 0) (I O 0) (I O 0) (.string ⟨#[]⟩) (zc none 0 0) (zc none 0 0) (zc none 0 0) cv n2 w') (fun w'=>w.grownBy w' (some rb)) (fun _ _ _ h=>h.rd.st) (fun _ _ _ h=>Nat.le_of_lt (FT 61 0 _ _ _ h).2) (fun _ _ _ _ _ h hn V hs=>h.move hn V hs) (fun cv n w' h=>MN hall cv n w' h) (!q) (n3+1) wq de.o);go_simp;refine KE.o.mono ?_;rintro e we E;obtain ⟨m,ho⟩ | ⟨l,n4,ho⟩:=Aj (BW ts [44] (pX ts en) (ts.length+1) (!q) [] (n3+1))
   ·replace E:Am ts en (BW ts [44] (pX ts en) (ts.length+1) (!q) [] (n3+1)) _ _ e we:=E
    rw [ho] at E;obtain ⟨rfl,V⟩:=E;have HO:Hx (ca=.inr m):=by show _=_;rw [Z.o,ho];rfl
    have HG:=Aa V;clear V ho hK g;unfold Ai;go_simp;refine ⟨rfl,?_⟩;rw [HO.o];exact ⟨rfl,HG.o⟩
   replace E:Am ts en (BW ts [44] (pX ts en) (ts.length+1) (!q) [] (n3+1)) _ _ e we:=E;rw [ho] at E;obtain ⟨rfl,c4⟩:=E;have hr:=Z.o;rw [ho,Al] at hr;replace Z:=Aa hr;have ci:=Aa c4;clear ho c4 hr g;refine xK hK (ci.o.r1.row 0 _ rfl) fun g=>?_;clear hK K;refine gE ?_;have K6:=Aa (Bs ⟨#[41]⟩ (by decide) n4 we ci.o.rd.st);have x3:=ci.o.r1.row 0 _ rfl;go_wp2_with fail;clear x3;refine K6.o.mono ?_;rintro e wf E;obtain ⟨m,ho⟩ | ⟨d5,n5,ho⟩:=Aj (Aq ts [41] n4)
   ·replace E:Am ts en (Aq ts [41] n4) _ _ e wf:=E
    rw [ho] at E;obtain ⟨rfl,V⟩:=E;have HO:Hx (ca=.inr m):=by show _=_;rw [Z.o,ho];rfl
    have HG:=Aa (Ab ci.o.rd.gr V);clear V ho;unfold Ai;go_wp2_with fail;refine ⟨rfl,?_⟩;rw [HO.o];exact ⟨rfl,HG.o⟩
   replace E:Am ts en (Aq ts [41] n4) _ _ e wf:=E;rw [ho] at E;obtain ⟨rfl,V,hs⟩:=E;have hr:=Z.o;rw [ho,Al] at hr;replace Z:=Aa hr;have cb:=ci.o.move (Nat.le_of_lt (Bk ho)) V hs;obtain ⟨v,c8,hc⟩:=cb.row;have di:l.length<=6000:=Nat.le_trans cb.few (Nat.le_trans cb.rd.st.2.1 cb.rd.st.2.2.1);obtain ⟨av,ac,rfl,b3⟩:=Cop.ls hc (by decide) (by omega);have cw:=Aa cb;have dl:=Aa (b3.base c0.o);have dn:=Aa c8;clear ho V hs cb hc b3 hr di c8;go_wp2_with fail;go_end0;rw [Z.o];refine ⟨rfl,2,x,e3,0,0,0,⟨#[]⟩,none,0,0,av,l.length,ac,dn.o,dl.o.imp (fun W hW=>⟨2,at_,x,e3,_,_,_,_,_,noE,_,l,_,[],_,[],rfl,?_,XE.none W,hW,LS.nil,LS.nil⟩),cw.o.rd,?_,fun k k1 k2 k3=>?_⟩
   ·rw [cy.o.2]
   ·exact Nat.le_trans c0.o cw.o.sz
   ·rw [cw.o.fr k (Nat.lt_of_lt_of_le k1 c0.o) k2 k3]
    exact r.o.2 k k1 k2 k3
 ·have hr:=Z.o
  rw [if_neg (fun h=>hk2 (cy.o.1.symm.trans h.1))] at hr;replace Z:=Aa hr;clear hr;have cs:(e0 != 2)=true:=by simpa using hk2
  have cr:(e0 == 2)=false:=by simpa using hk2
  go_wp2_with fail;rw [<-b0,<-cg];clear bu cc;clear cg b0;clear cs cr;obtain ⟨V9,Q⟩:=nm V8.drew;replace b:Hx (Bx bs [I O 0,I O at_,.string x,.string ⟨#[]⟩,I O 0,I O 0,I O 0,.string ⟨#[]⟩,zc none 0 0,zc none 0 0,zc none 0 0,zc none 0 0] V9):=by show Bx _ _ _;rw [Q];exact b.o.over (bD _)
  replace i:Hx (Bx M [zf (some ⟨rb,0,none⟩)] V9):=by show Bx _ _ _;rw [Q];exact i.o.over (bD _)
  replace c:Hx (Bx L [zf (some ⟨bs,0,none⟩)] V9):=by show Bx _ _ _;rw [Q];exact c.o.over (bD _)
  replace a:Hx (Bx N [I O e0,I O e1,I O e2,.string e3,zc q0 q1 q2] V9):=by show Bx _ _ _;rw [Q];exact a.o.over (bD _)
  replace H:Hx (Rd rb tv ts en w (n3) V9):=by show Rd _ _ _ _ _ _ _;rw [Q];exact H.o.over (bD _)
  replace r:Hx (Fz rb bs u V9):=by show Fz _ _ _ _;rw [Q];exact r.o.over (bD _)
  replace f:Hx (Off z none V9 (fun W=>XE W 61 [I O e0,I O e1,I O e2,.string e3,zc q0 q1 q2] ed)):=by show Off _ _ _ _;rw [Q];exact f.o.over (bD _)
  refine gS (fun Wz=>Wz.cell? ⟨L,0,none⟩=some (zf (some ⟨bs,0,none⟩))/\Wz.cell? ⟨N,0,none⟩=some (I O e0)/\Wz.cell? ⟨N,1,none⟩=some (I O e1)/\Wz.cell? ⟨N,2,none⟩=some (I O e2)/\Wz.cell? ⟨N,3,none⟩=some (.string e3)/\Wz.cell? ⟨N,4,none⟩=some (zc q0 q1 q2)) (by rw [<-Q];exact ⟨c.o.row 0 _ rfl,a.o.row 0 _ rfl,a.o.row 1 _ rfl,a.o.row 2 _ rfl,a.o.row 3 _ rfl,a.o.row 4 _ rfl⟩) fun g=>?_;rw [<-Q] at g ⊢;clear Q;refine kT 0 ?_;refine kT 1 ?_;refine kT 2 ?_;refine kT 3 ?_;refine kT 4 ?_;refine rdA 5 rfl fun K hK=>?_;have ag:bs≠M:=by have:=A.o;omega
  have ai:M≠bs:=by have:=A.o;omega
  have ah:bs≠L:=by have:=C.o;omega
  have ak:L≠bs:=by have:=C.o;omega
  have au:bs≠N:=by have:=J.o;omega
  have ay:N≠bs:=by have:=J.o;omega
  have aj:M≠L:=by have:=ab.o;omega
  have al:L≠M:=by have:=ab.o;omega
  have aw:M≠N:=by have:=aq.o;omega
  have az:N≠M:=by have:=aq.o;omega
  have ax:L≠N:=by have:=ar.o;omega
  have a0:N≠L:=by have:=ar.o;omega
  obtain ⟨bt,bp,bo,bn,bm,bl,bk,bj,bi,bh,ap,ao⟩:=AU b.o.row;obtain ⟨bg,bf,bd,bc,bb,ba,a9,a8,a7,a6,an,am⟩:=Ci b.o.fz;obtain ⟨Y,G⟩:=nm (V9.setCell ⟨bs,0,none⟩ (I O 1));replace b:Hx (Bx bs [I O 1,I O at_,.string x,.string ⟨#[]⟩,I O 0,I O 0,I O 0,.string ⟨#[]⟩,zc none 0 0,zc none 0 0,zc none 0 0,zc none 0 0] Y):=by show Bx _ _ _;rw [G];exact b.o.set (j:=0) (by simp)
  replace i:Hx (Bx M [zf (some ⟨rb,0,none⟩)] Y):=by show Bx _ _ _;rw [G];exact i.o.far (by have:=A.o;omega)
  replace c:Hx (Bx L [zf (some ⟨bs,0,none⟩)] Y):=by show Bx _ _ _;rw [G];exact c.o.far (by have:=C.o;omega)
  replace a:Hx (Bx N [I O e0,I O e1,I O e2,.string e3,zc q0 q1 q2] Y):=by show Bx _ _ _;rw [G];exact a.o.far (by have:=J.o;omega)
  replace H:Hx (Rd rb tv ts en w (n3) Y):=by show Rd _ _ _ _ _ _ _;rw [G];exact H.o.set (by exact ae.o)
  replace r:Hx (Fz rb bs u Y):=by show Fz _ _ _ _;rw [G];exact r.o.set (Or.inl rfl)
  replace f:Hx (Off z none Y (fun W=>XE W 61 [I O e0,I O e1,I O e2,.string e3,zc q0 q1 q2] ed)):=by show Off _ _ _ _;rw [G];exact f.o.set aa.o
  go_simp;rw [<-G];clear G g;clear am an a6 a7 a8 a9 ba bb bc bd bf bg ao ap bh bi bj bk bl bm bn bo bp bt a0 ax az aw al aj ay au ak ah ai ag;refine xK hK (⟨c.o.row 0 _ rfl,a.o.row 0 _ rfl,a.o.row 1 _ rfl,a.o.row 2 _ rfl,a.o.row 3 _ rfl,a.o.row 4 _ rfl⟩) fun g=>?_;clear hK K;refine kT 6 ?_;refine kT 7 ?_;refine rdA 8 rfl fun K hK=>?_;have ag:bs≠M:=by have:=A.o;omega
  have ai:M≠bs:=by have:=A.o;omega
  have ah:bs≠L:=by have:=C.o;omega
  have ak:L≠bs:=by have:=C.o;omega
  have au:bs≠N:=by have:=J.o;omega
  have ay:N≠bs:=by have:=J.o;omega
  have aj:M≠L:=by have:=ab.o;omega
  have al:L≠M:=by have:=ab.o;omega
  have aw:M≠N:=by have:=aq.o;omega
  have az:N≠M:=by have:=aq.o;omega
  have ax:L≠N:=by have:=ar.o;omega
  have a0:N≠L:=by have:=ar.o;omega
  obtain ⟨bt,bp,bo,bn,bm,bl,bk,bj,bi,bh,ap,ao⟩:=AU b.o.row;obtain ⟨bg,bf,bd,bc,bb,ba,a9,a8,a7,a6,an,am⟩:=Ci b.o.fz;obtain ⟨P,F⟩:=nm (Y.setCell ⟨bs,4,none⟩ (I O e0));replace b:Hx (Bx bs [I O 1,I O at_,.string x,.string ⟨#[]⟩,I O e0,I O 0,I O 0,.string ⟨#[]⟩,zc none 0 0,zc none 0 0,zc none 0 0,zc none 0 0] P):=by show Bx _ _ _;rw [F];exact b.o.set (j:=4) (by simp)
  replace i:Hx (Bx M [zf (some ⟨rb,0,none⟩)] P):=by show Bx _ _ _;rw [F];exact i.o.far (by have:=A.o;omega)
  replace c:Hx (Bx L [zf (some ⟨bs,0,none⟩)] P):=by show Bx _ _ _;rw [F];exact c.o.far (by have:=C.o;omega)
  replace a:Hx (Bx N [I O e0,I O e1,I O e2,.string e3,zc q0 q1 q2] P):=by show Bx _ _ _;rw [F];exact a.o.far (by have:=J.o;omega)
  replace H:Hx (Rd rb tv ts en w (n3) P):=by show Rd _ _ _ _ _ _ _;rw [F];exact H.o.set (by exact ae.o)
  replace r:Hx (Fz rb bs u P):=by show Fz _ _ _ _;rw [F];exact r.o.set (Or.inl rfl)
  replace f:Hx (Off z none P (fun W=>XE W 61 [I O e0,I O e1,I O e2,.string e3,zc q0 q1 q2] ed)):=by show Off _ _ _ _;rw [F];exact f.o.set aa.o
  obtain ⟨a3,U⟩:=nm (P.setCell ⟨bs,5,none⟩ (I O e1));replace b:Hx (Bx bs [I O 1,I O at_,.string x,.string ⟨#[]⟩,I O e0,I O e1,I O 0,.string ⟨#[]⟩,zc none 0 0,zc none 0 0,zc none 0 0,zc none 0 0] a3):=by show Bx _ _ _;rw [U];exact b.o.set (j:=5) (by simp)
  replace i:Hx (Bx M [zf (some ⟨rb,0,none⟩)] a3):=by show Bx _ _ _;rw [U];exact i.o.far (by have:=A.o;omega)
  replace c:Hx (Bx L [zf (some ⟨bs,0,none⟩)] a3):=by show Bx _ _ _;rw [U];exact c.o.far (by have:=C.o;omega)
  replace a:Hx (Bx N [I O e0,I O e1,I O e2,.string e3,zc q0 q1 q2] a3):=by show Bx _ _ _;rw [U];exact a.o.far (by have:=J.o;omega)
  replace H:Hx (Rd rb tv ts en w (n3) a3):=by show Rd _ _ _ _ _ _ _;rw [U];exact H.o.set (by exact ae.o)
  replace r:Hx (Fz rb bs u a3):=by show Fz _ _ _ _;rw [U];exact r.o.set (Or.inl rfl)
  replace f:Hx (Off z none a3 (fun W=>XE W 61 [I O e0,I O e1,I O e2,.string e3,zc q0 q1 q2] ed)):=by show Off _ _ _ _;rw [U];exact f.o.set aa.o
  obtain ⟨a2,T⟩:=nm (a3.setCell ⟨bs,6,none⟩ (I O e2));replace b:Hx (Bx bs [I O 1,I O at_,.string x,.string ⟨#[]⟩,I O e0,I O e1,I O e2,.string ⟨#[]⟩,zc none 0 0,zc none 0 0,zc none 0 0,zc none 0 0] a2):=by show Bx _ _ _;rw [T];exact b.o.set (j:=6) (by simp)
  replace i:Hx (Bx M [zf (some ⟨rb,0,none⟩)] a2):=by show Bx _ _ _;rw [T];exact i.o.far (by have:=A.o;omega)
  replace c:Hx (Bx L [zf (some ⟨bs,0,none⟩)] a2):=by show Bx _ _ _;rw [T];exact c.o.far (by have:=C.o;omega)
  replace a:Hx (Bx N [I O e0,I O e1,I O e2,.string e3,zc q0 q1 q2] a2):=by show Bx _ _ _;rw [T];exact a.o.far (by have:=J.o;omega)
  replace H:Hx (Rd rb tv ts en w (n3) a2):=by show Rd _ _ _ _ _ _ _;rw [T];exact H.o.set (by exact ae.o)
  replace r:Hx (Fz rb bs u a2):=by show Fz _ _ _ _;rw [T];exact r.o.set (Or.inl rfl)
  replace f:Hx (Off z none a2 (fun W=>XE W 61 [I O e0,I O e1,I O e2,.string e3,zc q0 q1 q2] ed)):=by show Off _ _ _ _;rw [T];exact f.o.set aa.o
  obtain ⟨a1,S⟩:=nm (a2.setCell ⟨bs,7,none⟩ (.string e3));replace b:Hx (Bx bs [I O 1,I O at_,.string x,.string ⟨#[]⟩,I O e0,I O e1,I O e2,.string e3,zc none 0 0,zc none 0 0,zc none 0 0,zc none 0 0] a1):=by show Bx _ _ _;rw [S];exact b.o.set (j:=7) (by simp)
  replace i:Hx (Bx M [zf (some ⟨rb,0,none⟩)] a1):=by show Bx _ _ _;rw [S];exact i.o.far (by have:=A.o;omega)
  replace c:Hx (Bx L [zf (some ⟨bs,0,none⟩)] a1):=by show Bx _ _ _;rw [S];exact c.o.far (by have:=C.o;omega)
  replace a:Hx (Bx N [I O e0,I O e1,I O e2,.string e3,zc q0 q1 q2] a1):=by show Bx _ _ _;rw [S];exact a.o.far (by have:=J.o;omega)
  replace H:Hx (Rd rb tv ts en w (n3) a1):=by show Rd _ _ _ _ _ _ _;rw [S];exact H.o.set (by exact ae.o)
  replace r:Hx (Fz rb bs u a1):=by show Fz _ _ _ _;rw [S];exact r.o.set (Or.inl rfl)
  replace f:Hx (Off z none a1 (fun W=>XE W 61 [I O e0,I O e1,I O e2,.string e3,zc q0 q1 q2] ed)):=by show Off _ _ _ _;rw [S];exact f.o.set aa.o
  obtain ⟨a5,R⟩:=nm (a1.setCell ⟨bs,8,none⟩ (zc q0 q1 q2));replace b:Hx (Bx bs [I O 1,I O at_,.string x,.string ⟨#[]⟩,I O e0,I O e1,I O e2,.string e3,zc q0 q1 q2,zc none 0 0,zc none 0 0,zc none 0 0] a5):=by show Bx _ _ _;rw [R];exact b.o.set (j:=8) (by simp)
  replace i:Hx (Bx M [zf (some ⟨rb,0,none⟩)] a5):=by show Bx _ _ _;rw [R];exact i.o.far (by have:=A.o;omega)
  replace c:Hx (Bx L [zf (some ⟨bs,0,none⟩)] a5):=by show Bx _ _ _;rw [R];exact c.o.far (by have:=C.o;omega)
  replace a:Hx (Bx N [I O e0,I O e1,I O e2,.string e3,zc q0 q1 q2] a5):=by show Bx _ _ _;rw [R];exact a.o.far (by have:=J.o;omega)
  replace H:Hx (Rd rb tv ts en w (n3) a5):=by show Rd _ _ _ _ _ _ _;rw [R];exact H.o.set (by exact ae.o)
  replace r:Hx (Fz rb bs u a5):=by show Fz _ _ _ _;rw [R];exact r.o.set (Or.inl rfl)
  replace f:Hx (Off z none a5 (fun W=>XE W 61 [I O e0,I O e1,I O e2,.string e3,zc q0 q1 q2] ed)):=by show Off _ _ _ _;rw [R];exact f.o.set aa.o
  go_simp;rw [<-F,<-U,<-T,<-S,<-R];clear R S T U F g;clear am an a6 a7 a8 a9 ba bb bc bd bf bg ao ap bh bi bj bk bl bm bn bo bp bt a0 ax az aw al aj ay au ak ah ai ag;refine xK hK (⟨c.o.row 0 _ rfl,a.o.row 0 _ rfl,a.o.row 1 _ rfl,a.o.row 2 _ rfl,a.o.row 3 _ rfl,a.o.row 4 _ rfl⟩) fun g=>?_;clear hK K;refine gE ?_;go_wp2_with fail;go_end0;rw [Z.o];exact ⟨rfl,1,x,⟨#[]⟩,e0,e1,e2,e3,q0,q1,q2,none,0,0,b.o,(f.o.base dc.o).imp (fun W hW=>⟨1,at_,x,⟨#[]⟩,_,_,_,_,_,ed,_,[],_,[],_,[],rfl,rfl,hW,LS.nil,LS.nil,LS.nil⟩),H.o,r.o⟩
theorem AF {α β:Type} {r:Res α} {f:α->Nat->Res β} {b:β} {n1:Nat} (h:Ar r f=.inl (b,n1)):∃ a n,r=.inl (a,n)/\f a n=.inl (b,n1):=by
 obtain ⟨m,hr⟩ | ⟨a,n,hr⟩:=Aj r
 ·rw [hr] at h;cases h
 ·rw [hr,Al] at h;exact ⟨a,n,hr,h⟩
theorem DE {α:Type} {a b:α} {n m:Nat} (h:(Sum.inl (a,n):Res α)=.inl (b,m)):n=m:=by
 injection h with h;injection h
section
variable {ts:List Tok} {en:Nat}
theorem DK {n:Nat} {d:D} {n1:Nat} (h:pX ts en n=.inl (d,n1)):n+1<=n1:=(FT 61 0 n d n1 h).2
theorem Fs {s:D} {n:Nat} {d:D} {n1:Nat} (h:Iy ts s n=.inl (d,n1)):n+1<=n1:=by
 obtain ⟨a,m,c,b⟩:=AF h;have:=Bk c;have:=DE b;omega
theorem Ku {at_:Int} {n:Nat} {d:D} {n1:Nat} (h:Db ts en at_ n=.inl (d,n1)):n+1<=n1:=by
 obtain ⟨x,y,g,h⟩:=AF h;obtain ⟨u,v,f,h⟩:=AF h;obtain ⟨e,r,c,h⟩:=AF h;have:=BB g;have:=Bk f;have:=DK c;split at h
 ·obtain ⟨l,j,b,h⟩:=AF h
  obtain ⟨u,i,a,h⟩:=AF h;have:=Fu (fun _ _ _ h=>Nat.le_of_lt (DK h)) _ _ _ _ _ _ b;have:=Bk a;have:=DE h;omega
 ·have:=DE h;omega
theorem Di {ss:Nat->Res (List D)} (hs:∀ n l n1,ss n=.inl (l,n1)->n<=n1) {n:Nat} {l:List D} {n1:Nat} (h:Be ts ss n=.inl (l,n1)):n+1<=n1:=by
 obtain ⟨u,i,c,h⟩:=AF h;obtain ⟨x,g,b,h⟩:=AF h;obtain ⟨u,f,a,h⟩:=AF h;have:=Bk c;have:=hs _ _ _ b;have:=Bk a;have:=DE h;omega
theorem Hq {blk:Nat->Res (List D)} (hb:∀ n l n1,blk n=.inl (l,n1)->n<=n1) {n:Nat} {d:D} {n1:Nat} (h:BI ts en blk n=.inl (d,n1)):n+1<=n1:=by
 unfold BI at h;split at h
 ·obtain ⟨e,c,a,h⟩:=AF h
  obtain ⟨f,g,b,h⟩:=AF h;have:=DK a;have:=hb _ _ _ b;split at h
  ·obtain ⟨r,j,i,h⟩:=AF h
   have:=hb _ _ _ i;have:=DE h;omega
  ·have:=DE h;omega
 split at h
 ·obtain ⟨e,c,a,h⟩:=AF h
  obtain ⟨f,g,b,h⟩:=AF h;have:=DK a;have:=hb _ _ _ b;have:=DE h;omega
 split at h
 ·obtain ⟨e,c,a,h⟩:=AF h
  obtain ⟨f,g,b,h⟩:=AF h;have:=BB a;have:=BB b;have:=Fs h;omega
 split at h
 ·obtain ⟨e,c,a,h⟩:=AF h
  obtain ⟨f,g,b,h⟩:=AF h;have:=BB a;have:=DK b;have:=Fs h;omega
 split at h
 ·obtain ⟨e,c,a,h⟩:=AF h
  obtain ⟨f,g,b,h⟩:=AF h;have:=BB a;have:=DK b;have:=Fs h;omega
 split at h
 ·obtain ⟨e,c,a,h⟩:=AF h
  obtain ⟨f,g,b,h⟩:=AF h;have:=BB a;have:=DK b;have:=Fs h;omega
 ·obtain ⟨e,c,a,h⟩:=AF h
  have:=Ku a;have:=Fs h;omega
theorem CD:∀ (f:Nat) (acc:List D) (n:Nat) (l:List D) (n1:Nat),AL ts en f acc n=.inl (l,n1)->n<=n1
 | 0,acc,n,l,n1,h=>by cases h
 | 1,acc,n,l,n1,h=>by
  unfold AL at h;split at h
  ·exact Nat.le_of_eq (DE h)
  ·cases h
 | f+2,acc,n,l,n1,h=>by
  unfold AL at h;split at h
  ·exact Nat.le_of_eq (DE h)
  ·obtain ⟨s,m1,h1,h⟩:=AF h
   have:=Hq (fun n l n1 h=>Nat.le_of_lt (Di (fun n l n1 h=>CD f [] n l n1 h) h)) h1;have:=CD (f+1) _ _ _ _ h;omega
theorem C0 {f n:Nat} {d:D} {n1:Nat} (h:BZ ts en f n=.inl (d,n1)):n+1<=n1:=by
 cases f with
 | zero=>cases h
 | succ f=>exact Hq (fun n l n1 h=>Nat.le_of_lt (Di (fun n l n1 h=>CD f [] n l n1 h) h)) h
end
end Go.Proofs.YtipngnjffjajpaaGreatDoor.Tx
