/- The printer of package show: a function. -/
import Derived.Test.YtipngnjffjajpaaGreatDoorJ36
import Derived.Test.YtipngnjffjajpaaGreatDoorJ32
set_option linter.unusedVariables false
set_option maxHeartbeats 8000000
set_option maxRecDepth 100000
namespace Go.Proofs.YtipngnjffjajpaaGreatDoor.Tx
open Go.RowKit
open Go.Value renaming int -> I, slice -> zc, bool -> zd, pointer -> zf, agg -> zg, tuple -> zi
open Go.IntKind renaming i64 -> O
open Go.Obj renaming cells -> ze
open Go.Ending renaming returned -> zh
theorem Pp (B b dn:Nat) (l RB:List UInt8) (a:Int) (x y:ByteArray) (gv:Bool) (aL:Option Addr) (nL cL:Nat) (aP:Option Addr) (nP cP:Nat) (aB:Option Addr) (nB cB:Nat) (e0 e1 e2:Int) (e3:ByteArray) (q:Option Addr) (q1 q2:Nat) (w:World) (hP:Bb B b dn (Lib.byteCells l) w) (hBw:B<=w.heap.size) (hd:dn+1<=10) (hl:l.length<=1000000) (hxs:x.size<=10000) (E:ByteArray) (hEs:E.size<=10000) (KE:Hx (∀ X,Ov w X->Ro 148 #[zc aP nP cP] X (.string E)))
  (F:ByteArray) (hFs:F.size<=10000) (hl2:(l++(inT dn++(([⟨#[102,117,110,99,32]⟩,x,⟨#[40]⟩,E,⟨#[41,32,123]⟩]:List ByteArray).map (fun y:ByteArray=>y.data.toList)).flatten++[10])++RB).length<=1000000) (hl3:(l++(inT dn++(([⟨#[102,117,110,99,32]⟩,x,⟨#[40]⟩,E,⟨#[41,32,123]⟩]:List ByteArray).map (fun y:ByteArray=>y.data.toList)).flatten++[10])++RB++(inT (dn+1)++(([⟨#[114,101,116,117,114,110,32]⟩,F,⟨#[59]⟩]:List ByteArray).map (fun y:ByteArray=>y.data.toList)).flatten++[10])).length<=1000000)
  (KB:Hx (∀ X,Below B w X->Bb B b dn (Lib.byteCells (l++(inT dn++(([⟨#[102,117,110,99,32]⟩,x,⟨#[40]⟩,E,⟨#[41,32,123]⟩]:List ByteArray).map (fun y:ByteArray=>y.data.toList)).flatten++[10]))) X->Calls Tryz.prog 87 #[zf (some ⟨b,0,none⟩),zc aB nB cB] X (AH B b dn (l++(inT dn++(([⟨#[102,117,110,99,32]⟩,x,⟨#[40]⟩,E,⟨#[41,32,123]⟩]:List ByteArray).map (fun y:ByteArray=>y.data.toList)).flatten++[10])++RB) X)))
  (KF:Hx (∀ X,Below B w X->Ro 149 #[zg #[I O e0,I O e1,I O e2,.string e3,zc q q1 q2]] X (.string F))) :
  Calls Tryz.prog 123 #[zf (some ⟨b,0,none⟩),zg #[I O 7,I O a,.string x,.string y,zd gv,zc aL nL cL,zc aP nP cP,zc aB nB cB,I O e0,I O e1,I O e2,.string e3,zc q q1 q2]] w (AH B b dn (l++(inT dn++(([⟨#[102,117,110,99,32]⟩,x,⟨#[40]⟩,E,⟨#[41,32,123]⟩]:List ByteArray).map (fun y:ByteArray=>y.data.toList)).flatten++[10])++RB++(inT (dn+1)++(([⟨#[114,101,116,117,114,110,32]⟩,F,⟨#[59]⟩]:List ByteArray).map (fun y:ByteArray=>y.data.toList)).flatten++[10])++(inT dn++(([⟨#[125]⟩]:List ByteArray).map (fun y:ByteArray=>y.data.toList)).flatten++[10])) w):=by
 obtain ⟨V,hV⟩:=nm (w.alloc (ze #[I O 7,I O a,.string x,.string y,zd gv,zc aL nL cL,zc aP nP cP,zc aB nB cB,I O e0,I O e1,I O e2,.string e3,zc q q1 q2] 51));obtain ⟨n,L⟩:=nm w.heap.size;have a5:Hx (Ov w V):=by show Ov _ _;rw [hV];exact bA _ _
 have am:V.heap[n]? = some (ze #[I O 7,I O a,.string x,.string y,zd gv,zc aL nL cL,zc aP nP cP,zc aB nB cB,I O e0,I O e1,I O e2,.string e3,zc q q1 q2] 51 (0,0)):=by rw [hV,L];exact heap_alloc_new w _
 have r:=Aa am;obtain ⟨m0,m1,m2,m3,m4,m5,m6,m7,m8,m9,aj,ai,ah⟩:=AI (Ax w [I O 7,I O a,.string x,.string y,zd gv,zc aL nL cL,zc aP nP cP,zc aB nB cB,I O e0,I O e1,I O e2,.string e3,zc q q1 q2] 51);rw [<-hV,<-L] at m0 m1 m2 m3 m4 m5 m6 m7 m8 m9 aj ai ah;have HW:=Aa (And.intro hP hBw);clear am hP hBw;go_enter Tryz.func123,Tryz.ntmps123;go_wp2_with fail;rw [<-hV,<-L];clear hV L;refine Go.Proofs.YtipngnjffjajpaaGreatDoor.gS (fun Wz=>∀ i,Wz.cell? ⟨n,i,none⟩=V.cell? ⟨n,i,none⟩) (fun _=>rfl) fun c=>?_;have H:Ov V V.drew:=(Below.refl _ _).drew;generalize V.drew=W at c H ⊢;refine kT 0 ?_;refine kT 1 ?_;refine kT 2 ?_;refine kT 3 ?_;refine kT 4 ?_;refine rdA 5 rfl fun K T=>?_;go_simp;refine (KE.o _ (Ac a5.o H)).mono ?_;rintro e W1 ⟨rfl,hb⟩;have P:=Aa (Ac H hb);clear hb H KE c;go_simp;refine xK T (fun i=>P.o.cell (p:=⟨n,i,none⟩) (Bv r.o)) fun c=>?_;clear T K;refine rdA 6 rfl fun K T=>?_;go_simp;have H:=Ac a5.o P.o;have av:B<=W1.heap.size:=Nat.le_trans HW.o.2 H.size;have KL:=Aa (A7 B b dn l [⟨#[102,117,110,99,32]⟩,x,⟨#[40]⟩,E,⟨#[41,32,123]⟩] W1 (by simp) (by omega) hl (by have z0:(⟨#[102,117,110,99,32]⟩:ByteArray).size=5:=rfl;have z2:(⟨#[40]⟩:ByteArray).size=1:=rfl;have z4:(⟨#[41,32,123]⟩:ByteArray).size=3:=rfl;simp only [AW,A4];omega) (HW.o.1.over H) av);have HV:=Aa (And.intro (A5 H HW.o.2) (Az.over H));obtain ⟨U,hU⟩:=nm (W1.alloc (ze #[.string ⟨#[102,117,110,99,32]⟩,.string x,.string ⟨#[40]⟩,.string E,.string ⟨#[41,32,123]⟩] 9));have a2:Hx (Ov V U):=by show Ov _ _;rw [hU];exact Ac P.o (bA _ _)
 have ad:Hx (Calls Tryz.prog 86 #[zf (some ⟨b,0,none⟩),zc (some ⟨W1.heap.size,0,none⟩) 5 5] U (AH B b dn (l++(inT dn++(([⟨#[102,117,110,99,32]⟩,x,⟨#[40]⟩,E,⟨#[41,32,123]⟩]:List ByteArray).map (fun y:ByteArray=>y.data.toList)).flatten++[10])) W1)):=by rw [hU];exact KL.o
 have a3:Hx (Az V W1):=Az.over P.o;rw [<-hU];generalize W1.heap.size=g at ad ⊢;clear H av KL hU;refine xK T (fun i=>a2.o.cell (p:=⟨n,i,none⟩) (Bv r.o)) fun c=>?_;clear T K;refine rdA 7 rfl fun K T=>?_;go_simp;refine ad.o.mono ?_;rintro e W3 h3;have HE:=Aa (h3.trans HV.o.1 HV.o.2);have Q:=Aa (a3.o.trans h3.2.2.2);obtain rfl:=h3.1;clear h3 ad HV a2 a3 c;go_simp;refine xK T (fun i=>Bc r.o Q.o (by decide) (by decide) i) fun c=>?_;clear T K;refine gE ?_;have J:∀ (j:Nat) (u:Value),[I O 7,I O a,.string x,.string y,zd gv,zc aL nL cL,zc aP nP cP,zc aB nB cB,I O e0,I O e1,I O e2,.string e3,zc q q1 q2][j]? = some u->W3.cell? ⟨n,j,none⟩=some u:=fun j u hu=>by
  rw [Bc r.o Q.o (by decide) (by decide) j,Lib.cell_of_heap r.o];simpa using hu
 have r7:=J 7 _ rfl;have S:W3.heap[n]? = some (ze #[I O 7,I O a,.string x,.string y,zd gv,zc aL nL cL,zc aP nP cP,zc aB nB cB,I O e0,I O e1,I O e2,.string e3,zc q q1 q2] 51 (0,0)):=Q.o n _ 51 _ r.o (by decide) (by decide);have a0:=Aa S;have az:=Aa (KB.o W3 HE.o.2.2.1 HE.o.2.1);clear J S Q r KB c m0 m1 m2 m3 m4 m5 m6 m7 m8 m9 aj ai ah;go_wp2_with fail;refine az.o.mono ?_;rintro e W4 h4;have A:=Aa (h4.trans HE.o.2.2.1 HE.o.2.2.2);have N:=Aa (h4.2.2.2 n _ 51 _ a0.o (by decide) (by decide));obtain rfl:=h4.1;clear h4 az r7 a0 HE;obtain ⟨cb,hh⟩:=A.o.2.1.heap;obtain ⟨g2,f2,aa,C⟩:=A.o.2.1.cells;obtain ⟨Z,hZ⟩:=nm (W4.setCell ⟨b,2,none⟩ (I O ((dn+1:Nat):Int)));have HZ:Hx (Bb B b ((dn+1:Nat):Int) (Lib.byteCells (l++(inT dn++(([⟨#[102,117,110,99,32]⟩,x,⟨#[40]⟩,E,⟨#[41,32,123]⟩]:List ByteArray).map (fun y:ByteArray=>y.data.toList)).flatten++[10])++RB)) Z/\Below B w Z/\Az w Z):=by
  show _/\_/\_;rw [hZ];exact ⟨A.o.2.1.move _,A.o.2.2.1.setCell (p:=⟨b,2,none⟩) C _,A.o.2.2.2.trans (Az.setCell hh _ _)⟩
 have bk:Hx (Z.heap[n]? = some (ze #[I O 7,I O a,.string x,.string y,zd gv,zc aL nL cL,zc aP nP cP,zc aB nB cB,I O e0,I O e1,I O e2,.string e3,zc q q1 q2] 51 (0,0))):=by
  show _=_;rw [hZ];exact Az.setCell hh _ _ n _ 51 _ N.o (by decide) (by decide)
 have f:((dn+1:Nat):Int)=(dn:Int)+1:=by omega
 have J:∀ (j:Nat) (u:Value),[I O 7,I O a,.string x,.string y,zd gv,zc aL nL cL,zc aP nP cP,zc aB nB cB,I O e0,I O e1,I O e2,.string e3,zc q q1 q2][j]? = some u->W4.cell? ⟨n,j,none⟩=some u:=fun j u hu=>by
  rw [Lib.cell_of_heap N.o];simpa using hu
 have r8:=J 8 _ rfl;have r9:=J 9 _ rfl;have bd:=J 10 _ rfl;have bc:=J 11 _ rfl;have bb:=J 12 _ rfl;have ay:=Aa (KF.o Z HZ.o.2.1);have al:(n == b)=false:=by
  cases e:n == b with
  | false=>rfl
  | true=>
   rw [beq_iff_eq] at e;have:=N.o;rw [e,hh] at this;simp at this
 have R:¬ n=b:=by simpa using al
 have ak:¬ b=n:=fun e=>R e.symm;rw [f] at hZ;have af:=Aa HW.o.2;clear J f N bk hh aa C A KF HW;go_wp2_with fail;rw [<-hZ];refine ay.o.mono ?_;rintro e W5 ⟨rfl,M⟩;have aq:B<=Z.heap.size:=Nat.le_trans af.o HZ.o.2.1.size;have G:Hx (Bb B b ((dn+1:Nat):Int) (Lib.byteCells (l++(inT dn++(([⟨#[102,117,110,99,32]⟩,x,⟨#[40]⟩,E,⟨#[41,32,123]⟩]:List ByteArray).map (fun y:ByteArray=>y.data.toList)).flatten++[10])++RB)) W5/\Below B w W5/\Az w W5):=⟨HZ.o.1.over M,HZ.o.2.1.trans (A5 M aq),HZ.o.2.2.trans (Az.over M)⟩;have au:B<=W5.heap.size:=Nat.le_trans af.o G.o.2.1.size;have ax:=Aa (A7 B b (dn+1) (l++(inT dn++(([⟨#[102,117,110,99,32]⟩,x,⟨#[40]⟩,E,⟨#[41,32,123]⟩]:List ByteArray).map (fun y:ByteArray=>y.data.toList)).flatten++[10])++RB) [⟨#[114,101,116,117,114,110,32]⟩,F,⟨#[59]⟩] W5 (by simp) hd hl2 (by have z0:(⟨#[114,101,116,117,114,110,32]⟩:ByteArray).size=7:=rfl;have z2:(⟨#[59]⟩:ByteArray).size=1:=rfl;simp only [AW,A4];omega) G.o.1 au);clear M aq ay hZ HZ r8 r9 bd bc bb g2 f2 al R ak au;go_wp2_with fail;refine ax.o.mono ?_;rintro e W6 h6;have v:=Aa (h6.trans G.o.2.1 G.o.2.2);obtain rfl:=h6.1;clear h6 ax G;obtain ⟨ca,hh⟩:=v.o.2.1.heap;obtain ⟨g2,f2,aa,C⟩:=v.o.2.1.cells;obtain ⟨Y,hY⟩:=nm (W6.setCell ⟨b,2,none⟩ (I O (dn:Int)));have HY:Hx (Bb B b dn (Lib.byteCells (l++(inT dn++(([⟨#[102,117,110,99,32]⟩,x,⟨#[40]⟩,E,⟨#[41,32,123]⟩]:List ByteArray).map (fun y:ByteArray=>y.data.toList)).flatten++[10])++RB++(inT (dn+1)++(([⟨#[114,101,116,117,114,110,32]⟩,F,⟨#[59]⟩]:List ByteArray).map (fun y:ByteArray=>y.data.toList)).flatten++[10]))) Y/\Below B w Y/\Az w Y):=by
  show _/\_/\_;rw [hY];exact ⟨v.o.2.1.move _,v.o.2.2.1.setCell (p:=⟨b,2,none⟩) C _,v.o.2.2.2.trans (Az.setCell hh _ _)⟩
 have f:((dn+1:Nat):Int)=(dn:Int)+1:=by omega
 rw [f] at g2;have be:(dn:Int)+1 - 1=(dn:Int):=by omega
 have ar:B<=Y.heap.size:=Nat.le_trans af.o HY.o.2.1.size;have ao:Y.heap.size=W6.heap.size:=by rw [hY];simp [World.setCell]
 have ae:=A7 B b dn (l++(inT dn++(([⟨#[102,117,110,99,32]⟩,x,⟨#[40]⟩,E,⟨#[41,32,123]⟩]:List ByteArray).map (fun y:ByteArray=>y.data.toList)).flatten++[10])++RB++(inT (dn+1)++(([⟨#[114,101,116,117,114,110,32]⟩,F,⟨#[59]⟩]:List ByteArray).map (fun y:ByteArray=>y.data.toList)).flatten++[10])) [⟨#[125]⟩] Y (by simp) (by omega) hl3 (by have z0:(⟨#[125]⟩:ByteArray).size=1:=rfl;simp only [AW,A4];omega) HY.o.1 ar;rw [ao] at ae;have KC:=Aa ae;clear hh aa C f v ar ae ao;go_wp2_with fail;first
  | rw [<-hY]
  | (rw [be];rw [<-hY])
  | skip
 refine KC.o.mono ?_;rintro e W7 h7;have HF:=Aa (h7.trans HY.o.2.1 HY.o.2.2);obtain rfl:=h7.1;clear h7 KC;go_wp2_with fail;go_end0;exact HF.o
theorem Pv (ke kc b:Nat) (w0:World) (ht:HT w0) (d:D) (cs:List Value) (l:List UInt8) (X:World) (hX:Ov w0 X) (h:ZD w0 ke kc cs d) (hf:dfK ke kc d=true) (hm:BH ke d=false) (hg:∀ s∈gL 7 d,sfK ke kc s=true/\gdC ke 6 s) (hP:Bb w0.heap.size b ((0:Nat):Int) (Lib.byteCells l) X) (hl:(l++deT ke kc d).length<=1000000) :
  Calls Tryz.prog 85 #[zf (some ⟨b,0,none⟩),.agg cs.toArray] X (AH w0.heap.size b ((0:Nat):Int) (l++deT ke kc d) X):=by
 obtain ⟨i,a,x,y,j,P,N,n,F,C,g,G,E,f,M,L,K,J,q,q1,H,r,rfl,rfl,-,-,hL,ai,hB,hR⟩:=h;obtain ⟨p1,p2,p3,p4,p5,p6⟩:=CX hf;have a2:(laT (deD i a x y j n g f r)).length<=420:=by
  simp only [BH,Bool.or_eq_false_iff,decide_eq_false_iff_not] at hm;refine IP p5 (by have:=hm.1.1.1;omega) fun p hp=>?_;have:=List.any_eq_false.1 hm.2 p hp;simp only [decide_eq_true_eq] at this;omega
 simp only [BH,Bool.or_eq_false_iff,decide_eq_false_iff_not] at hm;obtain ⟨⟨⟨m1,m2⟩,m3⟩,m4⟩:=hm;have ac:∀ p∈n,(gL 3 p).length<=6:=fun p hp=>by
  have:=List.any_eq_false.1 m4 p hp;simp only [decide_eq_true_eq] at this;omega
 simp only [gDd,List.length_map] at m1 m2 m3 p1 p2 p3 p4 hg;have hx:x.size<=12:=Dr p3;have hy:y.size<=12:=FV p4;have v:w0.heap.size<=X.heap.size:=hX.size;have u:l.length<=1000000:=by rw [List.length_append] at hl;omega
 have hT:deT ke kc (deD i a x y j n g f r)=if i=7 then wdT 7++x.data.toList++[40]++AY [44,32] (g.map (fun y=>y.data.toList))++[41,32,123,10]++Bt ke kc 1 f++[32,32,114,101,116,117,114,110,32]++exT ke r++[59,10,125,10] else wdT i++x.data.toList++(if i=2 then [32]++y.data.toList else [])++laT (deD i a x y j n g f r)++[59,10]:=by
  unfold deT;simp only [gDd,List.map_map];rfl
 have KE:Hx (∀ Y,Ov X Y->Ro 122 #[zg #[I O i,I O a,.string x,.string y,zd j,zc P n.length N,zc F g.length C,zc G f.length E,I O M,I O L,I O K,.string J,zc q q1 H]] Y (.string ⟨(laT (deD i a x y j n g f r)).toArray⟩)):=fun Y hY=>
  NP i a x y j P N n F C g.length G f.length E M L K J q q1 H (deD i a x y j n g f r) Y rfl rfl p5 (by omega) ac (DP hY (DP hX hL))
 have S:(⟨(laT (deD i a x y j n g f r)).toArray⟩:ByteArray).size<=10000:=by rw [CK];omega
 have R:i≠4->i≠5->i≠6->laT (deD i a x y j n g f r)=[]:=fun h4 h5 h6=>by
  have ah:j=false:=by
   cases hgB:j with
   | false=>rfl
   | true=>have:=((Bw p5).1 hgB).1;simp only [gDd] at this;omega
  unfold laT;rw [if_neg (by simp only [gDd,ah];simp)]
 rw [hT] at hl ⊢;obtain rfl | rfl | rfl | rfl | rfl | rfl | rfl:i=1\/i=2\/i=3\/i=4\/i=5\/i=6\/i=7:=by omega
 ·have A:=R (by decide) (by decide) (by decide)
  have:=PD w0.heap.size b 0 l a x y j P n.length N F g.length C G f.length E M L K J q q1 H X hP v (by decide) u (by omega) (by omega);rw [if_neg (by decide),if_neg (by decide),A];simpa [inT,wdT] using this
 ·have A:=R (by decide) (by decide) (by decide)
  have:=PC w0.heap.size b 0 l a x y j P n.length N F g.length C G f.length E M L K J q q1 H X hP v (by decide) u (by omega) (by omega);rw [if_neg (by decide),if_pos rfl,A];simpa [inT,wdT] using this
 ·have A:=R (by decide) (by decide) (by decide)
  have:=PB w0.heap.size b 0 l a x y j P n.length N F g.length C G f.length E M L K J q q1 H X hP v (by decide) u (by omega) (by omega);rw [if_neg (by decide),if_neg (by decide),A];simpa [inT,wdT] using this
 ·have:=Pz w0.heap.size b 0 l a x y j P n.length N F g.length C G f.length E M L K J q q1 H X hP v (by decide) u (by omega) _ S KE
  rw [if_neg (by decide),if_neg (by decide)];simpa [inT,wdT] using this
 ·have:=Py w0.heap.size b 0 l a x y j P n.length N F g.length C G f.length E M L K J q q1 H X hP v (by decide) u (by omega) _ S KE
  rw [if_neg (by decide),if_neg (by decide)];simpa [inT,wdT] using this
 ·have:=Px w0.heap.size b 0 l a x y j P n.length N F g.length C G f.length E M L K J q q1 H X hP v (by decide) u (by omega) _ S KE
  rw [if_neg (by decide),if_neg (by decide)];simpa [inT,wdT] using this
 ·rw [if_pos rfl] at hl ⊢
  simp only [Ec,gDd,if_true,Bool.and_eq_true,List.all_eq_true] at p6;obtain ⟨⟨f1,f2⟩,f3⟩:=p6;have af:∀ z∈g,z.size<=700:=fun z Q=>by
   have:=Dr (f1 (dS z) (List.mem_map_of_mem Q));rw [G2] at this;exact Nat.le_trans this (by decide)
  have W:∀ z∈g,z.size<=12:=fun z Q=>by
   have:=Dr (f1 (dS z) (List.mem_map_of_mem Q))
   rwa [G2] at this
  have a0:(AY [44,32] (g.map (fun y=>y.data.toList))).length<=100:=by
   have:=CW [44,32] 12 (g.map (fun y=>y.data.toList)) fun z Q=>by
    obtain ⟨c,hc,rfl⟩:=List.mem_map.1 Q;exact W c hc
   rw [List.length_map] at this;have a1:g.length*(12+2)<=4*(12+2):=Nat.mul_le_mul_right _ (by omega);simp only [List.length_cons,List.length_nil] at this;omega
  have ad:=Cn f3 m3;have:=Pw w0.heap.size b 0 (l++(wdT 7++x.data.toList++[40]++AY [44,32] (g.map (fun y=>y.data.toList))++[41,32,123,10]++Bt ke kc 1 f++[32,32,114,101,116,117,114,110,32]++exT ke r++[59,10,125,10])) a x y j P n.length N F g.length C G f.length E M L K J q q1 H X v fun Y hY=>by
   have B:=Ac hX hY;have:=Pp w0.heap.size b 0 l (Bt ke kc 1 f) a x y j P n.length N F g.length C G f.length E M L K J q q1 H Y (hP.over hY) B.size (by decide) u (by omega) ⟨(AY [44,32] (g.map (fun y=>y.data.toList))).toArray⟩ (by rw [CK];omega) (fun Z T=>LX g F g.length C Z rfl (Ds (Ac B T) ai) (by omega) af) ⟨(exT ke r).toArray⟩ (by rw [CK];omega) (by simp [inT,wdT] at hl ⊢;omega) (by simp [inT,wdT] at hl ⊢;omega)
    (fun Z T aj=>GY ke kc b 0 _ f G f.length E w0 Z rfl hB (DS B T) aj (by decide) (by simp [inT,wdT] at hl ⊢;omega) fun s U al l2 V hV Q ak ag=>Oe ke b w0 ht kc 6 s al 1 l2 V hV Q (hg s U).1 (hg s U).2 (by decide) ak ag)
    (fun Z T=>Gl ke _ r Z (ht.over (DS B T)) (hR.over (DS B T)) f3 (Nat.le_trans ad (by decide)))
   simpa [inT,wdT] using this
  exact this
theorem OB (ke kc b:Nat) (w0 w:World) (ht:HT w0) (ds l:List D) (a:Option Addr) (c:Nat) (a2:Option Addr) (c2 nd nl:Nat) (hnd:nd=ds.length) (hnl:nl=l.length) (hD:LS 13 (ZD w0 ke kc) w0 (zc a nd c) ds) (hM:LS 12 (ZC w0 ke kc) w0 (zc a2 nl c2) l) (hw0:Ov w0 w) (hG:PX ke kc ds l) (hP:Bb w0.heap.size b ((0:Nat):Int) (Lib.byteCells []) w) (hl:(trT ke kc ds l).length<=1000000) :
  Calls Tryz.prog 43 #[zf (some ⟨b,0,none⟩),zg #[zc a nd c,zc a2 nl c2]] w (AH w0.heap.size b ((0:Nat):Int) (trT ke kc ds l) w):=by
 have F:w0.heap.size<=w.heap.size:=hw0.size;have W:trT ke kc ds l=(ds.map (deT ke kc)).flatten++(inT 0++(([⟨#[109,97,105,110,32,123]⟩]:List ByteArray).map (fun y:ByteArray=>y.data.toList)).flatten++[10])++Bt ke kc 1 l++(inT 0++(([⟨#[125]⟩]:List ByteArray).map (fun y:ByteArray=>y.data.toList)).flatten++[10]):=by
  unfold trT;simp [inT]
 rw [W] at hl ⊢;obtain ⟨fin,x⟩:=nm ((ds.map (deT ke kc)).flatten++(inT 0++(([⟨#[109,97,105,110,32,123]⟩]:List ByteArray).map (fun y:ByteArray=>y.data.toList)).flatten++[10])++Bt ke kc 1 l++(inT 0++(([⟨#[125]⟩]:List ByteArray).map (fun y:ByteArray=>y.data.toList)).flatten++[10]));rw [<-x];have HF:=Aa x;have Y:((ds.map (deT ke kc)).flatten).length<=1000000:=by simp only [List.length_append] at hl;omega
 have K:((ds.map (deT ke kc)).flatten++(inT 0++(([⟨#[109,97,105,110,32,123]⟩]:List ByteArray).map (fun y:ByteArray=>y.data.toList)).flatten++[10])++Bt ke kc 1 l).length<=1000000:=by simp only [List.length_append] at hl ⊢;omega
 have HC:=Aa hD;have HN:=Aa hnd;have af:=Aa Y;have a9:=Aa K;have cl:=Aa hG;have a8:=hD.max;rw [<-hnd] at a8;have a7:=Aa hw0;have KB:Hx (∀ X,Below w0.heap.size w X->Bb w0.heap.size b ((0:Nat):Int) (Lib.byteCells ((ds.map (deT ke kc)).flatten++(inT 0++(([⟨#[109,97,105,110,32,123]⟩]:List ByteArray).map (fun y:ByteArray=>y.data.toList)).flatten++[10]))) X->Calls Tryz.prog 87 #[zf (some ⟨b,0,none⟩),zc a2 nl c2] X (AH w0.heap.size b ((0:Nat):Int) ((ds.map (deT ke kc)).flatten++(inT 0++(([⟨#[109,97,105,110,32,123]⟩]:List ByteArray).map (fun y:ByteArray=>y.data.toList)).flatten++[10])++Bt ke kc 1 l) X)):=fun X hX M=>
  GY ke kc b 0 _ l a2 nl c2 w0 X hnl hM (DS hw0 hX) M (by decide) K fun s T a5 l2 V R hz aw ap=>Oe ke b w0 ht kc 6 s a5 1 l2 V R hz (hG.2.1 s T) (hG.2.2 s T) (by decide) aw ap
 have KD:Hx (∀ d∈ds,∀ cs l' X,Below w0.heap.size w X->ZD w0 ke kc cs d->Bb w0.heap.size b ((0:Nat):Int) (Lib.byteCells l') X->(l'++deT ke kc d).length<=1000000->Calls Tryz.prog 85 #[zf (some ⟨b,0,none⟩),.agg cs.toArray] X (AH w0.heap.size b ((0:Nat):Int) (l'++deT ke kc d) X)):=fun d hd cs l' X hX hz M ao=>
  Pv ke kc b w0 ht d cs l' X (DS hw0 hX) hz (hG.1 d hd).1 (hG.1 d hd).2.1 (hG.1 d hd).2.2 M ao
 obtain ⟨B,hB⟩:=nm w0.heap.size;rw [<-hB] at hP F KB KD ⊢;have bc:=Aa hB;obtain ⟨bq,L⟩:=nm w.heap.size;obtain ⟨V,R⟩:=nm (w.alloc (ze #[zc a nd c,zc a2 nl c2] 25));have hO:Ov w V:=by rw [R];exact bA _ _
 have aa:V.heap[bq]? = some (ze #[zc a nd c,zc a2 nl c2] 25 (0,0)):=by rw [R,L];exact heap_alloc_new w _
 have ai:=Aa aa;have HI:Hx (Bb B b ((0:Nat):Int) (Lib.byteCells []) V/\Below B w V/\Az w V):=⟨hP.over hO,A5 hO F,Az.over hO⟩;have P:=Aa F;clear x Y K hl hD hnd hnl hM hw0 hG hP hB hO aa F W;go_enter Tryz.func43,Tryz.ntmps43;go_wp2_with fail;rw [<-R,<-L];clear R L;go_loopw [9] (fun i wr=>∃ (j:Nat),j<=nd/\i=I O j/\Hx (Bb B b ((0:Nat):Int) (Lib.byteCells (((ds.take j).map (deT ke kc)).flatten)) wr/\Below B w wr/\Az w wr/\Az V wr)) (fun i _=>nd - (intOf i).toNat)
 case atStart=>exact ⟨0,Nat.zero_le _,rfl,by show _/\_;exact ⟨by simpa using HI.o.1,HI.o.2.1,HI.o.2.2,Az.refl _⟩⟩
 case round=>
  obtain ⟨j,hj,rfl,G⟩:=hrel;by_cases hjl:j < nd
  ·have n:j < ds.length:=by have:=HN.o;omega
   have aq:(j:Int) < (nd:Int):=by omega
   obtain ⟨b1,al,rfl,cs,an,f,hr⟩:=HC.o.at n;have r:=List.getElem_mem n;have E:((ds.take (j+1)).map (deT ke kc)).flatten=((ds.take j).map (deT ke kc)).flatten++deT ke kc ds[j]:=by
    rw [Df ds j n,List.map_append,List.flatten_append];simp
   have u:(((ds.take (j+1)).map (deT ke kc)).flatten).length<=1000000:=by
    have e:(ds.map (deT ke kc)).flatten=((ds.take (j+1)).map (deT ke kc)).flatten++((ds.drop (j+1)).map (deT ke kc)).flatten:=by
     conv=>lhs;rw [<-List.take_append_drop (j+1) ds]
     rw [List.map_append,List.flatten_append]
    have:=af.o;rw [e] at this;simp only [List.length_append] at this ⊢;omega
   obtain ⟨dj,Z⟩:=nm ds[j];rw [<-Z] at hr r E;have g:Ov w0 wr:=by have:=a7.o.trans (by have:=G.o.2.1;rw [bc.o] at this;exact this);exact this
   obtain ⟨k0,k1,k2,k3,k4,aL,nL,cL,aP,nP,cP,aB,nB,cB,e0,e1,e2,e3,q,q1,q2,rfl⟩:=hr.cells;rw [E] at u;obtain ⟨U,hU⟩:=nm (wr.alloc (ze #[I O k0,I O k1,.string k2,.string k3,zd k4,zc aL nL cL,zc aP nP cP,zc aB nB cB,I O e0,I O e1,I O e2,.string e3,zc q q1 q2] 51));have A:Ov wr U:=by rw [hU];exact bA _ _
   have ab:B<=wr.heap.size:=Nat.le_trans P.o G.o.2.1.size;have N:=G.o.2.1.trans (A5 A ab);have KC:=Aa (KD.o dj r _ _ U N hr (G.o.1.over A) u);have HU:=Aa (And.intro N (And.intro (G.o.2.2.1.trans (Az.over A)) (G.o.2.2.2.trans (Az.over A))));have d0:wr.cell? ⟨b1,al+j*13,none⟩=_:=ce1 g (f 0 _ rfl);have d1:=ce1 g (f 1 _ rfl);have d2:=ce1 g (f 2 _ rfl);have d3:=ce1 g (f 3 _ rfl);have d4:=ce1 g (f 4 _ rfl);have d5:=ce1 g (f 5 _ rfl);have d6:=ce1 g (f 6 _ rfl);have d7:=ce1 g (f 7 _ rfl);have d8:=ce1 g (f 8 _ rfl);have d9:=ce1 g (f 9 _ rfl);have a4:=ce1 g (f 10 _ rfl);have a3:=ce1 g (f 11 _ rfl);have a1:=ce1 g (f 12 _ rfl);have ae:=Aa E;clear f an hr g n Z r E u A ab G N;go_wp2_with fail;rw [<-hU];clear hU d0 d1 d2 d3 d4 d5 d6 d7 d8 d9 a4 a3 a1;refine KC.o.mono ?_;rintro e J C;have ba:Hx (Bb B b ((0:Nat):Int) (Lib.byteCells (((ds.take (j+1)).map (deT ke kc)).flatten)) J/\Below B w J/\Az w J/\Az V J):=by
    show _/\_;rw [ae.o];exact ⟨C.2.1,HU.o.1.trans C.2.2.1,HU.o.2.1.trans C.2.2.2,HU.o.2.2.trans C.2.2.2⟩
   obtain rfl:=C.1;clear C KC ae HU;go_wp2_with fail;exact ⟨⟨j+1,by omega,by go_num,ba⟩,by simp [intOf];omega⟩
  ·have aq:¬ (j:Int) < (nd:Int):=by omega
   have v:ds.take j=ds:=List.take_of_length_le (by have:=HN.o;omega);have S:=G.o;rw [v] at S;have KL:=Aa (A7 B b 0 ((ds.map (deT ke kc)).flatten) [⟨#[109,97,105,110,32,123]⟩] wr (by simp) (by decide) af.o (by have z0:(⟨#[109,97,105,110,32,123]⟩:ByteArray).size=6:=rfl;simp only [AW,A4];omega) S.1 (Nat.le_trans P.o S.2.1.size));have HK:=Aa S.2.2.2;have Q:=Aa S.2;clear S v G;go_wp2_with fail;refine KL.o.mono ?_;rintro e J C;have HE:=Aa (C.trans Q.o.1 Q.o.2.1);have ag:=Aa (HK.o.trans C.2.2.2);have p1:J.cell? ⟨bq,1,none⟩=some (zc a2 nl c2):=by rw [Bc ai.o ag.o (by decide) (by decide) 1,Lib.cell_of_heap ai.o];rfl
   have ad:=Aa (KB.o J HE.o.2.2.1 HE.o.2.1);obtain rfl:=C.1;clear C KL HK Q ag KB;go_wp2_with fail;refine ad.o.mono ?_;rintro e w2 h2;have H:=Aa (h2.trans HE.o.2.2.1 HE.o.2.2.2);obtain rfl:=h2.1;clear h2 ad p1 HE;have KC:=Aa (A7 B b 0 _ [⟨#[125]⟩] w2 (by simp) (by decide) a9.o (by have z0:(⟨#[125]⟩:ByteArray).size=1:=rfl;simp only [AW,A4];omega) H.o.2.1 (Nat.le_trans P.o H.o.2.2.1.size));go_wp2_with fail;refine KC.o.mono ?_;rintro e w3 h3;have h4:=h3.trans H.o.2.2.1 H.o.2.2.2;rw [<-HF.o] at h4;have HZ:=Aa h4;obtain rfl:=h3.1;clear h3 h4 KC;go_wp2_with fail;go_end0;exact HZ.o
theorem Ko (ke kc:Nat) (ds l:List D) (v:Value) (w:World) (ht:HT w) (hz:ZT w ke kc v ds l):Calls Tryz.prog 19 #[v] w fun e w'=>e=zh (zi #[.string (if ckT ke kc ds l=0 then ⟨(trT ke kc ds l).toArray⟩ else ⟨#[]⟩),I O (ckT ke kc ds l)])/\Ov w w':=by
 have f:Hx (∀ X,Ov w X->Ro 14 #[v] X (I O (ckT ke kc ds l))):=fun X M=>I2 ke kc ds l v X (hz.over M);have hG:=@FD ke kc ds l;have g:=@J5 ke kc ds l;have A:=hz;obtain ⟨a,c,R,Q,rfl,hD,hM⟩:=hz;have b:Hx (ckT ke kc ds l=0->∀ X,Ov w X->Calls Tryz.prog 43 #[zf (some ⟨X.heap.size,0,none⟩),zg #[zc a ds.length c,zc R l.length Q]] (X.alloc (ze #[zf none,zc none 0 0,I O 0] 79)) (AH X.heap.size X.heap.size ((0:Nat):Int) (trT ke kc ds l) (X.alloc (ze #[zf none,zc none 0 0,I O 0] 79)))):=fun F X M=>by
  obtain ⟨a',c',ai,ah,e,T,S⟩:=A.over M;simp only [Value.agg.injEq,Array.mk.injEq,List.cons.injEq,Value.slice.injEq,true_and,and_true] at e;obtain ⟨⟨rfl,rfl⟩,rfl,rfl⟩:=e;exact OB ke kc X.heap.size X _ (ht.over M) ds l a c R Q _ _ rfl rfl T S (bA _ _) (hG F) (Or.inl ⟨Nat.le_refl _,zc none 0 0,heap_alloc_new X _,World.ownsRow_nil _ _ _ _,by simp [Value.ownBlock]⟩) (Nat.le_trans (g F) (by decide))
 generalize ds.length=nd at f b ⊢;generalize l.length=nl at f b ⊢;have B:trT ke kc ds l≠[]:=by unfold trT;simp
 obtain ⟨V,y⟩:=nm (w.alloc (ze #[zc a nd c,zc R nl Q] 25));have i:Hx (Ov w V):=by show Ov _ _;rw [y];exact bA _ _
 obtain ⟨L,K⟩:=rc2 (Ax w [zc a nd c,zc R nl Q] 25);obtain ⟨cc,C⟩:=nm (ckT ke kc ds l);rw [<-C] at f b g ⊢;have r:=Aa g;have H:=Aa B;clear hG g hD hM A C B;generalize trT ke kc ds l=tx at b r H ⊢;by_cases F:cc=0
 ·subst F
  rw [if_pos rfl];have KT:=Aa (b.o rfl);clear b;go_enter Tryz.func19,Tryz.ntmps19;go_wp2_with fail;rw [<-y];rw [<-y] at L K;clear y;refine (f.o _ i.o).mono ?_;rintro e n ⟨rfl,u⟩;have j:=Aa (Ac i.o u);have n0:=AQ (ce1 u L) (ze #[zf none,zc none 0 0,I O 0] 79);have n1:=AQ (ce1 u K) (ze #[zf none,zc none 0 0,I O 0] 79);have x:=Aa (KT.o n j.o);obtain ⟨U,N⟩:=nm (n.alloc (ze #[zf none,zc none 0 0,I O 0] 79));rw [<-N] at x;have W:Hx (Ov n U):=by show Ov _ _;rw [N];exact bA _ _
  clear u f KT i L K;go_wp2_with fail;rw [<-N];clear N n0 n1;refine x.o.mono ?_;rintro e Z P;have G:=Aa P.2.1;have J:Hx (Below n.heap.size n Z):=W.o.trans P.2.2.1;obtain rfl:=P.1;clear P x;have KS:=Aa (QX n.heap.size n.heap.size ((0:Nat):Int) tx Z G.o H.o (Nat.le_trans (r.o (by first | rfl | trivial)) (by decide)));go_wp2_with fail;refine KS.o.mono ?_;rintro e w3 ⟨rfl,E⟩;have Y:Hx (Ov w w3):=Ac j.o (J.o.trans E);clear E KS J G;go_wp2_with fail
  go_ret2
  exact ⟨rfl,Y.o⟩
 ·rw [if_neg F]
  clear b;go_enter Tryz.func19,Tryz.ntmps19;go_wp2_with fail;rw [<-y];clear y L K;refine (f.o _ i.o).mono ?_;rintro e n ⟨rfl,u⟩;have j:=Aa (Ac i.o u);clear u f;go_wp2_with fail
  go_ret2
  exact ⟨rfl,j.o⟩
theorem Kd:(⟨(trT 61 (2*(An AX).length+3) Cg Co).toArray⟩:ByteArray)=AX:=by
 rw [Jc]
theorem ZT.same {ke kc:Nat} {ds l:List D} {v:Value} {w:World} (h:ZT w ke kc v ds l):Ro 22 #[v,v] w (zd true):=Nk ke kc ds l ds l v v w h h (M3 _ _ _ _ _)
theorem ZT.notEmp {ke kc:Nat} {ds l:List D} {v:Value} {w:World} (h:ZT w ke kc v ds l) (hd:ds≠[]):Ro 22 #[v,zg #[zc none 0 0,zc none 0 0]] w (zd false):=by
 obtain ⟨a,c,g,f,rfl,b,i⟩:=h;exact O1 a _ c g _ f none 0 0 none 0 0 w b.1 (Nat.zero_le _) fun e=>hd (List.eq_nil_of_length_eq_zero e)
theorem Ji (w:World) (ht:HT w):Ro 21 #[] w (zd true):=by
 have L:=Aa (Ix w);have x:=Aa ht;clear ht;go_enter Tryz.func21,Tryz.ntmps21;go_wp2_with fail;refine L.o.mono ?_;rintro e f ⟨b,v,rfl,B⟩;have u:Hx (∀ X,Ov f X->Calls Tryz.prog 19 #[v] X fun e Q=>e=zh (zi #[.string AX,I O 0])/\Ov X Q):=fun X l=>by
  have h:=Ko 61 _ Cg Co v X ((x.o.over b).over l) (B.over l);rw [Ei,if_pos rfl,Kd] at h;exact h
 have H:Hx (∀ X,Ov f X->Ro 22 #[v,v] X (zd true)):=fun X l=>(B.over l).same;have G:Hx (∀ X,Ov f X->Ro 22 #[v,zg #[zc none 0 0,zc none 0 0]] X (zd false)):=fun X l=>(B.over l).notEmp (by unfold Cg;simp);obtain ⟨a,c,F,E,rfl,-,-⟩:=B;have K:=Aa b;generalize Cg.length=nd at u H G ⊢;generalize Co.length=nl at u H G ⊢;clear L b x;unfold AX at u;obtain ⟨V,C⟩:=nm (f.alloc (ze #[zc a nd c,zc F nl E] 25));have j:Hx (Ov f V):=by show Ov _ _;rw [C];exact bA _ _
 obtain ⟨R,g⟩:=nm f.heap.size;have M:Hx (Af [zc a nd c,zc F nl E] V R):=by show Af _ _ _;rw [C,g];exact Ax f [zc a nd c,zc F nl E] 25
 obtain ⟨r,n⟩:=rc2 (Ax f [zc a nd c,zc F nl E] 25);go_wp2_with fail;rw [<-C,<-g];clear r n C g;refine (u.o V j.o).mono ?_;rintro e P ⟨rfl,b⟩;have A:=Aa (Ac j.o b);have i:=Aa (M.o.over b);obtain ⟨r,n⟩:=rc2 i.o;clear b u j M;go_wp2_with fail;clear r n;refine (H.o P A.o).mono ?_;rintro e N ⟨rfl,b⟩;have y:=Aa (Ac A.o b);obtain ⟨r,n⟩:=rc2 (i.o.over b);clear b H i;go_wp2_with fail;clear r n;refine (G.o N y.o).mono ?_;rintro e S ⟨rfl,b⟩;have J:=Aa (Ac K.o (Ac y.o b));clear b G;go_wp2_with fail;go_ret;exact ⟨rfl,J.o⟩
theorem Ns {s:ByteArray} {p r:Int} (h:Cz s=.inr (p,r)):r≠0:=by
 unfold Cz at h;split at h
 ·split at h
  ·split at h
   ·injection h with h;injection h with c a;rw [<-a];decide
   ·split at h
    ·cases h
    ·rename_i b
     injection h with h;injection h with c a;rw [<-a];exact b
  ·rename_i b
   injection h with h;injection h with c a;rw [<-a];exact fun e=>b (by omega)
 ·injection h with h;injection h with c a;rw [<-a];decide
theorem Mm {s:ByteArray} {ds l:List D} (h:Cz s=.inl (ds,l)):ckT 61 (2*(An s).length+3) ds l=0:=by
 unfold Cz at h;split at h
 ·split at h
  ·split at h
   ·cases h
   ·split at h
    ·rename_i a
     injection h with h;injection h with c b;rw [<-c,<-b];exact a
    ·cases h
  ·cases h
 ·cases h
theorem Ic {ke kc:Nat} {ds l:List D} {v:Value} {x:ByteArray} {w w1:World} (hke:1<=ke) (hz:ZT w ke kc v ds l) (hx:x=⟨(trT ke kc ds l).toArray⟩) (h0:ckT ke kc ds l=0) (hs:x.size<=6000) (hb:Ov w w1) {e:Ending} (hp:FY x (Cz x) e w1) :
  ∃ a n c a2 n2 c2,e=zh (zi #[zg #[zc a n c,zc a2 n2 c2],I O 0,I O 0])/\∀ X,Ov w1 X->Ro 22 #[v,zg #[zc a n c,zc a2 n2 c2]] X (zd true):=by
 obtain ⟨i,y,u,C,B⟩:=Kn hx hke h0 hs;rw [u] at hp;obtain ⟨F,rfl,g⟩:=hp;have r:∀ K M,stK false K M ds l i y=true:=fun K M=>by
  have E:=L2.all2 (f:=sdK false K M) (fun a b h=>h K M) C;have a2:=L2.all2 (f:=ssK false K M) (fun a b h=>h K M) B;unfold stK;rw [E,a2];rfl
 have j:=g;obtain ⟨a,c,a2,c2,rfl,-,-⟩:=j;exact ⟨a,_,c,a2,_,c2,rfl,fun X A=>Nk (max ke 61) (max kc (2*(An x).length+3)) ds l i y v _ X (((hz.over hb).over A).up (fun _ _ h=>h) (fun _ _ h=>h) (Nat.le_max_left _ _) (Nat.le_max_left _ _)) ((g.over A).up (fun _ _ h=>h) (fun _ _ h=>h) (Nat.le_max_right _ _) (Nat.le_max_right _ _)) (r _ _)⟩
theorem showBack_any (ke kc:Nat) (hke:1<=ke) (ds l:List D) (v:Value) (s:ByteArray) (hs:s.size<=maxLen) (w:World) (ht:HT w) (hz:ZT w ke kc v ds l):Ro 8 #[v,.string s] w (zd true):=by
 obtain ⟨cc,S⟩:=nm (ckT ke kc ds l);obtain ⟨tx,P⟩:=nm (⟨(trT ke kc ds l).toArray⟩:ByteArray);obtain ⟨ao,C⟩:=nm (Cz s);have KS:Hx (∀ X,Ov w X->Calls Tryz.prog 19 #[v] X fun e w'=>e=zh (zi #[.string (if cc=0 then tx else ⟨#[]⟩),I O cc])/\Ov X w'):=fun X F=>by
  rw [S,P];exact Ko ke kc ds l v X (ht.over F) (hz.over F)
 have bt:cc=0->tx.size<=200000:=fun h0=>by
  rw [P];exact J5 (S ▸ h0)
 have KP:Hx (cc=0->∀ X,Ov w X->tx.size<=6000->Calls Tryz.prog 10 #[.string tx] X (fun e K=>Ov X K/\∃ a n c a2 n2 c2,e=zh (zi #[zg #[zc a n c,zc a2 n2 c2],I O 0,I O 0])/\∀ Y,Ov K Y->Ro 22 #[v,zg #[zc a n c,zc a2 n2 c2]] Y (zd true))):=fun h0 X F E=>
  (Gi tx (Nat.le_trans E (by decide)) X).mono fun e K ⟨f,R⟩=>⟨f,Ic hke (hz.over F) P (S ▸ h0) E f R⟩
 have KB:Hx (∀ X,Ov w X->Ro 21 #[] X (zd true)):=fun X F=>Ji X (ht.over F);have KT:Hx (∀ X,Ro 12 #[] X (zd true)):=fun X=>I6 X;have KQ:Hx (∀ X,Calls Tryz.prog 10 #[.string s] X (fun e w'=>Ov X w'/\FY s ao e w')):=fun X=>by rw [C];exact Gi s hs X
 have aq:=Aa ht;have u:=Aa C;obtain ⟨a,c,a2,c2,rfl,-,-⟩:=hz;clear S P ht C hke;generalize ds.length=nd at KS KP ⊢;generalize l.length=nl at KS KP ⊢;obtain ⟨V,hV⟩:=nm (w.alloc (ze #[zc a nd c,zc a2 nl c2] 25));have ai:Hx (Ov w V):=by show Ov _ _;rw [hV];exact bA _ _
 obtain ⟨bq,ae⟩:=nm w.heap.size;have HR:Hx (Af [zc a nd c,zc a2 nl c2] V bq):=by show Af _ _ _;rw [hV,ae];exact Ax w [zc a nd c,zc a2 nl c2] 25
 have b9:s.size<=9223372036854775807:=hs;clear hs;have H3:Hx (cc=0/\tx.size<=6000\/(cc=0/\¬ tx.size<=6000)\/¬ cc=0):=by show _\/_\/_;omega
 go_enter Tryz.func8,Tryz.ntmps8;go_wp2_with fail;rw [<-hV,<-ae];clear hV ae;refine (KB.o V ai.o).mono ?_;rintro e K ⟨rfl,f⟩;have az:=Aa (Ac ai.o f);have aw:=Aa (HR.o.over f);clear f ai HR KB;go_wp2_with fail;refine (KT.o K).mono ?_;rintro e w2 ⟨rfl,f⟩;have ak:=Aa (Ac az.o f);have ah:=Aa (aw.o.over f);obtain ⟨A,y⟩:=rc2 ah.o;clear f az aw KT;go_wp2_with fail;clear A y;refine (KS.o w2 ak.o).mono ?_;rintro e w3 ⟨rfl,f⟩;have j:=Aa (Ac ak.o f);have aa:=Aa (ah.o.over f);clear f ak ah KS;rcases H3.o with ⟨h0,h6⟩ | ⟨h0,h6⟩ | h0
 case' inl=>
  subst h0;rw [if_pos rfl];have T:((tx.size:Nat):Int)<=6000:=by omega
  have ap:=Aa (KP.o rfl);clear KP;go_wp2_with fail;refine (ap.o w3 j.o h6).mono ?_;rintro e w4 ⟨f,b,n,d,b2,n2,d2,rfl,B⟩;have ay:=Aa (Ac j.o f);have av:=Aa (aa.o.over f);have G:=Aa B;obtain ⟨U,hU⟩:=nm (w4.alloc (ze #[zc b n d,zc b2 n2 d2] 25));have i:Hx (Ov w4 U):=by show Ov _ _;rw [hU];exact bA _ _
  obtain ⟨A,y⟩:=rc2 (av.o);replace A:=AQ A (ze #[zc b n d,zc b2 n2 d2] 25);replace y:=AQ y (ze #[zc b n d,zc b2 n2 d2] 25);obtain ⟨g0,g1⟩:=rc2 (Ax w4 [zc b n d,zc b2 n2 d2] 25);clear f B j aa ap;go_wp2_with fail;rw [<-hU];clear hU A y g0 g1;refine (G.o U i.o).mono ?_;rintro e w5 ⟨rfl,f⟩;have g:=Aa (Ac ay.o (Ac i.o f));clear f ay av G i h6 T;go_wp2_with fail
 case' inr.inl=>
  subst h0;rw [if_pos rfl];have T:¬ ((tx.size:Nat):Int)<=6000:=by omega
  have g:=Aa j.o;clear KP aa j h6;go_wp2_with fail
 case' inr.inr=>
  rw [if_neg h0];have g:=Aa j.o;clear KP aa j;go_wp2_with fail
 all_goals
  refine (KQ.o _).mono ?_;rintro e J ⟨f,R⟩;have ab:=Aa (Ac g.o f);have br:=Aa (aq.o.over ab.o);clear f g KQ aq;rcases ao with ⟨af,l2⟩ | ⟨p,r⟩
  ·obtain ⟨v2,rfl,N⟩:=R
   have x:=Mm u.o.symm;obtain ⟨M,hM⟩:=nm (2*(An s).length+3);rw [<-hM] at N x;obtain ⟨L,Q⟩:=nm (⟨(trT 61 M af l2).toArray⟩:ByteArray);have bn:L.size<=200000:=by rw [Q];exact J5 x
   have W:Hx (∀ X,Ov J X->Calls Tryz.prog 19 #[v2] X fun e w'=>e=zh (zi #[.string L,I O 0])/\Ov X w'):=fun X F=>by
    have h:=Ko 61 M af l2 v2 X (br.o.over F) (N.over F);rw [if_pos x,<-Q,x] at h;exact h
   have KR:Hx (∀ X,Ov J X->Calls Tryz.prog 10 #[.string L] X (fun e K=>Ov X K/\∃ a n c a2 n2 c2 r,e=zh (zi #[zg #[zc a n c,zc a2 n2 c2],I O 0,I O r])/\(L.size<=6000->r=0/\∀ Y,Ov K Y->Ro 22 #[v2,zg #[zc a n c,zc a2 n2 c2]] Y (zd true)))):=fun X F=>by
    refine (Gi L (Nat.le_trans bn (by decide)) X).mono fun e K ⟨f,R⟩=>⟨f,?_⟩;by_cases E:L.size<=6000
    ·obtain ⟨a,n,c,a2,n2,c2,h1,h2⟩:=Ic (by omega) (N.over F) Q x E f R
     exact ⟨a,n,c,a2,n2,c2,0,h1,fun _=>⟨rfl,h2⟩⟩
    ·unfold Cz at R
     rw [if_neg E] at R;exact ⟨none,0,0,none,0,0,2,R,fun h=>absurd h E⟩
   obtain ⟨a3,c3,a4,c4,rfl,-,-⟩:=N;generalize af.length=n3 at W KR ⊢;generalize l2.length=n4 at W KR ⊢;clear Q x hM u;obtain ⟨U,hU⟩:=nm (J.alloc (ze #[zc a3 n3 c3,zc a4 n4 c4] 25));have i:Hx (Ov J U):=by show Ov _ _;rw [hU];exact bA _ _
   obtain ⟨bu,ad⟩:=nm J.heap.size;have ar:Hx (Af [zc a3 n3 c3,zc a4 n4 c4] U bu):=by show Af _ _ _;rw [hU,ad];exact Ax J [zc a3 n3 c3,zc a4 n4 c4] 25
   obtain ⟨A,y⟩:=rc2 (Ax J [zc a3 n3 c3,zc a4 n4 c4] 25);go_wp2_with fail;rw [<-hU,<-ad];clear A y hU ad;refine (W.o U i.o).mono ?_;rintro e w7 ⟨rfl,f⟩;have H:=Aa (Ac i.o f);have au:=Aa (ar.o.over f);clear f i ar W;go_wp2_with fail;refine (KR.o w7 H.o).mono ?_;rintro e w8 ⟨f,b5,n5,c5,b6,n6,c6,r,rfl,E⟩;have ax:=Aa (Ac H.o f);have bs:=Aa (au.o.over f);have HQ:=Aa E;clear f H au KR;obtain ⟨Z,hZ⟩:=nm (w8.alloc (ze #[zc b5 n5 c5,zc b6 n6 c6] 25));have g:Hx (Ov w8 Z):=by show Ov _ _;rw [hZ];exact bA _ _
   obtain ⟨A,y⟩:=rc2 (bs.o);replace A:=AQ A (ze #[zc b5 n5 c5,zc b6 n6 c6] 25);replace y:=AQ y (ze #[zc b5 n5 c5,zc b6 n6 c6] 25);obtain ⟨g0,g1⟩:=rc2 (Ax w8 [zc b5 n5 c5,zc b6 n6 c6] 25);by_cases h6:L.size<=6000
   ·have T:¬ ((L.size:Nat):Int) > 6000:=by omega
    obtain ⟨rfl,B⟩:=E h6;have G:=Aa B;clear E B HQ;go_wp2_with fail;rw [<-hZ];clear hZ A y g0 g1;refine (G.o Z g.o).mono ?_;rintro e w9 ⟨rfl,f⟩;have aj:=Aa (Ac ab.o (Ac ax.o (Ac g.o f)));clear f G;go_wp2_with fail;go_ret;exact ⟨rfl,aj.o⟩
   ·have T:((L.size:Nat):Int) > 6000:=by omega
    have aj:=Aa (Ac ab.o (Ac ax.o g.o));clear E HQ;go_wp2_with fail;rw [<-hZ];go_ret;exact ⟨rfl,aj.o⟩
  ·obtain rfl:=R
   have b8:¬ r=0:=Ns u.o.symm;have H:=Aa (Ac ab.o (bA J (ze #[zc none 0 0,zc none 0 0] 25)));obtain ⟨A,y⟩:=rc2 (Ax J [zc none 0 0,zc none 0 0] 25);clear u;go_wp2_with fail;go_ret;exact ⟨rfl,H.o⟩
end Go.Proofs.YtipngnjffjajpaaGreatDoor.Tx
