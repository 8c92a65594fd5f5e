/- The printer of package show: a function. -/
import Derived.Test.YtipngnjffjajpaaGreatDoorI30
import Derived.Test.YtipngnjffjajpaaGreatDoorI25
set_option linter.unusedVariables false
set_option maxHeartbeats 8000000
set_option maxRecDepth 100000
namespace Go.Proofs.YtipngnjffjajpaaGreatDoor.Tx
open Go.RowKit
open Go.Value renaming int -> A, slice -> O, bool -> zc, agg -> ze, pointer -> zf, tuple -> zh
open Go.IntKind renaming i64 -> J
open Go.Obj renaming cells -> zd
open Go.Ending renaming returned -> zg
theorem NH (B b dn:Nat) (l RB:List UInt8) (a:Int) (x y:ByteArray) (gv:Bool) (aL:Option Addr) (nL cL:Nat) (aP:Option Addr) (nP cP:Nat) (aB:Option Addr) (nB cB:Nat) (e0 e1 e2:Int) (e3:ByteArray) (q:Option Addr) (q1 q2:Nat) (w:World) (hP:A1 B b dn (Lib.byteCells l) w) (hBw:B<=w.heap.size) (hd:dn+1<=10) (hl:l.length<=1000000) (hxs:x.size<=10000) (E:ByteArray) (hEs:E.size<=10000) (KE:Hx (∀ X,Ov w X->Ro 148 #[O aP nP cP] X (.string E)))
  (F:ByteArray) (hFs:F.size<=10000) (hl2:(l++(inT dn++(([⟨#[102,117,110,99,32]⟩,x,⟨#[40]⟩,E,⟨#[41,32,123]⟩]:List ByteArray).map (fun y:ByteArray=>y.data.toList)).flatten++[10])++RB).length<=1000000) (hl3:(l++(inT dn++(([⟨#[102,117,110,99,32]⟩,x,⟨#[40]⟩,E,⟨#[41,32,123]⟩]:List ByteArray).map (fun y:ByteArray=>y.data.toList)).flatten++[10])++RB++(inT (dn+1)++(([⟨#[114,101,116,117,114,110,32]⟩,F,⟨#[59]⟩]:List ByteArray).map (fun y:ByteArray=>y.data.toList)).flatten++[10])).length<=1000000)
  (KB:Hx (∀ X,Below B w X->A1 B b dn (Lib.byteCells (l++(inT dn++(([⟨#[102,117,110,99,32]⟩,x,⟨#[40]⟩,E,⟨#[41,32,123]⟩]:List ByteArray).map (fun y:ByteArray=>y.data.toList)).flatten++[10]))) X->Calls Tryz.prog 87 #[zf (some ⟨b,0,none⟩),O aB nB cB] X (Az B b dn (l++(inT dn++(([⟨#[102,117,110,99,32]⟩,x,⟨#[40]⟩,E,⟨#[41,32,123]⟩]:List ByteArray).map (fun y:ByteArray=>y.data.toList)).flatten++[10])++RB) X)))
  (KF:Hx (∀ X,Below B w X->Ro 149 #[ze #[A J e0,A J e1,A J e2,.string e3,O q q1 q2]] X (.string F))) :
  Calls Tryz.prog 123 #[zf (some ⟨b,0,none⟩),ze #[A J 7,A J a,.string x,.string y,zc gv,O aL nL cL,O aP nP cP,O aB nB cB,A J e0,A J e1,A J e2,.string e3,O q q1 q2]] w (Az B b dn (l++(inT dn++(([⟨#[102,117,110,99,32]⟩,x,⟨#[40]⟩,E,⟨#[41,32,123]⟩]:List ByteArray).map (fun y:ByteArray=>y.data.toList)).flatten++[10])++RB++(inT (dn+1)++(([⟨#[114,101,116,117,114,110,32]⟩,F,⟨#[59]⟩]:List ByteArray).map (fun y:ByteArray=>y.data.toList)).flatten++[10])++(inT dn++(([⟨#[125]⟩]:List ByteArray).map (fun y:ByteArray=>y.data.toList)).flatten++[10])) w):=by
 obtain ⟨V,hV⟩:=nm (w.alloc (zd #[A J 7,A J a,.string x,.string y,zc gv,O aL nL cL,O aP nP cP,O aB nB cB,A J e0,A J e1,A J e2,.string e3,O q q1 q2] 51));obtain ⟨n,L⟩:=nm w.heap.size;have a5:Hx (Ov w V):=by show Ov _ _;rw [hV];exact bA _ _
 have am:V.heap[n]? = some (zd #[A J 7,A J a,.string x,.string y,zc gv,O aL nL cL,O aP nP cP,O aB nB cB,A J e0,A J e1,A J e2,.string e3,O q q1 q2] 51 (0,0)):=by rw [hV,L];exact heap_alloc_new w _
 have r:=Aa am;obtain ⟨m0,m1,m2,m3,m4,m5,m6,m7,m8,m9,aj,ai,ah⟩:=Ah (Ai w [A J 7,A J a,.string x,.string y,zc gv,O aL nL cL,O aP nP cP,O aB nB cB,A J e0,A J e1,A J e2,.string e3,O q q1 q2] 51);rw [<-hV,<-L] at m0 m1 m2 m3 m4 m5 m6 m7 m8 m9 aj ai ah;have HW:=Aa (And.intro hP hBw);clear am hP hBw;go_enter Tryz.func123,Tryz.ntmps123;go_wp2_with fail;rw [<-hV,<-L];clear hV L;refine Go.Proofs.YtipngnjffjajpaaGreatDoor.gS (fun Wz=>∀ i,Wz.cell? ⟨n,i,none⟩=V.cell? ⟨n,i,none⟩) (fun _=>rfl) fun c=>?_;have H:Ov V V.drew:=(Below.refl _ _).drew;generalize V.drew=W at c H ⊢;refine kT 0 ?_;refine kT 1 ?_;refine kT 2 ?_;refine kT 3 ?_;refine kT 4 ?_;refine rdA 5 rfl fun K T=>?_;go_simp;refine (KE.o _ (Ab a5.o H)).mono ?_;rintro e W1 ⟨rfl,hb⟩;have P:=Aa (Ab H hb);clear hb H KE c;go_simp;refine xK T (fun i=>P.o.cell (p:=⟨n,i,none⟩) (Bh r.o)) fun c=>?_;clear T K;refine rdA 6 rfl fun K T=>?_;go_simp;have H:=Ab a5.o P.o;have av:B<=W1.heap.size:=Nat.le_trans HW.o.2 H.size;have KL:=Aa (AZ B b dn l [⟨#[102,117,110,99,32]⟩,x,⟨#[40]⟩,E,⟨#[41,32,123]⟩] W1 (by simp) (by omega) hl (by have z0:(⟨#[102,117,110,99,32]⟩:ByteArray).size=5:=rfl;have z2:(⟨#[40]⟩:ByteArray).size=1:=rfl;have z4:(⟨#[41,32,123]⟩:ByteArray).size=3:=rfl;simp only [AM,AX];omega) (HW.o.1.over H) av);have HV:=Aa (And.intro (AY H HW.o.2) (Am.over H));obtain ⟨U,hU⟩:=nm (W1.alloc (zd #[.string ⟨#[102,117,110,99,32]⟩,.string x,.string ⟨#[40]⟩,.string E,.string ⟨#[41,32,123]⟩] 9));have a2:Hx (Ov V U):=by show Ov _ _;rw [hU];exact Ab P.o (bA _ _)
 have ad:Hx (Calls Tryz.prog 86 #[zf (some ⟨b,0,none⟩),O (some ⟨W1.heap.size,0,none⟩) 5 5] U (Az B b dn (l++(inT dn++(([⟨#[102,117,110,99,32]⟩,x,⟨#[40]⟩,E,⟨#[41,32,123]⟩]:List ByteArray).map (fun y:ByteArray=>y.data.toList)).flatten++[10])) W1)):=by rw [hU];exact KL.o
 have a3:Hx (Am V W1):=Am.over P.o;rw [<-hU];generalize W1.heap.size=g at ad ⊢;clear H av KL hU;refine xK T (fun i=>a2.o.cell (p:=⟨n,i,none⟩) (Bh r.o)) fun c=>?_;clear T K;refine rdA 7 rfl fun K T=>?_;go_simp;refine ad.o.mono ?_;rintro e W3 h3;have HE:=Aa (h3.trans HV.o.1 HV.o.2);have Q:=Aa (a3.o.trans h3.2.2.2);obtain rfl:=h3.1;clear h3 ad HV a2 a3 c;go_simp;refine xK T (fun i=>A2 r.o Q.o (by decide) (by decide) i) fun c=>?_;clear T K;refine gE ?_;have I:∀ (j:Nat) (u:Value),[A J 7,A J a,.string x,.string y,zc gv,O aL nL cL,O aP nP cP,O aB nB cB,A J e0,A J e1,A J e2,.string e3,O q q1 q2][j]? = some u->W3.cell? ⟨n,j,none⟩=some u:=fun j u hu=>by
  rw [A2 r.o Q.o (by decide) (by decide) j,Lib.cell_of_heap r.o];simpa using hu
 have r7:=I 7 _ rfl;have S:W3.heap[n]? = some (zd #[A J 7,A J a,.string x,.string y,zc gv,O aL nL cL,O aP nP cP,O aB nB cB,A J e0,A J e1,A J e2,.string e3,O q q1 q2] 51 (0,0)):=Q.o n _ 51 _ r.o (by decide) (by decide);have a0:=Aa S;have az:=Aa (KB.o W3 HE.o.2.2.1 HE.o.2.1);clear I S Q r KB c m0 m1 m2 m3 m4 m5 m6 m7 m8 m9 aj ai ah;go_wp2_with fail;refine az.o.mono ?_;rintro e W4 h4;have v:=Aa (h4.trans HE.o.2.2.1 HE.o.2.2.2);have N:=Aa (h4.2.2.2 n _ 51 _ a0.o (by decide) (by decide));obtain rfl:=h4.1;clear h4 az r7 a0 HE;obtain ⟨cb,hh⟩:=v.o.2.1.heap;obtain ⟨g2,f2,aa,C⟩:=v.o.2.1.cells;obtain ⟨Z,hZ⟩:=nm (W4.setCell ⟨b,2,none⟩ (A J ((dn+1:Nat):Int)));have HZ:Hx (A1 B b ((dn+1:Nat):Int) (Lib.byteCells (l++(inT dn++(([⟨#[102,117,110,99,32]⟩,x,⟨#[40]⟩,E,⟨#[41,32,123]⟩]:List ByteArray).map (fun y:ByteArray=>y.data.toList)).flatten++[10])++RB)) Z/\Below B w Z/\Am w Z):=by
  show _/\_/\_;rw [hZ];exact ⟨v.o.2.1.move _,v.o.2.2.1.setCell (p:=⟨b,2,none⟩) C _,v.o.2.2.2.trans (Am.setCell hh _ _)⟩
 have bk:Hx (Z.heap[n]? = some (zd #[A J 7,A J a,.string x,.string y,zc gv,O aL nL cL,O aP nP cP,O aB nB cB,A J e0,A J e1,A J e2,.string e3,O q q1 q2] 51 (0,0))):=by
  show _=_;rw [hZ];exact Am.setCell hh _ _ n _ 51 _ N.o (by decide) (by decide)
 have f:((dn+1:Nat):Int)=(dn:Int)+1:=by omega
 have I:∀ (j:Nat) (u:Value),[A J 7,A J a,.string x,.string y,zc gv,O aL nL cL,O aP nP cP,O aB nB cB,A J e0,A J e1,A J e2,.string e3,O q q1 q2][j]? = some u->W4.cell? ⟨n,j,none⟩=some u:=fun j u hu=>by
  rw [Lib.cell_of_heap N.o];simpa using hu
 have r8:=I 8 _ rfl;have r9:=I 9 _ rfl;have bd:=I 10 _ rfl;have bc:=I 11 _ rfl;have bb:=I 12 _ rfl;have ay:=Aa (KF.o Z HZ.o.2.1);have al:(n == b)=false:=by
  cases e:n == b with
  | false=>rfl
  | true=>
   rw [beq_iff_eq] at e;have:=N.o;rw [e,hh] at this;simp at this
 have R:¬ n=b:=by simpa using al
 have ak:¬ b=n:=fun e=>R e.symm;rw [f] at hZ;have af:=Aa HW.o.2;clear I f N bk hh aa C v KF HW;go_wp2_with fail;rw [<-hZ];refine ay.o.mono ?_;rintro e W5 ⟨rfl,M⟩;have aq:B<=Z.heap.size:=Nat.le_trans af.o HZ.o.2.1.size;have G:Hx (A1 B b ((dn+1:Nat):Int) (Lib.byteCells (l++(inT dn++(([⟨#[102,117,110,99,32]⟩,x,⟨#[40]⟩,E,⟨#[41,32,123]⟩]:List ByteArray).map (fun y:ByteArray=>y.data.toList)).flatten++[10])++RB)) W5/\Below B w W5/\Am w W5):=⟨HZ.o.1.over M,HZ.o.2.1.trans (AY M aq),HZ.o.2.2.trans (Am.over M)⟩;have au:B<=W5.heap.size:=Nat.le_trans af.o G.o.2.1.size;have ax:=Aa (AZ B b (dn+1) (l++(inT dn++(([⟨#[102,117,110,99,32]⟩,x,⟨#[40]⟩,E,⟨#[41,32,123]⟩]:List ByteArray).map (fun y:ByteArray=>y.data.toList)).flatten++[10])++RB) [⟨#[114,101,116,117,114,110,32]⟩,F,⟨#[59]⟩] W5 (by simp) hd hl2 (by have z0:(⟨#[114,101,116,117,114,110,32]⟩:ByteArray).size=7:=rfl;have z2:(⟨#[59]⟩:ByteArray).size=1:=rfl;simp only [AM,AX];omega) G.o.1 au);clear M aq ay hZ HZ r8 r9 bd bc bb g2 f2 al R ak au;go_wp2_with fail;refine ax.o.mono ?_;rintro e W6 h6;have t:=Aa (h6.trans G.o.2.1 G.o.2.2);obtain rfl:=h6.1;clear h6 ax G;obtain ⟨ca,hh⟩:=t.o.2.1.heap;obtain ⟨g2,f2,aa,C⟩:=t.o.2.1.cells;obtain ⟨Y,hY⟩:=nm (W6.setCell ⟨b,2,none⟩ (A J (dn:Int)));have HY:Hx (A1 B b dn (Lib.byteCells (l++(inT dn++(([⟨#[102,117,110,99,32]⟩,x,⟨#[40]⟩,E,⟨#[41,32,123]⟩]:List ByteArray).map (fun y:ByteArray=>y.data.toList)).flatten++[10])++RB++(inT (dn+1)++(([⟨#[114,101,116,117,114,110,32]⟩,F,⟨#[59]⟩]:List ByteArray).map (fun y:ByteArray=>y.data.toList)).flatten++[10]))) Y/\Below B w Y/\Am w Y):=by
  show _/\_/\_;rw [hY];exact ⟨t.o.2.1.move _,t.o.2.2.1.setCell (p:=⟨b,2,none⟩) C _,t.o.2.2.2.trans (Am.setCell hh _ _)⟩
 have f:((dn+1:Nat):Int)=(dn:Int)+1:=by omega
 rw [f] at g2;have be:(dn:Int)+1 - 1=(dn:Int):=by omega
 have ar:B<=Y.heap.size:=Nat.le_trans af.o HY.o.2.1.size;have ao:Y.heap.size=W6.heap.size:=by rw [hY];simp [World.setCell]
 have ae:=AZ B b dn (l++(inT dn++(([⟨#[102,117,110,99,32]⟩,x,⟨#[40]⟩,E,⟨#[41,32,123]⟩]:List ByteArray).map (fun y:ByteArray=>y.data.toList)).flatten++[10])++RB++(inT (dn+1)++(([⟨#[114,101,116,117,114,110,32]⟩,F,⟨#[59]⟩]:List ByteArray).map (fun y:ByteArray=>y.data.toList)).flatten++[10])) [⟨#[125]⟩] Y (by simp) (by omega) hl3 (by have z0:(⟨#[125]⟩:ByteArray).size=1:=rfl;simp only [AM,AX];omega) HY.o.1 ar;rw [ao] at ae;have KC:=Aa ae;clear hh aa C f t ar ae ao;go_wp2_with fail;first
  | rw [<-hY]
  | (rw [be];rw [<-hY])
  | skip
 refine KC.o.mono ?_;rintro e W7 h7;have HF:=Aa (h7.trans HY.o.2.1 HY.o.2.2);obtain rfl:=h7.1;clear h7 KC;go_wp2_with fail;go_end0;exact HF.o
theorem NN (ke kc b:Nat) (w0:World) (ht:HT w0) (d:D) (cs:List Value) (l:List UInt8) (X:World) (hX:Ov w0 X) (h:ZD w0 ke kc cs d) (hf:dfK ke kc d=true) (hm:Cn ke d=false) (hg:∀ s∈gL 7 d,sfK ke kc s=true/\gdC ke 6 s) (hP:A1 w0.heap.size b ((0:Nat):Int) (Lib.byteCells l) X) (hl:(l++deT ke kc d).length<=1000000) :
  Calls Tryz.prog 85 #[zf (some ⟨b,0,none⟩),.agg cs.toArray] X (Az w0.heap.size b ((0:Nat):Int) (l++deT ke kc d) X):=by
 obtain ⟨i,a,x,y,j,Q,P,n,F,C,g,G,E,f,N,M,L,K,q,I,H,r,rfl,rfl,-,-,hL,aj,hB,hR⟩:=h;obtain ⟨p1,p2,p3,p4,p5,p6⟩:=D7 hf;have a4:(laT (deD i a x y j n g f r)).length<=420:=by
  simp only [Cn,Bool.or_eq_false_iff,decide_eq_false_iff_not] at hm;refine G7 p5 (by have:=hm.1.1.1;omega) fun p hp=>?_;have:=List.any_eq_false.1 hm.2 p hp;simp only [decide_eq_true_eq] at this;omega
 simp only [Cn,Bool.or_eq_false_iff,decide_eq_false_iff_not] at hm;obtain ⟨⟨⟨m1,m2⟩,m3⟩,m4⟩:=hm;have ad:∀ p∈n,(gL 3 p).length<=6:=fun p hp=>by
  have:=List.any_eq_false.1 m4 p hp;simp only [decide_eq_true_eq] at this;omega
 simp only [gDd,List.length_map] at m1 m2 m3 p1 p2 p3 p4 hg;have hx:x.size<=12:=Ck p3;have hy:y.size<=12:=Dm p4;have u:w0.heap.size<=X.heap.size:=hX.size;have t:l.length<=1000000:=by rw [List.length_append] at hl;omega
 have hT:deT ke kc (deD i a x y j n g f r)=if i=7 then wdT 7++x.data.toList++[40]++Ax [44,32] (g.map (fun y=>y.data.toList))++[41,32,123,10]++AJ ke kc 1 f++[32,32,114,101,116,117,114,110,32]++exT ke r++[59,10,125,10] else wdT i++x.data.toList++(if i=2 then [32]++y.data.toList else [])++laT (deD i a x y j n g f r)++[59,10]:=by
  unfold deT;simp only [gDd,List.map_map];rfl
 have KE:Hx (∀ Y,Ov X Y->Ro 122 #[ze #[A J i,A J a,.string x,.string y,zc j,O Q n.length P,O F g.length C,O G f.length E,A J N,A J M,A J L,.string K,O q I H]] Y (.string ⟨(laT (deD i a x y j n g f r)).toArray⟩)):=fun Y hY=>
  Ms i a x y j Q P n F C g.length G f.length E N M L K q I H (deD i a x y j n g f r) Y rfl rfl p5 (by omega) ad (CF hY (CF hX hL))
 have T:(⟨(laT (deD i a x y j n g f r)).toArray⟩:ByteArray).size<=10000:=by rw [AW];omega
 have S:i≠4->i≠5->i≠6->laT (deD i a x y j n g f r)=[]:=fun h4 h5 h6=>by
  have ai:j=false:=by
   cases hgB:j with
   | false=>rfl
   | true=>have:=((Cf p5).1 hgB).1;simp only [gDd] at this;omega
  unfold laT;rw [if_neg (by simp only [gDd,ai];simp)]
 rw [hT] at hl ⊢;obtain rfl | rfl | rfl | rfl | rfl | rfl | rfl:i=1\/i=2\/i=3\/i=4\/i=5\/i=6\/i=7:=by omega
 ·have v:=S (by decide) (by decide) (by decide)
  have:=NV w0.heap.size b 0 l a x y j Q n.length P F g.length C G f.length E N M L K q I H X hP u (by decide) t (by omega) (by omega);rw [if_neg (by decide),if_neg (by decide),v];simpa [inT,wdT] using this
 ·have v:=S (by decide) (by decide) (by decide)
  have:=NU w0.heap.size b 0 l a x y j Q n.length P F g.length C G f.length E N M L K q I H X hP u (by decide) t (by omega) (by omega);rw [if_neg (by decide),if_pos rfl,v];simpa [inT,wdT] using this
 ·have v:=S (by decide) (by decide) (by decide)
  have:=NT w0.heap.size b 0 l a x y j Q n.length P F g.length C G f.length E N M L K q I H X hP u (by decide) t (by omega) (by omega);rw [if_neg (by decide),if_neg (by decide),v];simpa [inT,wdT] using this
 ·have:=NS w0.heap.size b 0 l a x y j Q n.length P F g.length C G f.length E N M L K q I H X hP u (by decide) t (by omega) _ T KE
  rw [if_neg (by decide),if_neg (by decide)];simpa [inT,wdT] using this
 ·have:=NR w0.heap.size b 0 l a x y j Q n.length P F g.length C G f.length E N M L K q I H X hP u (by decide) t (by omega) _ T KE
  rw [if_neg (by decide),if_neg (by decide)];simpa [inT,wdT] using this
 ·have:=NQ w0.heap.size b 0 l a x y j Q n.length P F g.length C G f.length E N M L K q I H X hP u (by decide) t (by omega) _ T KE
  rw [if_neg (by decide),if_neg (by decide)];simpa [inT,wdT] using this
 ·rw [if_pos rfl] at hl ⊢
  simp only [CK,gDd,if_true,Bool.and_eq_true,List.all_eq_true] at p6;obtain ⟨⟨f1,f2⟩,f3⟩:=p6;have ag:∀ z∈g,z.size<=700:=fun z R=>by
   have:=Ck (f1 (dS z) (List.mem_map_of_mem R));rw [Fc] at this;exact Nat.le_trans this (by decide)
  have aa:∀ z∈g,z.size<=12:=fun z R=>by
   have:=Ck (f1 (dS z) (List.mem_map_of_mem R))
   rwa [Fc] at this
  have a2:(Ax [44,32] (g.map (fun y=>y.data.toList))).length<=100:=by
   have:=BO [44,32] 12 (g.map (fun y=>y.data.toList)) fun z R=>by
    obtain ⟨c,hc,rfl⟩:=List.mem_map.1 R;exact aa c hc
   rw [List.length_map] at this;have a3:g.length*(12+2)<=4*(12+2):=Nat.mul_le_mul_right _ (by omega);simp only [List.length_cons,List.length_nil] at this;omega
  have ae:=AV f3 m3;have:=NP w0.heap.size b 0 (l++(wdT 7++x.data.toList++[40]++Ax [44,32] (g.map (fun y=>y.data.toList))++[41,32,123,10]++AJ ke kc 1 f++[32,32,114,101,116,117,114,110,32]++exT ke r++[59,10,125,10])) a x y j Q n.length P F g.length C G f.length E N M L K q I H X u fun Y hY=>by
   have B:=Ab hX hY;have:=NH w0.heap.size b 0 l (AJ ke kc 1 f) a x y j Q n.length P F g.length C G f.length E N M L K q I H Y (hP.over hY) B.size (by decide) t (by omega) ⟨(Ax [44,32] (g.map (fun y=>y.data.toList))).toArray⟩ (by rw [AW];omega) (fun Z U=>JT g F g.length C Z rfl (BB (Ab B U) aj) (by omega) ag) ⟨(exT ke r).toArray⟩ (by rw [AW];omega) (by simp [inT,wdT] at hl ⊢;omega) (by simp [inT,wdT] at hl ⊢;omega)
    (fun Z U ak=>F7 ke kc b 0 _ f G f.length E w0 Z rfl hB (Dg B U) ak (by decide) (by simp [inT,wdT] at hl ⊢;omega) fun s W am l2 V hV R al ah=>MN ke b w0 ht kc 6 s am 1 l2 V hV R (hg s W).1 (hg s W).2 (by decide) al ah)
    (fun Z U=>Fx ke _ r Z (ht.over (Dg B U)) (hR.over (Dg B U)) f3 (Nat.le_trans ae (by decide)))
   simpa [inT,wdT] using this
  exact this
theorem M3 (ke kc b:Nat) (w0 w:World) (ht:HT w0) (ds l:List D) (a:Option Addr) (c:Nat) (a2:Option Addr) (c2 nd nl:Nat) (hnd:nd=ds.length) (hnl:nl=l.length) (hD:LS 13 (ZD w0 ke kc) w0 (O a nd c) ds) (hM:LS 12 (ZC w0 ke kc) w0 (O a2 nl c2) l) (hw0:Ov w0 w) (hG:MW ke kc ds l) (hP:A1 w0.heap.size b ((0:Nat):Int) (Lib.byteCells []) w) (hl:(trT ke kc ds l).length<=1000000) :
  Calls Tryz.prog 43 #[zf (some ⟨b,0,none⟩),ze #[O a nd c,O a2 nl c2]] w (Az w0.heap.size b ((0:Nat):Int) (trT ke kc ds l) w):=by
 have F:w0.heap.size<=w.heap.size:=hw0.size;have W:trT ke kc ds l=(ds.map (deT ke kc)).flatten++(inT 0++(([⟨#[109,97,105,110,32,123]⟩]:List ByteArray).map (fun y:ByteArray=>y.data.toList)).flatten++[10])++AJ ke kc 1 l++(inT 0++(([⟨#[125]⟩]:List ByteArray).map (fun y:ByteArray=>y.data.toList)).flatten++[10]):=by
  unfold trT;simp [inT]
 rw [W] at hl ⊢;obtain ⟨bt,v⟩:=nm ((ds.map (deT ke kc)).flatten++(inT 0++(([⟨#[109,97,105,110,32,123]⟩]:List ByteArray).map (fun y:ByteArray=>y.data.toList)).flatten++[10])++AJ ke kc 1 l++(inT 0++(([⟨#[125]⟩]:List ByteArray).map (fun y:ByteArray=>y.data.toList)).flatten++[10]));rw [<-v];have HF:=Aa v;have Y:((ds.map (deT ke kc)).flatten).length<=1000000:=by simp only [List.length_append] at hl;omega
 have K:((ds.map (deT ke kc)).flatten++(inT 0++(([⟨#[109,97,105,110,32,123]⟩]:List ByteArray).map (fun y:ByteArray=>y.data.toList)).flatten++[10])++AJ ke kc 1 l).length<=1000000:=by simp only [List.length_append] at hl ⊢;omega
 have HC:=Aa hD;have HN:=Aa hnd;have af:=Aa Y;have a9:=Aa K;have ck:=Aa hG;have a8:=hD.max;rw [<-hnd] at a8;have a7:=Aa hw0;have KB:Hx (∀ X,Below w0.heap.size w X->A1 w0.heap.size b ((0:Nat):Int) (Lib.byteCells ((ds.map (deT ke kc)).flatten++(inT 0++(([⟨#[109,97,105,110,32,123]⟩]:List ByteArray).map (fun y:ByteArray=>y.data.toList)).flatten++[10]))) X->Calls Tryz.prog 87 #[zf (some ⟨b,0,none⟩),O a2 nl c2] X (Az w0.heap.size b ((0:Nat):Int) ((ds.map (deT ke kc)).flatten++(inT 0++(([⟨#[109,97,105,110,32,123]⟩]:List ByteArray).map (fun y:ByteArray=>y.data.toList)).flatten++[10])++AJ ke kc 1 l) X)):=fun X hX M=>
  F7 ke kc b 0 _ l a2 nl c2 w0 X hnl hM (Dg hw0 hX) M (by decide) K fun s T a5 l2 V R hz aw ap=>MN ke b w0 ht kc 6 s a5 1 l2 V R hz (hG.2.1 s T) (hG.2.2 s T) (by decide) aw ap
 have KD:Hx (∀ d∈ds,∀ cs l' X,Below w0.heap.size w X->ZD w0 ke kc cs d->A1 w0.heap.size b ((0:Nat):Int) (Lib.byteCells l') X->(l'++deT ke kc d).length<=1000000->Calls Tryz.prog 85 #[zf (some ⟨b,0,none⟩),.agg cs.toArray] X (Az w0.heap.size b ((0:Nat):Int) (l'++deT ke kc d) X)):=fun d hd cs l' X hX hz M ao=>
  NN ke kc b w0 ht d cs l' X (Dg hw0 hX) hz (hG.1 d hd).1 (hG.1 d hd).2.1 (hG.1 d hd).2.2 M ao
 obtain ⟨B,hB⟩:=nm w0.heap.size;rw [<-hB] at hP F KB KD ⊢;have bc:=Aa hB;obtain ⟨bq,L⟩:=nm w.heap.size;obtain ⟨V,R⟩:=nm (w.alloc (zd #[O a nd c,O a2 nl c2] 25));have hO:Ov w V:=by rw [R];exact bA _ _
 have aa:V.heap[bq]? = some (zd #[O a nd c,O a2 nl c2] 25 (0,0)):=by rw [R,L];exact heap_alloc_new w _
 have ai:=Aa aa;have HI:Hx (A1 B b ((0:Nat):Int) (Lib.byteCells []) V/\Below B w V/\Am w V):=⟨hP.over hO,AY hO F,Am.over hO⟩;have P:=Aa F;clear v Y K hl hD hnd hnl hM hw0 hG hP hB hO aa F W;go_enter Tryz.func43,Tryz.ntmps43;go_wp2_with fail;rw [<-R,<-L];clear R L;go_loopw [9] (fun i wr=>∃ (j:Nat),j<=nd/\i=A J j/\Hx (A1 B b ((0:Nat):Int) (Lib.byteCells (((ds.take j).map (deT ke kc)).flatten)) wr/\Below B w wr/\Am w wr/\Am V wr)) (fun i _=>nd - (intOf i).toNat)
 case atStart=>exact ⟨0,Nat.zero_le _,rfl,by show _/\_;exact ⟨by simpa using HI.o.1,HI.o.2.1,HI.o.2.2,Am.refl _⟩⟩
 case round=>
  obtain ⟨j,hj,rfl,G⟩:=hrel;by_cases hjl:j < nd
  ·have n:j < ds.length:=by have:=HN.o;omega
   have aq:(j:Int) < (nd:Int):=by omega
   obtain ⟨b1,al,rfl,cs,an,f,hr⟩:=HC.o.at n;have r:=List.getElem_mem n;have E:((ds.take (j+1)).map (deT ke kc)).flatten=((ds.take j).map (deT ke kc)).flatten++deT ke kc ds[j]:=by
    rw [Cx ds j n,List.map_append,List.flatten_append];simp
   have t:(((ds.take (j+1)).map (deT ke kc)).flatten).length<=1000000:=by
    have e:(ds.map (deT ke kc)).flatten=((ds.take (j+1)).map (deT ke kc)).flatten++((ds.drop (j+1)).map (deT ke kc)).flatten:=by
     conv=>lhs;rw [<-List.take_append_drop (j+1) ds]
     rw [List.map_append,List.flatten_append]
    have:=af.o;rw [e] at this;simp only [List.length_append] at this ⊢;omega
   obtain ⟨dj,Z⟩:=nm ds[j];rw [<-Z] at hr r E;have g:Ov w0 wr:=by have:=a7.o.trans (by have:=G.o.2.1;rw [bc.o] at this;exact this);exact this
   obtain ⟨k0,k1,k2,k3,k4,aL,nL,cL,aP,nP,cP,aB,nB,cB,e0,e1,e2,e3,q,q1,q2,rfl⟩:=hr.cells;rw [E] at t;obtain ⟨U,hU⟩:=nm (wr.alloc (zd #[A J k0,A J k1,.string k2,.string k3,zc k4,O aL nL cL,O aP nP cP,O aB nB cB,A J e0,A J e1,A J e2,.string e3,O q q1 q2] 51));have x:Ov wr U:=by rw [hU];exact bA _ _
   have ab:B<=wr.heap.size:=Nat.le_trans P.o G.o.2.1.size;have N:=G.o.2.1.trans (AY x ab);have KC:=Aa (KD.o dj r _ _ U N hr (G.o.1.over x) t);have HU:=Aa (And.intro N (And.intro (G.o.2.2.1.trans (Am.over x)) (G.o.2.2.2.trans (Am.over x))));have d0:wr.cell? ⟨b1,al+j*13,none⟩=_:=ce1 g (f 0 _ rfl);have d1:=ce1 g (f 1 _ rfl);have d2:=ce1 g (f 2 _ rfl);have d3:=ce1 g (f 3 _ rfl);have d4:=ce1 g (f 4 _ rfl);have d5:=ce1 g (f 5 _ rfl);have d6:=ce1 g (f 6 _ rfl);have d7:=ce1 g (f 7 _ rfl);have d8:=ce1 g (f 8 _ rfl);have d9:=ce1 g (f 9 _ rfl);have a4:=ce1 g (f 10 _ rfl);have a3:=ce1 g (f 11 _ rfl);have a1:=ce1 g (f 12 _ rfl);have ae:=Aa E;clear f an hr g n Z r E t x ab G N;go_wp2_with fail;rw [<-hU];clear hU d0 d1 d2 d3 d4 d5 d6 d7 d8 d9 a4 a3 a1;refine KC.o.mono ?_;rintro e I C;have ba:Hx (A1 B b ((0:Nat):Int) (Lib.byteCells (((ds.take (j+1)).map (deT ke kc)).flatten)) I/\Below B w I/\Am w I/\Am V I):=by
    show _/\_;rw [ae.o];exact ⟨C.2.1,HU.o.1.trans C.2.2.1,HU.o.2.1.trans C.2.2.2,HU.o.2.2.trans C.2.2.2⟩
   obtain rfl:=C.1;clear C KC ae HU;go_wp2_with fail;exact ⟨⟨j+1,by omega,by go_num,ba⟩,by simp [intOf];omega⟩
  ·have aq:¬ (j:Int) < (nd:Int):=by omega
   have u:ds.take j=ds:=List.take_of_length_le (by have:=HN.o;omega);have S:=G.o;rw [u] at S;have KL:=Aa (AZ B b 0 ((ds.map (deT ke kc)).flatten) [⟨#[109,97,105,110,32,123]⟩] wr (by simp) (by decide) af.o (by have z0:(⟨#[109,97,105,110,32,123]⟩:ByteArray).size=6:=rfl;simp only [AM,AX];omega) S.1 (Nat.le_trans P.o S.2.1.size));have HK:=Aa S.2.2.2;have Q:=Aa S.2;clear S u G;go_wp2_with fail;refine KL.o.mono ?_;rintro e I C;have HE:=Aa (C.trans Q.o.1 Q.o.2.1);have ag:=Aa (HK.o.trans C.2.2.2);have p1:I.cell? ⟨bq,1,none⟩=some (O a2 nl c2):=by rw [A2 ai.o ag.o (by decide) (by decide) 1,Lib.cell_of_heap ai.o];rfl
   have ad:=Aa (KB.o I HE.o.2.2.1 HE.o.2.1);obtain rfl:=C.1;clear C KL HK Q ag KB;go_wp2_with fail;refine ad.o.mono ?_;rintro e w2 h2;have H:=Aa (h2.trans HE.o.2.2.1 HE.o.2.2.2);obtain rfl:=h2.1;clear h2 ad p1 HE;have KC:=Aa (AZ B b 0 _ [⟨#[125]⟩] w2 (by simp) (by decide) a9.o (by have z0:(⟨#[125]⟩:ByteArray).size=1:=rfl;simp only [AM,AX];omega) H.o.2.1 (Nat.le_trans P.o H.o.2.2.1.size));go_wp2_with fail;refine KC.o.mono ?_;rintro e w3 h3;have h4:=h3.trans H.o.2.2.1 H.o.2.2.2;rw [<-HF.o] at h4;have HZ:=Aa h4;obtain rfl:=h3.1;clear h3 h4 KC;go_wp2_with fail;go_end0;exact HZ.o
theorem LN (ke kc:Nat) (ds l:List D) (v:Value) (w:World) (ht:HT w) (hz:ZT w ke kc v ds l):Calls Tryz.prog 19 #[v] w fun e w'=>e=zg (zh #[.string (if ckT ke kc ds l=0 then ⟨(trT ke kc ds l).toArray⟩ else ⟨#[]⟩),A J (ckT ke kc ds l)])/\Ov w w':=by
 have f:Hx (∀ X,Ov w X->Ro 14 #[v] X (A J (ckT ke kc ds l))):=fun X L=>N0 ke kc ds l v X (hz.over L);have Z:=@F6 ke kc ds l;have g:=@Lu ke kc ds l;have x:=hz;obtain ⟨a,c,Q,P,rfl,hD,hM⟩:=hz;have b:Hx (ckT ke kc ds l=0->∀ X,Ov w X->Calls Tryz.prog 43 #[zf (some ⟨X.heap.size,0,none⟩),ze #[O a ds.length c,O Q l.length P]] (X.alloc (zd #[zf none,O none 0 0,A J 0] 79)) (Az X.heap.size X.heap.size ((0:Nat):Int) (trT ke kc ds l) (X.alloc (zd #[zf none,O none 0 0,A J 0] 79)))):=fun E X L=>by
  obtain ⟨a',c',ai,ah,e,S,R⟩:=x.over L;simp only [Value.agg.injEq,Array.mk.injEq,List.cons.injEq,Value.slice.injEq,true_and,and_true] at e;obtain ⟨⟨rfl,rfl⟩,rfl,rfl⟩:=e;exact M3 ke kc X.heap.size X _ (ht.over L) ds l a c Q P _ _ rfl rfl S R (bA _ _) (Z E) (Or.inl ⟨Nat.le_refl _,O none 0 0,heap_alloc_new X _,World.ownsRow_nil _ _ _ _,by simp [Value.ownBlock]⟩) (Nat.le_trans (g E) (by decide))
 generalize ds.length=nd at f b ⊢;generalize l.length=nl at f b ⊢;have y:trT ke kc ds l≠[]:=by unfold trT;simp
 obtain ⟨V,u⟩:=nm (w.alloc (zd #[O a nd c,O Q nl P] 25));have i:Hx (Ov w V):=by show Ov _ _;rw [u];exact bA _ _
 obtain ⟨K,I⟩:=rc2 (Ai w [O a nd c,O Q nl P] 25);obtain ⟨cc,B⟩:=nm (ckT ke kc ds l);rw [<-B] at f b g ⊢;have q:=Aa g;have G:=Aa y;clear Z g hD hM x B y;generalize trT ke kc ds l=tx at b q G ⊢;by_cases E:cc=0
 ·subst E
  rw [if_pos rfl];have KT:=Aa (b.o rfl);clear b;go_enter Tryz.func19,Tryz.ntmps19;go_wp2_with fail;rw [<-u];rw [<-u] at K I;clear u;refine (f.o _ i.o).mono ?_;rintro e n ⟨rfl,r⟩;have j:=Aa (Ab i.o r);have n0:=AL (ce1 r K) (zd #[zf none,O none 0 0,A J 0] 79);have n1:=AL (ce1 r I) (zd #[zf none,O none 0 0,A J 0] 79);have t:=Aa (KT.o n j.o);obtain ⟨U,M⟩:=nm (n.alloc (zd #[zf none,O none 0 0,A J 0] 79));rw [<-M] at t;have T:Hx (Ov n U):=by show Ov _ _;rw [M];exact bA _ _
  clear r f KT i K I;go_wp2_with fail;rw [<-M];clear M n0 n1;refine t.o.mono ?_;rintro e Y N;have F:=Aa N.2.1;have H:Hx (Below n.heap.size n Y):=T.o.trans N.2.2.1;obtain rfl:=N.1;clear N t;have KS:=Aa (O1 n.heap.size n.heap.size ((0:Nat):Int) tx Y F.o G.o (Nat.le_trans (q.o (by first | rfl | trivial)) (by decide)));go_wp2_with fail;refine KS.o.mono ?_;rintro e w3 ⟨rfl,C⟩;have W:Hx (Ov w w3):=Ab j.o (H.o.trans C);clear C KS H F;go_wp2_with fail
  go_ret2
  exact ⟨rfl,W.o⟩
 ·rw [if_neg E]
  clear b;go_enter Tryz.func19,Tryz.ntmps19;go_wp2_with fail;rw [<-u];clear u K I;refine (f.o _ i.o).mono ?_;rintro e n ⟨rfl,r⟩;have j:=Aa (Ab i.o r);clear r f;go_wp2_with fail
  go_ret2
  exact ⟨rfl,j.o⟩
theorem IZ:(⟨(trT 61 (2*(Aw C5).length+3) Ef E0).toArray⟩:ByteArray)=C5:=by
 rw [Hz]
theorem ZT.same {ke kc:Nat} {ds l:List D} {v:Value} {w:World} (h:ZT w ke kc v ds l):Ro 22 #[v,v] w (zc true):=Oi ke kc ds l ds l v v w h h (LD _ _ _ _ _)
theorem ZT.notEmp {ke kc:Nat} {ds l:List D} {v:Value} {w:World} (h:ZT w ke kc v ds l) (hd:ds≠[]):Ro 22 #[v,ze #[O none 0 0,O none 0 0]] w (zc false):=by
 obtain ⟨a,c,g,f,rfl,b,i⟩:=h;exact Np a _ c g _ f none 0 0 none 0 0 w b.1 (Nat.zero_le _) fun e=>hd (List.eq_nil_of_length_eq_zero e)
theorem Ie (w:World) (ht:HT w):Ro 21 #[] w (zc true):=by
 have L:=Aa (Kj C5 (by have h:C5.size=49:=rfl;rw [h];unfold maxLen;omega) w);have u:=Aa ht;clear ht;go_enter Tryz.func21,Tryz.ntmps21;go_wp2_with fail;refine L.o.mono ?_;rintro e g ⟨b,f⟩;rw [HH] at f;obtain ⟨v,rfl,B⟩:=f;have t:Hx (∀ X,Ov g X->Calls Tryz.prog 19 #[v] X fun e Q=>e=zg (zh #[.string C5,A J 0])/\Ov X Q):=fun X n=>by
  have h:=LN 61 _ Ef E0 v X ((u.o.over b).over n) (B.over n);rw [HO,if_pos rfl,IZ] at h;exact h
 have H:Hx (∀ X,Ov g X->Ro 22 #[v,v] X (zc true)):=fun X n=>(B.over n).same;have G:Hx (∀ X,Ov g X->Ro 22 #[v,ze #[O none 0 0,O none 0 0]] X (zc false)):=fun X n=>(B.over n).notEmp (by unfold Ef;simp);obtain ⟨a,c,F,E,rfl,-,-⟩:=B;have K:=Aa b;generalize Ef.length=nd at t H G ⊢;generalize E0.length=nl at t H G ⊢;clear L b u;unfold C5 at t;obtain ⟨V,C⟩:=nm (g.alloc (zd #[O a nd c,O F nl E] 25));have l:Hx (Ov g V):=by show Ov _ _;rw [C];exact bA _ _
 obtain ⟨R,i⟩:=nm g.heap.size;have M:Hx (Ac [O a nd c,O F nl E] V R):=by show Ac _ _ _;rw [C,i];exact Ai g [O a nd c,O F nl E] 25
 obtain ⟨r,q⟩:=rc2 (Ai g [O a nd c,O F nl E] 25);go_wp2_with fail;rw [<-C,<-i];clear r q C i;refine (t.o V l.o).mono ?_;rintro e P ⟨rfl,b⟩;have y:=Aa (Ab l.o b);have j:=Aa (M.o.over b);obtain ⟨r,q⟩:=rc2 j.o;clear b t l M;go_wp2_with fail;clear r q;refine (H.o P y.o).mono ?_;rintro e N ⟨rfl,b⟩;have x:=Aa (Ab y.o b);obtain ⟨r,q⟩:=rc2 (j.o.over b);clear b H j;go_wp2_with fail;clear r q;refine (G.o N x.o).mono ?_;rintro e S ⟨rfl,b⟩;have I:=Aa (Ab K.o (Ab x.o b));clear b G;go_wp2_with fail;go_ret;exact ⟨rfl,I.o⟩
end Go.Proofs.YtipngnjffjajpaaGreatDoor.Tx
