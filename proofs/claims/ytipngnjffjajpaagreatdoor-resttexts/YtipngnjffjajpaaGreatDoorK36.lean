/- The printer of package show: a function. -/
import Derived.Test.YtipngnjffjajpaaGreatDoorK35
set_option linter.unusedVariables false
set_option maxHeartbeats 8000000
set_option maxRecDepth 100000
namespace Go.Proofs.YtipngnjffjajpaaGreatDoor.Tx
open Go.RowKit
open Go.Value renaming int -> O, slice -> zd, bool -> ze, agg -> zf, pointer -> zh, tuple -> zj
open Go.IntKind renaming i64 -> zc
open Go.Obj renaming cells -> zg
open Go.Ending renaming returned -> zi
theorem P9 (B b dn:Nat) (l RB:List UInt8) (a:Int) (x y:ByteArray) (gv:Bool) (aL:Option Addr) (nL cL:Nat) (aP:Option Addr) (nP cP:Nat) (aB:Option Addr) (nB cB:Nat) (e0 e1 e2:Int) (e3:ByteArray) (q:Option Addr) (q1 q2:Nat) (w:World) (hP:Bf B b dn (Lib.byteCells l) w) (hBw:B<=w.heap.size) (hd:dn+1<=10) (hl:l.length<=1000000) (hxs:x.size<=10000) (E:ByteArray) (hEs:E.size<=10000) (KE:Hx (∀ X,Ov w X->Ro 148 #[zd aP nP cP] X (.string E)))
  (F:ByteArray) (hFs:F.size<=10000) (hl2:(l++(inT dn++(([⟨#[102,117,110,99,32]⟩,x,⟨#[40]⟩,E,⟨#[41,32,123]⟩]:List ByteArray).map (fun y:ByteArray=>y.data.toList)).flatten++[10])++RB).length<=1000000) (hl3:(l++(inT dn++(([⟨#[102,117,110,99,32]⟩,x,⟨#[40]⟩,E,⟨#[41,32,123]⟩]:List ByteArray).map (fun y:ByteArray=>y.data.toList)).flatten++[10])++RB++(inT (dn+1)++(([⟨#[114,101,116,117,114,110,32]⟩,F,⟨#[59]⟩]:List ByteArray).map (fun y:ByteArray=>y.data.toList)).flatten++[10])).length<=1000000)
  (KB:Hx (∀ X,Below B w X->Bf B b dn (Lib.byteCells (l++(inT dn++(([⟨#[102,117,110,99,32]⟩,x,⟨#[40]⟩,E,⟨#[41,32,123]⟩]:List ByteArray).map (fun y:ByteArray=>y.data.toList)).flatten++[10]))) X->Calls Tryz.prog 87 #[zh (some ⟨b,0,none⟩),zd aB nB cB] X (AE B b dn (l++(inT dn++(([⟨#[102,117,110,99,32]⟩,x,⟨#[40]⟩,E,⟨#[41,32,123]⟩]:List ByteArray).map (fun y:ByteArray=>y.data.toList)).flatten++[10])++RB) X)))
  (KF:Hx (∀ X,Below B w X->Ro 149 #[zf #[O zc e0,O zc e1,O zc e2,.string e3,zd q q1 q2]] X (.string F))) :
  Calls Tryz.prog 123 #[zh (some ⟨b,0,none⟩),zf #[O zc 7,O zc a,.string x,.string y,ze gv,zd aL nL cL,zd aP nP cP,zd aB nB cB,O zc e0,O zc e1,O zc e2,.string e3,zd q q1 q2]] w (AE B b dn (l++(inT dn++(([⟨#[102,117,110,99,32]⟩,x,⟨#[40]⟩,E,⟨#[41,32,123]⟩]:List ByteArray).map (fun y:ByteArray=>y.data.toList)).flatten++[10])++RB++(inT (dn+1)++(([⟨#[114,101,116,117,114,110,32]⟩,F,⟨#[59]⟩]:List ByteArray).map (fun y:ByteArray=>y.data.toList)).flatten++[10])++(inT dn++(([⟨#[125]⟩]:List ByteArray).map (fun y:ByteArray=>y.data.toList)).flatten++[10])) w):=by
 obtain ⟨V,hV⟩:=nm (w.alloc (zg #[O zc 7,O zc a,.string x,.string y,ze gv,zd aL nL cL,zd aP nP cP,zd aB nB cB,O zc e0,O zc e1,O zc e2,.string e3,zd q q1 q2] 51));obtain ⟨n,J⟩:=nm w.heap.size;have a1:=aov hV;have aj:=hal hV J;have r:=Aa aj;have mR:=B8 (alq hV);rw [<-hV,<-J] at mR;have HW:=Aa (And.intro hP hBw);clear aj hP hBw;go_enter Tryz.func123,Tryz.ntmps123;go_wp2_with fail;rw [<-hV,<-J];clear hV J;refine Go.Proofs.YtipngnjffjajpaaGreatDoor.gS (fun Wz=>∀ i,Wz.cell? ⟨n,i,none⟩=V.cell? ⟨n,i,none⟩) (fun _=>rfl) fun c=>?_;have H:Ov V V.drew:=(Below.refl _ _).drew;generalize V.drew=W at c H ⊢;refine kT 0 ?_;refine kT 1 ?_;refine kT 2 ?_;refine kT 3 ?_;refine kT 4 ?_;refine rdA 5 rfl fun K S=>?_;go_simp;refine mo (KE.o _ (Ab a1.o H)) fun W1 hb=>?_;have N:=Aa (Ab H hb);clear hb H KE c;go_simp;refine xK S (fun i=>N.o.cell (p:=⟨n,i,none⟩) (BH r.o)) fun c=>?_;clear S K;refine rdA 6 rfl fun K S=>?_;go_simp;have H:=Ab a1.o N.o;have ap:B<=W1.heap.size:=Nat.le_trans HW.o.2 H.size;have KL:=Aa (Bc B b dn l [⟨#[102,117,110,99,32]⟩,x,⟨#[40]⟩,E,⟨#[41,32,123]⟩] W1 (by simp) (by omega) hl (by have z0:(⟨#[102,117,110,99,32]⟩:ByteArray).size=5:=rfl;have z2:(⟨#[40]⟩:ByteArray).size=1:=rfl;have z4:(⟨#[41,32,123]⟩:ByteArray).size=3:=rfl;simp only [AU,A9];omega) (HW.o.1.over H) ap);have HV:=Aa (And.intro (Bb H HW.o.2) (Ax.over H));obtain ⟨U,hU⟩:=nm (W1.alloc (zg #[.string ⟨#[102,117,110,99,32]⟩,.string x,.string ⟨#[40]⟩,.string E,.string ⟨#[41,32,123]⟩] 9));have ay:Hx (Ov V U):=by show Ov _ _;rw [hU];exact Ab N.o (bA _ _)
 have ac:Hx (Calls Tryz.prog 86 #[zh (some ⟨b,0,none⟩),zd (some ⟨W1.heap.size,0,none⟩) 5 5] U (AE B b dn (l++(inT dn++(([⟨#[102,117,110,99,32]⟩,x,⟨#[40]⟩,E,⟨#[41,32,123]⟩]:List ByteArray).map (fun y:ByteArray=>y.data.toList)).flatten++[10])) W1)):=by rw [hU];exact KL.o
 have az:Hx (Ax V W1):=Ax.over N.o;rw [<-hU];generalize W1.heap.size=g at ac ⊢;clear H ap KL hU;refine xK S (fun i=>ay.o.cell (p:=⟨n,i,none⟩) (BH r.o)) fun c=>?_;clear S K;refine rdA 7 rfl fun K S=>?_;go_simp;refine ac.o.mono ?_;rintro e W3 h3;have HE:=Aa (h3.trans HV.o.1 HV.o.2);have P:=Aa (az.o.trans h3.2.2.2);obtain rfl:=h3.1;clear h3 ac HV ay az c;go_simp;refine xK S (fun i=>Bg r.o P.o (by decide) (by decide) i) fun c=>?_;clear S K;refine gE ?_;have I:∀ (j:Nat) (u:Value),[O zc 7,O zc a,.string x,.string y,ze gv,zd aL nL cL,zd aP nP cP,zd aB nB cB,O zc e0,O zc e1,O zc e2,.string e3,zd q q1 q2][j]? = some u->W3.cell? ⟨n,j,none⟩=some u:=fun j u hu=>by
  rw [Bg r.o P.o (by decide) (by decide) j,Lib.cell_of_heap r.o];simpa using hu
 have r7:=I 7 _ rfl;have R:W3.heap[n]? = some (zg #[O zc 7,O zc a,.string x,.string y,ze gv,zd aL nL cL,zd aP nP cP,zd aB nB cB,O zc e0,O zc e1,O zc e2,.string e3,zd q q1 q2] 51 (0,0)):=P.o n _ 51 _ r.o (by decide) (by decide);have aw:=Aa R;have av:=Aa (KB.o W3 HE.o.2.2.1 HE.o.2.1);clear I R P r KB c mR;go_wp2_with fail;refine av.o.mono ?_;rintro e W4 h4;have A:=Aa (h4.trans HE.o.2.2.1 HE.o.2.2.2);have M:=Aa (h4.2.2.2 n _ 51 _ aw.o (by decide) (by decide));obtain rfl:=h4.1;clear h4 av r7 aw HE;obtain ⟨bw,hh⟩:=A.o.2.1.heap;obtain ⟨g2,f2,T,C⟩:=A.o.2.1.cells;obtain ⟨Z,hZ⟩:=nm (W4.setCell ⟨b,2,none⟩ (O zc ((dn+1:Nat):Int)));have HZ:Hx (Bf B b ((dn+1:Nat):Int) (Lib.byteCells (l++(inT dn++(([⟨#[102,117,110,99,32]⟩,x,⟨#[40]⟩,E,⟨#[41,32,123]⟩]:List ByteArray).map (fun y:ByteArray=>y.data.toList)).flatten++[10])++RB)) Z/\Below B w Z/\Ax w Z):=by
  show _/\_/\_;rw [hZ];exact ⟨A.o.2.1.move _,A.o.2.2.1.setCell (p:=⟨b,2,none⟩) C _,A.o.2.2.2.trans (Ax.setCell hh _ _)⟩
 have bg:Hx (Z.heap[n]? = some (zg #[O zc 7,O zc a,.string x,.string y,ze gv,zd aL nL cL,zd aP nP cP,zd aB nB cB,O zc e0,O zc e1,O zc e2,.string e3,zd q q1 q2] 51 (0,0))):=by
  show _=_;rw [hZ];exact Ax.setCell hh _ _ n _ 51 _ M.o (by decide) (by decide)
 have f:((dn+1:Nat):Int)=(dn:Int)+1:=by omega
 have I:∀ (j:Nat) (u:Value),[O zc 7,O zc a,.string x,.string y,ze gv,zd aL nL cL,zd aP nP cP,zd aB nB cB,O zc e0,O zc e1,O zc e2,.string e3,zd q q1 q2][j]? = some u->W4.cell? ⟨n,j,none⟩=some u:=fun j u hu=>by
  rw [Lib.cell_of_heap M.o];simpa using hu
 have r8:=I 8 _ rfl;have r9:=I 9 _ rfl;have a9:=I 10 _ rfl;have a8:=I 11 _ rfl;have a7:=I 12 _ rfl;have au:=Aa (KF.o Z HZ.o.2.1);have ai:(n == b)=false:=by
  cases e:n == b with
  | false=>rfl
  | true=>
   rw [beq_iff_eq] at e;have:=M.o;rw [e,hh] at this;simp at this
 have Q:¬ n=b:=by simpa using ai
 have ah:¬ b=n:=fun e=>Q e.symm;rw [f] at hZ;have ae:=Aa HW.o.2;clear I f M bg hh T C A KF HW;go_wp2_with fail;rw [<-hZ];refine mo au.o fun W5 L=>?_;have am:B<=Z.heap.size:=Nat.le_trans ae.o HZ.o.2.1.size;have G:Hx (Bf B b ((dn+1:Nat):Int) (Lib.byteCells (l++(inT dn++(([⟨#[102,117,110,99,32]⟩,x,⟨#[40]⟩,E,⟨#[41,32,123]⟩]:List ByteArray).map (fun y:ByteArray=>y.data.toList)).flatten++[10])++RB)) W5/\Below B w W5/\Ax w W5):=⟨HZ.o.1.over L,HZ.o.2.1.trans (Bb L am),HZ.o.2.2.trans (Ax.over L)⟩;have ao:B<=W5.heap.size:=Nat.le_trans ae.o G.o.2.1.size;have ar:=Aa (Bc B b (dn+1) (l++(inT dn++(([⟨#[102,117,110,99,32]⟩,x,⟨#[40]⟩,E,⟨#[41,32,123]⟩]:List ByteArray).map (fun y:ByteArray=>y.data.toList)).flatten++[10])++RB) [⟨#[114,101,116,117,114,110,32]⟩,F,⟨#[59]⟩] W5 (by simp) hd hl2 (by have z0:(⟨#[114,101,116,117,114,110,32]⟩:ByteArray).size=7:=rfl;have z2:(⟨#[59]⟩:ByteArray).size=1:=rfl;simp only [AU,A9];omega) G.o.1 ao);clear L am au hZ HZ r8 r9 a9 a8 a7 g2 f2 ai Q ah ao;go_wp2_with fail;refine ar.o.mono ?_;rintro e W6 h6;have v:=Aa (h6.trans G.o.2.1 G.o.2.2);obtain rfl:=h6.1;clear h6 ar G;obtain ⟨bv,hh⟩:=v.o.2.1.heap;obtain ⟨g2,f2,T,C⟩:=v.o.2.1.cells;obtain ⟨Y,hY⟩:=nm (W6.setCell ⟨b,2,none⟩ (O zc (dn:Int)));have HY:Hx (Bf B b dn (Lib.byteCells (l++(inT dn++(([⟨#[102,117,110,99,32]⟩,x,⟨#[40]⟩,E,⟨#[41,32,123]⟩]:List ByteArray).map (fun y:ByteArray=>y.data.toList)).flatten++[10])++RB++(inT (dn+1)++(([⟨#[114,101,116,117,114,110,32]⟩,F,⟨#[59]⟩]:List ByteArray).map (fun y:ByteArray=>y.data.toList)).flatten++[10]))) Y/\Below B w Y/\Ax w Y):=by
  show _/\_/\_;rw [hY];exact ⟨v.o.2.1.move _,v.o.2.2.1.setCell (p:=⟨b,2,none⟩) C _,v.o.2.2.2.trans (Ax.setCell hh _ _)⟩
 have f:((dn+1:Nat):Int)=(dn:Int)+1:=by omega
 rw [f] at g2;have ba:(dn:Int)+1 - 1=(dn:Int):=by omega
 have an:B<=Y.heap.size:=Nat.le_trans ae.o HY.o.2.1.size;have al:Y.heap.size=W6.heap.size:=by rw [hY];simp [World.setCell]
 have ad:=Bc B b dn (l++(inT dn++(([⟨#[102,117,110,99,32]⟩,x,⟨#[40]⟩,E,⟨#[41,32,123]⟩]:List ByteArray).map (fun y:ByteArray=>y.data.toList)).flatten++[10])++RB++(inT (dn+1)++(([⟨#[114,101,116,117,114,110,32]⟩,F,⟨#[59]⟩]:List ByteArray).map (fun y:ByteArray=>y.data.toList)).flatten++[10])) [⟨#[125]⟩] Y (by simp) (by omega) hl3 (by have z0:(⟨#[125]⟩:ByteArray).size=1:=rfl;simp only [AU,A9];omega) HY.o.1 an;rw [al] at ad;have KC:=Aa ad;clear hh T C f v an ad al;go_wp2_with fail;first
  | rw [<-hY]
  | (rw [ba];rw [<-hY])
  | skip
 refine KC.o.mono ?_;rintro e W7 h7;have HF:=Aa (h7.trans HY.o.2.1 HY.o.2.2);obtain rfl:=h7.1;clear h7 KC;go_wp2_with fail;go_end0;exact HF.o
theorem Qg (ke kc b:Nat) (w0:World) (ht:HT w0) (d:D) (cs:List Value) (l:List UInt8) (X:World) (hX:Ov w0 X) (h:ZD w0 ke kc cs d) (hf:dfK ke kc d=true) (hm:CS ke d=false) (hg:∀ s∈gL 7 d,sfK ke kc s=true/\gdC ke 6 s) (hP:Bf w0.heap.size b ((0:Nat):Int) (Lib.byteCells l) X) (hl:(l++deT ke kc d).length<=1000000) :
  Calls Tryz.prog 85 #[zh (some ⟨b,0,none⟩),.agg cs.toArray] X (AE w0.heap.size b ((0:Nat):Int) (l++deT ke kc d) X):=by
 obtain ⟨i,a,x,y,j,N,M,n,F,C,g,G,E,f,L,K,J,I,q,q1,H,r,rfl,rfl,-,-,hL,ah,hB,hR⟩:=h;obtain ⟨p1,p2,p3,p4,p5,p6⟩:=Ff hf;have a1:(laT (deD i a x y j n g f r)).length<=420:=by
  simp only [CS,Bool.or_eq_false_iff,decide_eq_false_iff_not] at hm;refine Jd p5 (by have:=hm.1.1.1;omega) fun p hp=>?_;have:=List.any_eq_false.1 hm.2 p hp;simp only [decide_eq_true_eq] at this;omega
 simp only [CS,Bool.or_eq_false_iff,decide_eq_false_iff_not] at hm;obtain ⟨⟨⟨m1,m2⟩,m3⟩,m4⟩:=hm;have ab:∀ p∈n,(gL 3 p).length<=6:=fun p hp=>by
  have:=List.any_eq_false.1 m4 p hp;simp only [decide_eq_true_eq] at this;omega
 simp only [gDd,List.length_map] at m1 m2 m3 p1 p2 p3 p4 hg;have hx:x.size<=12:=CP p3;have hy:y.size<=12:=Eh p4;have v:w0.heap.size<=X.heap.size:=hX.size;have u:l.length<=1000000:=by rw [List.length_append] at hl;omega
 have hT:deT ke kc (deD i a x y j n g f r)=if i=7 then wdT 7++x.data.toList++[40]++AB [44,32] (g.map (fun y=>y.data.toList))++[41,32,123,10]++AO ke kc 1 f++[32,32,114,101,116,117,114,110,32]++exT ke r++[59,10,125,10] else wdT i++x.data.toList++(if i=2 then [32]++y.data.toList else [])++laT (deD i a x y j n g f r)++[59,10]:=by
  unfold deT;simp only [gDd,List.map_map];rfl
 have KE:Hx (∀ Y,Ov X Y->Ro 122 #[zf #[O zc i,O zc a,.string x,.string y,ze j,zd N n.length M,zd F g.length C,zd G f.length E,O zc L,O zc K,O zc J,.string I,zd q q1 H]] Y (.string ⟨(laT (deD i a x y j n g f r)).toArray⟩)):=fun Y W=>
  OC i a x y j N M n F C g.length G f.length E L K J I q q1 H (deD i a x y j n g f r) Y rfl rfl p5 (by omega) ab (Dj W (Dj hX hL))
 have R:(⟨(laT (deD i a x y j n g f r)).toArray⟩:ByteArray).size<=10000:=by rw [A8];omega
 have Q:i≠4->i≠5->i≠6->laT (deD i a x y j n g f r)=[]:=fun h4 h5 h6=>by
  have ag:j=false:=by
   cases hgB:j with
   | false=>rfl
   | true=>have:=((CF p5).1 hgB).1;simp only [gDd] at this;omega
  unfold laT;rw [if_neg (by simp only [gDd,ag];simp)]
 rw [hT] at hl ⊢;obtain rfl | rfl | rfl | rfl | rfl | rfl | rfl:i=1\/i=2\/i=3\/i=4\/i=5\/i=6\/i=7:=by omega
 ·have A:=Q (by decide) (by decide) (by decide)
  have:=Qp w0.heap.size b 0 l a x y j N n.length M F g.length C G f.length E L K J I q q1 H X hP v (by decide) u (by omega) (by omega);rw [if_neg (by decide),if_neg (by decide),A];simpa [inT,wdT] using this
 ·have A:=Q (by decide) (by decide) (by decide)
  have:=Qm w0.heap.size b 0 l a x y j N n.length M F g.length C G f.length E L K J I q q1 H X hP v (by decide) u (by omega) (by omega);rw [if_neg (by decide),if_pos rfl,A];simpa [inT,wdT] using this
 ·have A:=Q (by decide) (by decide) (by decide)
  have:=Ql w0.heap.size b 0 l a x y j N n.length M F g.length C G f.length E L K J I q q1 H X hP v (by decide) u (by omega) (by omega);rw [if_neg (by decide),if_neg (by decide),A];simpa [inT,wdT] using this
 ·have:=Qk w0.heap.size b 0 l a x y j N n.length M F g.length C G f.length E L K J I q q1 H X hP v (by decide) u (by omega) _ R KE
  rw [if_neg (by decide),if_neg (by decide)];simpa [inT,wdT] using this
 ·have:=Qj w0.heap.size b 0 l a x y j N n.length M F g.length C G f.length E L K J I q q1 H X hP v (by decide) u (by omega) _ R KE
  rw [if_neg (by decide),if_neg (by decide)];simpa [inT,wdT] using this
 ·have:=Qi w0.heap.size b 0 l a x y j N n.length M F g.length C G f.length E L K J I q q1 H X hP v (by decide) u (by omega) _ R KE
  rw [if_neg (by decide),if_neg (by decide)];simpa [inT,wdT] using this
 ·rw [if_pos rfl] at hl ⊢
  simp only [Ez,gDd,if_true,Bool.and_eq_true,List.all_eq_true] at p6;obtain ⟨⟨f1,f2⟩,f3⟩:=p6;have ae:∀ z∈g,z.size<=700:=fun z P=>by
   have:=CP (f1 (dS z) (List.mem_map_of_mem P));rw [Gg] at this;exact Nat.le_trans this (by decide)
  have U:∀ z∈g,z.size<=12:=fun z P=>by
   have:=CP (f1 (dS z) (List.mem_map_of_mem P))
   rwa [Gg] at this
  have az:(AB [44,32] (g.map (fun y=>y.data.toList))).length<=100:=by
   have:=Cd [44,32] 12 (g.map (fun y=>y.data.toList)) fun z P=>by
    obtain ⟨c,hc,rfl⟩:=List.mem_map.1 P;exact U c hc
   rw [List.length_map] at this;have a0:g.length*(12+2)<=4*(12+2):=Nat.mul_le_mul_right _ (by omega);simp only [List.length_cons,List.length_nil] at this;omega
  have ac:=A7 f3 m3;have:=Qh w0.heap.size b 0 (l++(wdT 7++x.data.toList++[40]++AB [44,32] (g.map (fun y=>y.data.toList))++[41,32,123,10]++AO ke kc 1 f++[32,32,114,101,116,117,114,110,32]++exT ke r++[59,10,125,10])) a x y j N n.length M F g.length C G f.length E L K J I q q1 H X v fun Y W=>by
   have B:=Ab hX W;have:=P9 w0.heap.size b 0 l (AO ke kc 1 f) a x y j N n.length M F g.length C G f.length E L K J I q q1 H Y (hP.over W) B.size (by decide) u (by omega) ⟨(AB [44,32] (g.map (fun y=>y.data.toList))).toArray⟩ (by rw [A8];omega) (fun Z S=>Mr g F g.length C Z rfl (Bu (Ab B S) ah) (by omega) ae) ⟨(exT ke r).toArray⟩ (by rw [A8];omega) (by simp [inT,wdT] at hl ⊢;omega) (by simp [inT,wdT] at hl ⊢;omega)
    (fun Z S ai=>Hl ke kc b 0 _ f G f.length E w0 Z rfl hB (Ea B S) ai (by decide) (by simp [inT,wdT] at hl ⊢;omega) fun s T ak l2 V hV P aj af=>Pa ke b w0 ht kc 6 s ak 1 l2 V hV P (hg s T).1 (hg s T).2 (by decide) aj af)
    (fun Z S=>GH ke _ r Z (ht.over (Ea B S)) (hR.over (Ea B S)) f3 (Nat.le_trans ac (by decide)))
   simpa [inT,wdT] using this
  exact this
theorem Pr (ke kc b:Nat) (w0 w:World) (ht:HT w0) (ds l:List D) (a:Option Addr) (c:Nat) (a2:Option Addr) (c2 nd nl:Nat) (hnd:nd=ds.length) (hnl:nl=l.length) (hD:LS 13 (ZD w0 ke kc) w0 (zd a nd c) ds) (hM:LS 12 (ZC w0 ke kc) w0 (zd a2 nl c2) l) (hw0:Ov w0 w) (hG:Pl ke kc ds l) (hP:Bf w0.heap.size b ((0:Nat):Int) (Lib.byteCells []) w) (hl:(trT ke kc ds l).length<=1000000) :
  Calls Tryz.prog 43 #[zh (some ⟨b,0,none⟩),zf #[zd a nd c,zd a2 nl c2]] w (AE w0.heap.size b ((0:Nat):Int) (trT ke kc ds l) w):=by
 have C:w0.heap.size<=w.heap.size:=hw0.size;have T:trT ke kc ds l=(ds.map (deT ke kc)).flatten++(inT 0++(([⟨#[109,97,105,110,32,123]⟩]:List ByteArray).map (fun y:ByteArray=>y.data.toList)).flatten++[10])++AO ke kc 1 l++(inT 0++(([⟨#[125]⟩]:List ByteArray).map (fun y:ByteArray=>y.data.toList)).flatten++[10]):=by
  unfold trT;simp [inT]
 rw [T] at hl ⊢;obtain ⟨fin,u⟩:=nm ((ds.map (deT ke kc)).flatten++(inT 0++(([⟨#[109,97,105,110,32,123]⟩]:List ByteArray).map (fun y:ByteArray=>y.data.toList)).flatten++[10])++AO ke kc 1 l++(inT 0++(([⟨#[125]⟩]:List ByteArray).map (fun y:ByteArray=>y.data.toList)).flatten++[10]));rw [<-u];have HF:=Aa u;have W:((ds.map (deT ke kc)).flatten).length<=1000000:=by simp only [List.length_append] at hl;omega
 have H:((ds.map (deT ke kc)).flatten++(inT 0++(([⟨#[109,97,105,110,32,123]⟩]:List ByteArray).map (fun y:ByteArray=>y.data.toList)).flatten++[10])++AO ke kc 1 l).length<=1000000:=by simp only [List.length_append] at hl ⊢;omega
 have HC:=Aa hD;have HN:=Aa hnd;have ae:=Aa W;have a4:=Aa H;have b4:=Aa hG;have a3:=hD.max;rw [<-hnd] at a3;have a1:=Aa hw0;have KB:Hx (∀ X,Below w0.heap.size w X->Bf w0.heap.size b ((0:Nat):Int) (Lib.byteCells ((ds.map (deT ke kc)).flatten++(inT 0++(([⟨#[109,97,105,110,32,123]⟩]:List ByteArray).map (fun y:ByteArray=>y.data.toList)).flatten++[10]))) X->Calls Tryz.prog 87 #[zh (some ⟨b,0,none⟩),zd a2 nl c2] X (AE w0.heap.size b ((0:Nat):Int) ((ds.map (deT ke kc)).flatten++(inT 0++(([⟨#[109,97,105,110,32,123]⟩]:List ByteArray).map (fun y:ByteArray=>y.data.toList)).flatten++[10])++AO ke kc 1 l) X)):=fun X hX K=>
  Hl ke kc b 0 _ l a2 nl c2 w0 X hnl hM (Ea hw0 hX) K (by decide) H fun s S az l2 V Q hz au an=>Pa ke b w0 ht kc 6 s az 1 l2 V Q hz (hG.2.1 s S) (hG.2.2 s S) (by decide) au an
 have KD:Hx (∀ d∈ds,∀ cs l' X,Below w0.heap.size w X->ZD w0 ke kc cs d->Bf w0.heap.size b ((0:Nat):Int) (Lib.byteCells l') X->(l'++deT ke kc d).length<=1000000->Calls Tryz.prog 85 #[zh (some ⟨b,0,none⟩),.agg cs.toArray] X (AE w0.heap.size b ((0:Nat):Int) (l'++deT ke kc d) X)):=fun d hd cs l' X hX hz K am=>
  Qg ke kc b w0 ht d cs l' X (Ea hw0 hX) hz (hG.1 d hd).1 (hG.1 d hd).2.1 (hG.1 d hd).2.2 K am
 obtain ⟨B,hB⟩:=nm w0.heap.size;rw [<-hB] at hP C KB KD ⊢;have a7:=Aa hB;obtain ⟨bq,J⟩:=nm w.heap.size;obtain ⟨V,Q⟩:=nm (w.alloc (zg #[zd a nd c,zd a2 nl c2] 25));have hO:=(aov Q).o;have Z:=hal Q J;have ah:=Aa Z;have HI:Hx (Bf B b ((0:Nat):Int) (Lib.byteCells []) V/\Below B w V/\Ax w V):=⟨hP.over hO,Bb hO C,Ax.over hO⟩;have N:=Aa C;clear u W H hl hD hnd hnl hM hw0 hG hP hB hO Z C T;go_enter Tryz.func43,Tryz.ntmps43;go_wp2_with fail;rw [<-Q,<-J];clear Q J;go_loopw [9] (fun i wr=>∃ (j:Nat),j<=nd/\i=O zc j/\Hx (Bf B b ((0:Nat):Int) (Lib.byteCells (((ds.take j).map (deT ke kc)).flatten)) wr/\Below B w wr/\Ax w wr/\Ax V wr)) (fun i _=>nd - (intOf i).toNat)
 case atStart=>exact ⟨0,Nat.zero_le _,rfl,by show _/\_;exact ⟨by simpa using HI.o.1,HI.o.2.1,HI.o.2.2,Ax.refl _⟩⟩
 case round=>
  obtain ⟨j,hj,rfl,E⟩:=hrel;by_cases hjl:j < nd
  ·have f:j < ds.length:=by have:=HN.o;omega
   have ao:(j:Int) < (nd:Int):=by omega
   obtain ⟨b1,bf,rfl,cs,al,I,hr⟩:=HC.o.at f;have g:=List.getElem_mem f;have A:((ds.take (j+1)).map (deT ke kc)).flatten=((ds.take j).map (deT ke kc)).flatten++deT ke kc ds[j]:=by
    rw [C8 ds j f,List.map_append,List.flatten_append];simp
   have n:(((ds.take (j+1)).map (deT ke kc)).flatten).length<=1000000:=by
    have e:(ds.map (deT ke kc)).flatten=((ds.take (j+1)).map (deT ke kc)).flatten++((ds.drop (j+1)).map (deT ke kc)).flatten:=by
     conv=>lhs;rw [<-List.take_append_drop (j+1) ds]
     rw [List.map_append,List.flatten_append]
    have:=ae.o;rw [e] at this;simp only [List.length_append] at this ⊢;omega
   obtain ⟨dj,Y⟩:=nm ds[j];rw [<-Y] at hr g A;have L:Ov w0 wr:=by have:=a1.o.trans (by have:=E.o.2.1;rw [a7.o] at this;exact this);exact this
   obtain ⟨k0,k1,k2,k3,k4,aL,nL,cL,aP,nP,cP,aB,nB,cB,e0,e1,e2,e3,q,q1,q2,rfl⟩:=hr.cells;rw [A] at n;obtain ⟨U,hU⟩:=nm (wr.alloc (zg #[O zc k0,O zc k1,.string k2,.string k3,ze k4,zd aL nL cL,zd aP nP cP,zd aB nB cB,O zc e0,O zc e1,O zc e2,.string e3,zd q q1 q2] 51));have v:=(aov hU).o;have aa:B<=wr.heap.size:=Nat.le_trans N.o E.o.2.1.size;have M:=E.o.2.1.trans (Bb v aa);have KC:=Aa (KD.o dj g _ _ U M hr (E.o.1.over v) n);have HU:=Aa (And.intro M (And.intro (E.o.2.2.1.trans (Ax.over v)) (E.o.2.2.2.trans (Ax.over v))));have d0:=CK L I rfl;have dA:=CJ L I;have ad:=Aa A;clear I al hr L f Y g A n v aa E M;go_wp2_with fail;rw [<-hU];clear hU d0 dA;refine KC.o.mono ?_;rintro e G x;have a5:Hx (Bf B b ((0:Nat):Int) (Lib.byteCells (((ds.take (j+1)).map (deT ke kc)).flatten)) G/\Below B w G/\Ax w G/\Ax V G):=by
    show _/\_;rw [ad.o];exact ⟨x.2.1,HU.o.1.trans x.2.2.1,HU.o.2.1.trans x.2.2.2,HU.o.2.2.trans x.2.2.2⟩
   obtain rfl:=x.1;clear x KC ad HU;go_wp2_with fail;exact ⟨⟨j+1,by omega,by go_num,a5⟩,by simp [intOf];omega⟩
  ·have ao:¬ (j:Int) < (nd:Int):=by omega
   have r:ds.take j=ds:=List.take_of_length_le (by have:=HN.o;omega);have R:=E.o;rw [r] at R;have KL:=Aa (Bc B b 0 ((ds.map (deT ke kc)).flatten) [⟨#[109,97,105,110,32,123]⟩] wr (by simp) (by decide) ae.o (by have z0:(⟨#[109,97,105,110,32,123]⟩:ByteArray).size=6:=rfl;simp only [AU,A9];omega) R.1 (Nat.le_trans N.o R.2.1.size));have HK:=Aa R.2.2.2;have P:=Aa R.2;clear R r E;go_wp2_with fail;refine KL.o.mono ?_;rintro e G x;have HE:=Aa (x.trans P.o.1 P.o.2.1);have af:=Aa (HK.o.trans x.2.2.2);have p1:G.cell? ⟨bq,1,none⟩=some (zd a2 nl c2):=by rw [Bg ah.o af.o (by decide) (by decide) 1,Lib.cell_of_heap ah.o];rfl
   have ac:=Aa (KB.o G HE.o.2.2.1 HE.o.2.1);obtain rfl:=x.1;clear x KL HK P af KB;go_wp2_with fail;refine ac.o.mono ?_;rintro e w2 h2;have F:=Aa (h2.trans HE.o.2.2.1 HE.o.2.2.2);obtain rfl:=h2.1;clear h2 ac p1 HE;have KC:=Aa (Bc B b 0 _ [⟨#[125]⟩] w2 (by simp) (by decide) a4.o (by have z0:(⟨#[125]⟩:ByteArray).size=1:=rfl;simp only [AU,A9];omega) F.o.2.1 (Nat.le_trans N.o F.o.2.2.1.size));go_wp2_with fail;refine KC.o.mono ?_;rintro e w3 h3;have h4:=h3.trans F.o.2.2.1 F.o.2.2.2;rw [<-HF.o] at h4;have HZ:=Aa h4;obtain rfl:=h3.1;clear h3 h4 KC;go_wp2_with fail;go_end0;exact HZ.o
theorem NW (ke kc:Nat) (ds l:List D) (v:Value) (w:World) (ht:HT w) (hz:ZT w ke kc v ds l):Calls Tryz.prog 19 #[v] w fun e w'=>e=zi (zj #[.string (if ckT ke kc ds l=0 then ⟨(trT ke kc ds l).toArray⟩ else ⟨#[]⟩),O zc (ckT ke kc ds l)])/\Ov w w':=by
 have f:Hx (∀ X,Ov w X->Ro 14 #[v] X (O zc (ckT ke kc ds l))):=fun X L=>Jv ke kc ds l v X (hz.over L);have Z:=@Hk ke kc ds l;have g:=@NC ke kc ds l;have A:=hz;obtain ⟨a,c,S,R,rfl,hD,hM⟩:=hz;have b:Hx (ckT ke kc ds l=0->∀ X,Ov w X->Calls Tryz.prog 43 #[zh (some ⟨X.heap.size,0,none⟩),zf #[zd a ds.length c,zd S l.length R]] (X.alloc (zg #[zh none,zd none 0 0,O zc 0] 79)) (AE X.heap.size X.heap.size ((0:Nat):Int) (trT ke kc ds l) (X.alloc (zg #[zh none,zd none 0 0,O zc 0] 79)))):=fun F X L=>by
  obtain ⟨a',c',ah,ag,e,Q,P⟩:=A.over L;simp only [Value.agg.injEq,Array.mk.injEq,List.cons.injEq,Value.slice.injEq,true_and,and_true] at e;obtain ⟨⟨rfl,rfl⟩,rfl,rfl⟩:=e;exact Pr ke kc X.heap.size X _ (ht.over L) ds l a c S R _ _ rfl rfl Q P (bA _ _) (Z F) (Or.inl ⟨Nat.le_refl _,zd none 0 0,heap_alloc_new X _,World.ownsRow_nil _ _ _ _,by simp [Value.ownBlock]⟩) (Nat.le_trans (g F) (by decide))
 generalize ds.length=nd at f b ⊢;generalize l.length=nl at f b ⊢;have B:trT ke kc ds l≠[]:=by unfold trT;simp
 obtain ⟨V,x⟩:=nm (w.alloc (zg #[zd a nd c,zd S nl R] 25));have i:=aov x;obtain ⟨K,J⟩:=rc2 (alq x);obtain ⟨cc,C⟩:=nm (ckT ke kc ds l);rw [<-C] at f b g ⊢;have n:=Aa g;have H:=Aa B;clear Z g hD hM A C B;generalize trT ke kc ds l=tx at b n H ⊢;by_cases F:cc=0
 ·subst F
  rw [if_pos rfl];have KT:=Aa (b.o rfl);clear b;go_enter Tryz.func19,Tryz.ntmps19;go_wp2_with fail;rw [<-x];rw [<-x] at K J;clear x;refine mo (f.o _ i.o) fun r u=>?_;have j:=Aa (Ab i.o u);have n0:=Jx (ce1 u K) (zg #[zh none,zd none 0 0,O zc 0] 79);have n1:=Jx (ce1 u J) (zg #[zh none,zd none 0 0,O zc 0] 79);have y:=Aa (KT.o r j.o);obtain ⟨U,M⟩:=nm (r.alloc (zg #[zh none,zd none 0 0,O zc 0] 79));rw [<-M] at y;have T:=aov M;clear u f KT i K J;go_wp2_with fail;rw [<-M];clear M n0 n1;refine y.o.mono ?_;rintro e Y N;have G:=Aa N.2.1;have I:Hx (Below r.heap.size r Y):=T.o.trans N.2.2.1;obtain rfl:=N.1;clear N y;have KS:=Aa (RR r.heap.size r.heap.size ((0:Nat):Int) tx Y G.o H.o (Nat.le_trans (n.o (by first | rfl | trivial)) (by decide)));go_wp2_with fail;refine mo KS.o fun w3 E=>?_;have W:Hx (Ov w w3):=Ab j.o (I.o.trans E);clear E KS I G;go_wp2_with fail
  go_ret2
  exact ⟨rfl,W.o⟩
 ·rw [if_neg F]
  clear b;go_enter Tryz.func19,Tryz.ntmps19;go_wp2_with fail;rw [<-x];clear x K J;refine mo (f.o _ i.o) fun r u=>?_;have j:=Aa (Ab i.o u);clear u f;go_wp2_with fail
  go_ret2
  exact ⟨rfl,j.o⟩
theorem Lj:(⟨(trT 61 (2*(Aq Da).length+3) Ee EE).toArray⟩:ByteArray)=Da:=by
 rw [JK]
theorem ZT.same {ke kc:Nat} {ds l:List D} {v:Value} {w:World} (h:ZT w ke kc v ds l):Ro 22 #[v,v] w (ze true):=QQ ke kc ds l ds l v v w h h (JJ _ _ _ _ _)
theorem ZT.notEmp {ke kc:Nat} {ds l:List D} {v:Value} {w:World} (h:ZT w ke kc v ds l) (hd:ds≠[]):Ro 22 #[v,zf #[zd none 0 0,zd none 0 0]] w (ze false):=by
 obtain ⟨a,c,g,f,rfl,b,i⟩:=h;exact PN a _ c g _ f none 0 0 none 0 0 w b.1 (Nat.zero_le _) fun e=>hd (List.eq_nil_of_length_eq_zero e)
theorem JQ (w:World) (ht:HT w):Ro 21 #[] w (ze true):=by
 have J:=Aa (Iy Da (by have h:Da.size=49:=rfl;rw [h];unfold maxLen;omega) w);have A:=Aa ht;clear ht;go_enter Tryz.func21,Tryz.ntmps21;go_wp2_with fail;refine J.o.mono ?_;rintro e n ⟨b,f⟩;rw [Gl] at f;obtain ⟨v,rfl,E⟩:=f;have y:Hx (∀ X,Ov n X->Calls Tryz.prog 19 #[v] X fun e N=>e=zi (zj #[.string Da,O zc 0])/\Ov X N):=fun X l=>by
  have h:=NW 61 _ Ee EE v X ((A.o.over b).over l) (E.over l);rw [Gm,if_pos rfl,Lj] at h;exact h
 have G:Hx (∀ X,Ov n X->Ro 22 #[v,v] X (ze true)):=fun X l=>(E.over l).same;have F:Hx (∀ X,Ov n X->Ro 22 #[v,zf #[zd none 0 0,zd none 0 0]] X (ze false)):=fun X l=>(E.over l).notEmp (by unfold Ee;simp);obtain ⟨a,c,Q,P,rfl,-,-⟩:=E;have I:=Aa b;generalize Ee.length=nd at y G F ⊢;generalize EE.length=nl at y G F ⊢;clear J b A;unfold Da at y;obtain ⟨V,x⟩:=nm (n.alloc (zg #[zd a nd c,zd Q nl P] 25));have j:=aov x;obtain ⟨S,g⟩:=nm n.heap.size;have K:=C2 x g;obtain ⟨u,r⟩:=rc2 (alq x);go_wp2_with fail;rw [<-x,<-g];clear u r x g;refine mo (y.o V j.o) fun M b=>?_;have C:=Aa (Ab j.o b);have i:=Aa (K.o.over b);obtain ⟨u,r⟩:=rc2 i.o;clear b y j K;go_wp2_with fail;clear u r;refine mo (G.o M C.o) fun L b=>?_;have B:=Aa (Ab C.o b);obtain ⟨u,r⟩:=rc2 (i.o.over b);clear b G i;go_wp2_with fail;clear u r;refine mo (F.o L B.o) fun R b=>?_;have H:=Aa (Ab I.o (Ab B.o b));clear b F;go_wp2_with fail;go_ret;exact ⟨rfl,H.o⟩
end Go.Proofs.YtipngnjffjajpaaGreatDoor.Tx
