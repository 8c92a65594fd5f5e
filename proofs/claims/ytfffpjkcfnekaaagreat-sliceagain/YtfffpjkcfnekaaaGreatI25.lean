/- A function whose commands are cut. -/
import Derived.Test.YtfffpjkcfnekaaaGreatI24
import Derived.Test.YtfffpjkcfnekaaaGreatI23
set_option linter.unusedVariables false
set_option maxHeartbeats 8000000
set_option maxRecDepth 100000
namespace Go.Proofs.YtfffpjkcfnekaaaGreat.Ex
open Go.RowKit
open Go.Value renaming slice -> O, int -> zd, bool -> zg, agg -> zh, pointer -> zj, tuple -> zm
open Go.IntKind renaming i64 -> U
open Go.Obj renaming cells -> ze
open Go.Ending renaming returned -> zk
theorem ST (K kf bs:Nat) (nd:List Bool) (hnl:nd.length<=1000) (f:FnD) (pa:Option Addr) (pc:Nat) (ba:Option Addr) (bd:Nat) (k1 k2:Int) (xa:Option Addr) (xl xc:Nat) (w0 W:World) (bc bq a:Nat)
  (hP:AQ w0 (O pa f.ps.length pc) f.ps) (hpl:f.ps.length<=1000) (hB:AI w0 K kf (O ba f.body.length bd) f.body) (hR:RX w0 K [zd U k1,zd U k2,O xa xl xc] f.res) (hres:(AO K f.res).length<=15) (hfew:∀ d∈f.body,Ki K kf d)
  (hw:Ov w0 W) (hlo:w0.heap.size<=bc) (hC:CI bs nd bc a W) (ha:a+Ai kf f.body<=nd.length) (hq:W.cell? ⟨bq,0,none⟩=some (zj (some ⟨bc,0,none⟩))) (hqc:bq≠bc) :
  Calls Tryz.prog 145 #[zh #[O pa f.ps.length pc,O ba f.body.length bd,zd U k1,zd U k2,O xa xl xc],zj (some ⟨bq,0,none⟩)] W fun e W'=>∃ (qa:Option Addr) (qc:Nat) (da:Option Addr) (dc:Nat) (za:Option Addr) (zc:Nat),e=zk (zh #[O qa f.ps.length qc,O da (AJ nd kf f.body a).length dc,zd U (AD f.res),zd U (A5 f.res),O za (AC f.res).length zc])/\Off W.heap.size none W' (fun X=>AQ X (O qa f.ps.length qc) f.ps/\AI X K kf (O da (AJ nd kf f.body a).length dc) (AJ nd kf f.body a)/\RX X K [zd U (AD f.res),zd U (A5 f.res),O za (AC f.res).length zc] f.res)/\(f.ps.length<=qc/\qc<=maxLen)/\FrW (XC bc) W W'/\CI bs nd bc (a+Ai kf f.body) W':=by
 have ac:=hC.lt;have ab:bq < W.heap.size:=bL hq;have HP:Hx (∀ Wz,Ov w0 Wz->AQ Wz (O pa f.ps.length pc) f.ps):=fun Wz S=>hP.over S;have HR:Hx (∀ Wz,Ov w0 Wz->RX Wz K [zd U k1,zd U k2,O xa xl xc] f.res):=fun Wz S=>RX.over hR S;have K2:Hx (∀ Wz,Ov w0 Wz->_):=fun Wz (S:Ov w0 Wz)=>Jm (O pa f.ps.length pc) f.ps Wz (HP.o Wz S) hpl;have K6:Hx (∀ Wz,Ov w0 Wz->CI bs nd bc a Wz->_):=fun Wz (S:Ov w0 Wz) (hc:CI bs nd bc a Wz)=>Km K bs nd hnl kf (O ba f.body.length bd) f.body w0 Wz bc a hB S hlo hc ha hfew;have K9:Hx (∀ Wz,Ov w0 Wz->_):=fun Wz (S:Ov w0 Wz)=>Pi K [zd U k1,zd U k2,O xa xl xc] f.res Wz (HR.o Wz S) hres;obtain ⟨c,ai⟩:=nm f.ps.length;obtain ⟨bn,au⟩:=nm f.body.length;obtain ⟨M,aj⟩:=nm (AJ nd kf f.body a).length;obtain ⟨H,ag⟩:=nm (AD f.res);obtain ⟨F,ae⟩:=nm (A5 f.res);obtain ⟨G,af⟩:=nm (AC f.res).length;rw [<-ai] at K2 ⊢;rw [<-au] at K6 ⊢;rw [<-aj] at K6 ⊢;rw [<-ag,<-ae,<-af] at K9 ⊢;have q:Ov W ((W.alloc (ze #[O pa c pc,O ba bn bd,zd U k1,zd U k2,O xa xl xc] 105)).alloc (ze #[O none 0 0,O none 0 0,zd U 0,zd U 0,O none 0 0] 105)):=(bA W _).alloc (by simp) _;obtain ⟨V,hV⟩:=nm ((W.alloc (ze #[O pa c pc,O ba bn bd,zd U k1,zd U k2,O xa xl xc] 105)).alloc (ze #[O none 0 0,O none 0 0,zd U 0,zd U 0,O none 0 0] 105));have am:V.heap.size=W.heap.size+2:=by rw [hV];simp
 have ao:Ad [O pa c pc,O ba bn bd,zd U k1,zd U k2,O xa xl xc] V W.heap.size:=by rw [hV];exact Ad.over (AP W [O pa c pc,O ba bn bd,zd U k1,zd U k2,O xa xl xc] 105) (bA _ _)
 have an:Ad [O none 0 0,O none 0 0,zd U 0,zd U 0,O none 0 0] V (W.heap.size+1):=by
  rw [hV];have hs:(W.alloc (ze #[O pa c pc,O ba bn bd,zd U k1,zd U k2,O xa xl xc] 105)).heap.size=W.heap.size+1:=by simp
  rw [<-hs];exact AP (W.alloc (ze #[O pa c pc,O ba bn bd,zd U k1,zd U k2,O xa xl xc] 105)) [O none 0 0,O none 0 0,zd U 0,zd U 0,O none 0 0] 105
 have ar:∀ j,V.frozen? ⟨W.heap.size+1,j,none⟩=false:=fun j=>by rw [hV];simp [go_sem]
 rw [<-hV] at q;have z:CE V.drew W.heap.size 0 (O pa c pc)/\CE V.drew W.heap.size 1 (O ba bn bd)/\CE V.drew W.heap.size 2 (zd U k1)/\CE V.drew W.heap.size 3 (zd U k2)/\CE V.drew W.heap.size 4 (O xa xl xc)/\CE V.drew bq 0 (zj (some ⟨bc,0,none⟩)):=by
  obtain ⟨g0,g1,g2,g3,g4⟩:=rc5 ao;exact ⟨g0,g1,g2,g3,g4,Ab q _ _ hq⟩
 have aa:Ov w0 V.drew:=hw.trans ((q.trans ((bD V).mono q.size)).mono hw.size);have bk:Hx (CI bs nd bc a V.drew):=(hC.over q).over (bD V);have P:=Aa aa;have br:=Aa q;have bb:=Aa an;have bj:=Aa ar;have Y:=Aa am;have bi:=Aa hlo;have N:Hx (∀ X,¬ XC bc X W.heap.size):=fun X h=>by have h':W.heap.size=bc:=h;omega
 have a7:Hx (∀ X,¬ XC bc X bq):=fun X h=>hqc h;have az:Hx (∀ X,¬ XC bc X (W.heap.size+1)):=fun X h=>by have h':W.heap.size+1=bc:=h;omega
 have bp:=Aa ac;have Q:=Aa ab;have bo:Hx (∀ i,i < nd.length->bs < W.heap.size):=fun i hi=>hC.bsl hi;have a1:Hx (W.heap.size+1≠bc/\(CI bs nd bc (a+Ai kf f.body) V.drew->True)):=⟨by omega,fun _=>trivial⟩;have cm:=Aa (And.intro ai (And.intro aj (And.intro ag (And.intro ae af))));clear hP hpl hB hR hres hfew hw hlo hC ha hq hqc q ao an ar am ai au aj ag ae af aa ab ac HP HR hnl;go_enter Tryz.func145,Tryz.ntmps145;go_wp2_with fail;rw [<-hV];clear hV;refine gS (fun Wz=>CE Wz W.heap.size 0 (O pa c pc)/\CE Wz W.heap.size 1 (O ba bn bd)/\CE Wz W.heap.size 2 (zd U k1)/\CE Wz W.heap.size 3 (zd U k2)/\CE Wz W.heap.size 4 (O xa xl xc)/\CE Wz bq 0 (zj (some ⟨bc,0,none⟩))) z fun l=>?_;refine kT 0 ?_;refine kT 1 ?_;refine kT 3 ?_;refine kT 4 ?_;refine kT 5 ?_;refine kT 7 ?_;refine kT 8 ?_;refine rdA 2 rfl fun Kq L=>?_;go_simp;refine (K2.o _ P.o).mono ?_;rintro e T ⟨qa,qc,rfl,ax,k,aq⟩;have y:CE T W.heap.size 0 (O pa c pc)/\CE T W.heap.size 1 (O ba bn bd)/\CE T W.heap.size 2 (zd U k1)/\CE T W.heap.size 3 (zd U k2)/\CE T W.heap.size 4 (O xa xl xc)/\CE T bq 0 (zj (some ⟨bc,0,none⟩)):=⟨Ab k _ _ z.1,Ab k _ _ z.2.1,Ab k _ _ z.2.2.1,Ab k _ _ z.2.2.2.1,Ab k _ _ z.2.2.2.2.1,Ab k _ _ z.2.2.2.2.2⟩;have bh:=Aa ax;have R:=Aa k;have be:=Aa aq;have bm:=Aa (bk.o.over k);have a0:Hx (Ov w0 T):=P.o.trans (k.mono P.o.size);clear ax k aq;go_simp;refine xK L y fun l=>?_;clear L Kq;refine rdA 6 rfl fun Kq L=>?_;go_simp;refine (K6.o _ a0.o bm.o).mono ?_;rintro e W3 ⟨da,dc,rfl,aw,ay,p⟩;have t:CE W3 W.heap.size 0 (O pa c pc)/\CE W3 W.heap.size 1 (O ba bn bd)/\CE W3 W.heap.size 2 (zd U k1)/\CE W3 W.heap.size 3 (zd U k2)/\CE W3 W.heap.size 4 (O xa xl xc)/\CE W3 bq 0 (zj (some ⟨bc,0,none⟩)):=⟨p.cell y.1 (N.o _),p.cell y.2.1 (N.o _),p.cell y.2.2.1 (N.o _),p.cell y.2.2.2.1 (N.o _),p.cell y.2.2.2.2.1 (N.o _),p.cell y.2.2.2.2.2 (a7.o _)⟩;have bg:=Aa aw;have bl:=Aa ay;have A:=Aa p;have a8:Hx (Ov w0 W3):=p.base bi.o a0.o;clear aw ay p;go_simp;refine xK L t fun l=>?_;clear L Kq;refine rdA 9 rfl fun Kq L=>?_;go_simp;refine (K9.o _ a8.o).mono ?_;rintro e E ⟨za,zc,rfl,av,g⟩;have s:CE E W.heap.size 0 (O pa c pc)/\CE E W.heap.size 1 (O ba bn bd)/\CE E W.heap.size 2 (zd U k1)/\CE E W.heap.size 3 (zd U k2)/\CE E W.heap.size 4 (O xa xl xc)/\CE E bq 0 (zj (some ⟨bc,0,none⟩)):=⟨Ab g _ _ t.1,Ab g _ _ t.2.1,Ab g _ _ t.2.2.1,Ab g _ _ t.2.2.2.1,Ab g _ _ t.2.2.2.2.1,Ab g _ _ t.2.2.2.2.2⟩;have I:=(A.o.row (bb.o.over ((bD V).trans (R.o.mono (Nat.le_refl _)))) (az.o _)).over g;have ah:=((((I.set (j:=0) (v:=O qa c qc) (by simp)).set (j:=1) (v:=O da M dc) (by simp)).set (j:=2) (v:=zd U H) (by simp)).set (j:=3) (v:=zd U F) (by simp)).set (j:=4) (v:=O za G zc) (by simp);simp only [List.set_cons_zero,List.set_cons_succ] at ah;have a2:V.heap.size<=T.heap.size:=R.o.size;have C:=fun j=>((Am g).2 (W.heap.size+1) j (by have h1:=A.o.size;have h2:=Y.o;omega)).trans ((A.o.frozen (j:=j) (by have h2:=Y.o;omega) (az.o _)).trans (((Am R.o).2 (W.heap.size+1) j (by have h2:V.drew.heap.size=W.heap.size+2:=Y.o;omega)).trans (bj.o j)));have f0:=C 0;have f1:=C 1;have f2:=C 2;have f3:=C 3;have f4:=C 4;obtain ⟨x0,x1,x2,x3,x4⟩:=rc5 I;have a5:CE (((((E.setCell ⟨W.heap.size+1,0,none⟩ (O qa c qc)).setCell ⟨W.heap.size+1,1,none⟩ (O da M dc)).setCell ⟨W.heap.size+1,2,none⟩ (zd U H)).setCell ⟨W.heap.size+1,3,none⟩ (zd U F)).setCell ⟨W.heap.size+1,4,none⟩ (O za G zc)) W.heap.size 0 (O pa c pc)/\CE (((((E.setCell ⟨W.heap.size+1,0,none⟩ (O qa c qc)).setCell ⟨W.heap.size+1,1,none⟩ (O da M dc)).setCell ⟨W.heap.size+1,2,none⟩ (zd U H)).setCell ⟨W.heap.size+1,3,none⟩ (zd U F)).setCell ⟨W.heap.size+1,4,none⟩ (O za G zc)) W.heap.size 1 (O ba bn bd)/\CE (((((E.setCell ⟨W.heap.size+1,0,none⟩ (O qa c qc)).setCell ⟨W.heap.size+1,1,none⟩ (O da M dc)).setCell ⟨W.heap.size+1,2,none⟩ (zd U H)).setCell ⟨W.heap.size+1,3,none⟩ (zd U F)).setCell ⟨W.heap.size+1,4,none⟩ (O za G zc)) W.heap.size 2 (zd U k1)/\CE (((((E.setCell ⟨W.heap.size+1,0,none⟩ (O qa c qc)).setCell ⟨W.heap.size+1,1,none⟩ (O da M dc)).setCell ⟨W.heap.size+1,2,none⟩ (zd U H)).setCell ⟨W.heap.size+1,3,none⟩ (zd U F)).setCell ⟨W.heap.size+1,4,none⟩ (O za G zc)) W.heap.size 3 (zd U k2)/\CE (((((E.setCell ⟨W.heap.size+1,0,none⟩ (O qa c qc)).setCell ⟨W.heap.size+1,1,none⟩ (O da M dc)).setCell ⟨W.heap.size+1,2,none⟩ (zd U H)).setCell ⟨W.heap.size+1,3,none⟩ (zd U F)).setCell ⟨W.heap.size+1,4,none⟩ (O za G zc)) W.heap.size 4 (O xa xl xc)/\CE (((((E.setCell ⟨W.heap.size+1,0,none⟩ (O qa c qc)).setCell ⟨W.heap.size+1,1,none⟩ (O da M dc)).setCell ⟨W.heap.size+1,2,none⟩ (zd U H)).setCell ⟨W.heap.size+1,3,none⟩ (zd U F)).setCell ⟨W.heap.size+1,4,none⟩ (O za G zc)) bq 0 (zj (some ⟨bc,0,none⟩)):=⟨Aq (Aq (Aq (Aq (Aq s.1 (by omega)) (by omega)) (by omega)) (by omega)) (by omega),Aq (Aq (Aq (Aq (Aq s.2.1 (by omega)) (by omega)) (by omega)) (by omega)) (by omega),Aq (Aq (Aq (Aq (Aq s.2.2.1 (by omega)) (by omega)) (by omega)) (by omega)) (by omega),Aq (Aq (Aq (Aq (Aq s.2.2.2.1 (by omega)) (by omega)) (by omega)) (by omega)) (by omega),Aq (Aq (Aq (Aq (Aq s.2.2.2.2.1 (by omega)) (by omega)) (by omega)) (by omega)) (by omega),Aq (Aq (Aq (Aq (Aq s.2.2.2.2.2 (by have:=Q.o;omega)) (by have:=Q.o;omega)) (by have:=Q.o;omega)) (by have:=Q.o;omega)) (by have:=Q.o;omega)⟩;have a9:=Aa ah;have bf:=Aa av;have Z:=Aa g;clear av g I ah C a2;go_simp;refine xK L s fun l=>?_;clear L Kq;refine kT 10 ?_;refine rdA 11 rfl fun Kq L=>?_;go_simp;refine xK L a5 fun l=>?_;clear L Kq;refine gE ?_;go_wp2_with fail;obtain ⟨r0,r1,r2,r3,r4⟩:=rc5 a9.o;refine bodyPost_ret (v:=zh #[O qa c qc,O da M dc,zd U H,zd U F,O za G zc]) (by simp [results,Tryz.results145,go_sem,r0,r1,r2,r3,r4]) rfl ?_;refine ⟨qa,qc,da,dc,za,zc,rfl,?_,be.o,?_,?_⟩
 ·have b9:V.drew.heap.size=W.heap.size+2:=Y.o
  have cd:W.heap.size+2<=T.heap.size:=by have:=R.o.size;omega
  have cc:W.heap.size+2<=W3.heap.size:=by have:=A.o.size;omega
  have o2:=(((((((bh.o.keep A.o.size (A.o.from (by have h:=bp.o;omega))).over Z.o).set (b:=W.heap.size+1) (j:=0) (u:=O qa c qc) (by omega)).set (b:=W.heap.size+1) (j:=1) (u:=O da M dc) (by omega)).set (b:=W.heap.size+1) (j:=2) (u:=zd U H) (by omega)).set (b:=W.heap.size+1) (j:=3) (u:=zd U F) (by omega)).set (b:=W.heap.size+1) (j:=4) (u:=O za G zc) (by omega));have o3:=((((((bg.o.over Z.o).set (b:=W.heap.size+1) (j:=0) (u:=O qa c qc) (by omega)).set (b:=W.heap.size+1) (j:=1) (u:=O da M dc) (by omega)).set (b:=W.heap.size+1) (j:=2) (u:=zd U H) (by omega)).set (b:=W.heap.size+1) (j:=3) (u:=zd U F) (by omega)).set (b:=W.heap.size+1) (j:=4) (u:=O za G zc) (by omega));have o4:=(((((bf.o.set (b:=W.heap.size+1) (j:=0) (u:=O qa c qc) (by omega)).set (b:=W.heap.size+1) (j:=1) (u:=O da M dc) (by omega)).set (b:=W.heap.size+1) (j:=2) (u:=zd U H) (by omega)).set (b:=W.heap.size+1) (j:=3) (u:=zd U F) (by omega)).set (b:=W.heap.size+1) (j:=4) (u:=O za G zc) (by omega));exact (o2.and (o3.and o4 (B:=W.heap.size) (by omega) (by omega)) (by omega) (Nat.le_refl _))
 ·have h1:FrW (XC bc) W E:=(((FrW.of_below (CZ bc) br.o).trans (FrW.of_below (CZ bc) ((bD V).trans (R.o.mono (Nat.le_refl _))))).trans A.o).trans (FrW.of_below (CZ bc) Z.o)
  exact FrW.set (FrW.set (FrW.set (FrW.set (FrW.set h1 (by omega)) (by omega)) (by omega)) (by omega)) (by omega)
 ·have hc:=bl.o.over Z.o
  have a3:W.heap.size+1≠bs\/nd=[]:=by
   rcases nd with _ | ⟨x,r⟩
   ·exact Or.inr rfl
   ·exact Or.inl (by have:=bo.o 0 (by simp);omega)
  have J:∀ (X:World) (j:Nat) (u:Value),CI bs nd bc (a+Ai kf f.body) X->CI bs nd bc (a+Ai kf f.body) (X.setCell ⟨W.heap.size+1,j,none⟩ u):=fun X j u h=>by
   rcases a3 with h2 | h2
   ·exact h.set a1.o.1 h2
   ·subst h2
    exact ⟨Ad.other h.row (Ne.symm a1.o.1),fun j=>AM.trans (h.fz j),fun j u hu=>by simp at hu,h.ne⟩
  exact J _ _ _ (J _ _ _ (J _ _ _ (J _ _ _ (J _ _ _ hc))))
theorem Ll {W:World} {B:Nat} {v:Value} {l:List (Int × Int)} (h:W.ownsRow B 169 2 v l.length (grV l)):Off B none W (fun W'=>AB W' v l):=by
 rcases h.2 with ⟨c,s⟩ | ⟨g,p,z,c,u,k,E,C,A,y⟩
 ·exact fun W' _=>⟨none,0,by rw [c,s],fun d=>absurd (List.length_eq_zero_iff.1 s) d⟩
 ·refine fun W' hW=>⟨some ⟨g,0,none⟩,p,c,fun _=>⟨g,0,rfl,fun i t=>?_⟩⟩
  have f:g < W.heap.size:=(Array.getElem?_eq_some_iff.1 k).1;have b:W'.heap[g]? = W.heap[g]?:=hW g u f (by simp);have q:=Jd l i t;rw [<-y,List.getElem?_take,if_pos (by omega),List.getElem?_take,if_pos (by omega)] at q;rw [World.cell?_of_block (a:=⟨g,0+i*2,none⟩) b,Lib.cell_of_heap k,World.cell?_of_block (a:=⟨g,0+i*2+1,none⟩) b,Lib.cell_of_heap k];simpa using q
theorem RQ (v:Value) (l:List (Int × Int)) (w:World) (h:AB w v l) (hl:l.length<=1000) :
  Calls Tryz.prog 139 #[v] w fun e w'=>∃ a c,e=zk (O a l.length c)/\Off w.heap.size none w' (fun W=>AB W (O a l.length c) l)/\Ov w w'/\l.length<=c/\c<=maxLen:=by
 obtain ⟨ao,C,rfl,t⟩:=h;obtain ⟨i0,R,B,A,z⟩:=info_parts Tryz.infoGr;have ae:∀ (w:World) (a:Option Addr) (n c n' c':Nat),(binOp .eql 22 (O a n c) (O none n' c')).run Tryz.prog w=.ok (zg a.isNone) w:=fun w a n c n' c'=>Lib.run_eql_slice_nil w _ _ a n c n' c' Tryz.underlying22
 cases ao with
 | none=>
  obtain rfl:l=[]:=by
   cases l with
   | nil=>rfl
   | cons x l=>obtain ⟨b,off,M,-⟩:=t (by simp);cases M
  clear t R B A z;show Calls Tryz.prog 139 #[O none 0 C] w fun e w'=>∃ a c,e=zk (O a 0 c)/\Off w.heap.size none w' (fun W=>AB W (O a 0 c) [])/\Ov w w'/\0<=c/\c<=maxLen;go_enter Tryz.func139,Tryz.ntmps139;go_wp2_with fail;go_ret;exact ⟨none,0,rfl,fun W _=>⟨none,0,rfl,fun h=>absurd rfl h⟩,Below.refl _ _,Nat.le_refl _,by unfold maxLen;omega⟩
 | some a0=>
  have y:Ov w (w.alloc (ze #[] 169)):=bA w _;have k:(w.alloc (ze #[] 169)).ownsRow w.heap.size 169 2 (O (some ⟨w.heap.size,0,none⟩) 0 0) 0 []:=World.ownsRow_made w #[] 0 (Nat.le_refl _) (by unfold maxLen;omega) (by simp);have I:=Aa y;have N:=y.size
  cases l with
  | nil=>
   clear t B A z;show Calls Tryz.prog 139 #[O (some a0) 0 C] w fun e w'=>∃ a c,e=zk (O a 0 c)/\Off w.heap.size none w' (fun W=>AB W (O a 0 c) [])/\Ov w w'/\0<=c/\c<=maxLen;go_enter Tryz.func139,Tryz.ntmps139;go_wp2_with (at_builtin;refine wpList_append_own_none rfl _ _ 22 rfl w.heap.size 169 i0 2 Tryz.underlying22 R _ _ _ rfl k rfl ?_);go_wp2_with fail;go_ret;exact ⟨_,_,rfl,fun W _=>⟨_,_,rfl,fun h=>absurd rfl h⟩,I.o,Nat.le_refl _,by unfold maxLen;omega⟩
  | cons x l=>
   obtain ⟨b,off,M,s⟩:=t (by simp);injection M with M;subst M;have f:∀ jj u,(grV (x::l))[jj]? = some u->(w.alloc (ze #[] 169)).cell? ((⟨b,off,none⟩:Addr).add jj)=some u:=fun jj u hu=>by
    rw [Addr.add_lit];obtain ⟨i,K,⟨rfl,rfl⟩ | ⟨rfl,rfl⟩⟩:=RK hu
    ·exact Ab y _ _ (s i K).1
    ·exact Ab y _ _ (s i K).2
   have p:∀ u∈grV (x::l),u.oneCell'=true:=Mx _;obtain ⟨L,X⟩:=nm (x::l);rw [<-X] at hl f p ⊢;obtain ⟨V,q⟩:=nm L.length;have J:(grV L).length=V*2:=by rw [q];exact Jc L
   have E:=Aa q;have Y:Hx (1<=V):=by rw [q,X];simp [Hx]
   rw [<-q] at hl ⊢;have ag:=Y.o;clear t s y X q;go_enter Tryz.func139,Tryz.ntmps139;go_wp2_with (at_builtin;refine wpList_append_own _ rfl _ _ 22 rfl w.heap.size 169 i0 (zh #[zd U 0,zd U 0]) 2 16 Tryz.underlying22 R B A z rfl (by decide) _ _ _ rfl k ⟨b,off,none⟩ V C (grV L) rfl J f p (by unfold maxLen;omega) (by omega) N ?_);intro v2 w2 d F _;have P:Ov w w2:=I.o.trans (Da F (fun g e=>by simp [Value.ownBlock] at e;omega) I.o.size);rw [E.o] at d;have Q:=Aa (Ll d);obtain ⟨T,S,rfl,G⟩:∃ a c,v2=O a L.length c/\L.length<=c/\c<=maxLen:=by
    rcases d.2 with ⟨h,h0⟩ | ⟨g,C,aj,h,_,_,h3,h4,_⟩
    ·exact ⟨none,0,by rw [h,h0],by rw [h0];exact Nat.le_refl _,by unfold maxLen;omega⟩
    ·exact ⟨_,_,h,h3,h4⟩
   have H:=Aa G;have Z:=Aa P;clear G k d F P R B A z f p J;go_wp2_with fail;go_ret;exact ⟨T,S,by rw [E.o];rfl,by rw [E.o];exact Q.o,Z.o,by rw [E.o];exact H.o.1,H.o.2⟩
theorem Kz {K:Nat} {e:D} (h:AD e=0/\AC e=[]):Ar K e=[]:=by
 cases K with
 | zero=>rfl
 | succ k=>
  unfold Ar;rw [if_neg (by omega),h.2];rfl
section
variable {K vn yn on:Nat} {fs:List FnD} {kf:Nat}
theorem So {funcs:Int} {d:D} (h:Ey.xS1 K vn yn on funcs fs d) (hf:funcs<=fs.length) (hr:∀ f∈fs,AF vn K f.res=0) (n a e:Nat) (ha:a < n):Rg vn yn n K fs (a,d,e):=by
 obtain ⟨⟨A,z,i,t,s,p,y⟩,-⟩:=h;refine ⟨ha,fun v c=>?_,fun h=>?_,fun h q k v c=>?_,fun h v c=>?_⟩
 ·dsimp only at c
  by_cases hk:Af d=2\/Af d=3
  ·rw [Kz (p hk)] at c;cases c
  ·have:=BK (s (by omega)) v c
   omega
 ·have:=t h;dsimp only;omega
 ·have:=BK ((i h).2.2 q.2 (List.of_mem_zip (a:=q.1) (b:=q.2) k).2) v c
  omega
 ·dsimp only at c h
  have u:=(i h).1;have g:(Ae d).toNat < fs.length:=by omega
  have l:Bv fs (Ae d)=fs[(Ae d).toNat]:=by unfold Bv;rw [List.getD_eq_getElem?_getD,List.getElem?_eq_getElem g];rfl
  rw [l] at c;have:=BK (hr _ (List.getElem_mem g)) v c;omega
theorem Qp {funcs:Int} {d:D} (h:Ey.xS1 K vn yn on funcs fs d) (h7:Af d≠7) (h8:Af d≠8):Ag d=[]/\Ak d=[]:=⟨h.2.2.2.2.2.1 ⟨h7,h8⟩,h.2.2.2.2.2.2 h7⟩
theorem Mi {funcs:Int}:∀ {k:Nat} {d:D},Ey.xS K vn yn on funcs fs k d->dpS k d
 | 0,_,h=>h
 | k+1,d,h=>⟨fun s hs=>Mi (h.2.1 s hs),fun s hs=>Mi (h.2.2 s hs)⟩
theorem Ms {funcs:Int} {k:Nat} {l:List D} {a:Nat} (h:∀ s∈l,Ey.xS K vn yn on funcs fs k s):∀ x∈BQ k l a,Ey.xS1 K vn yn on funcs fs x.2.1:=
 Ej (P:=fun k d=>Ey.xS K vn yn on funcs fs k d) (P1:=fun d=>Ey.xS1 K vn yn on funcs fs d) (fun k d h=>h) k l a h
variable {m:Int} {sn:Nat} {gs:List (Int × Int)} {sp:List Int} {ls ms:List Lab} {vs:List (Bool × Lab)} {l:List D}
theorem Fr (h:Ey.xP K kf m vn yn on sn gs sp ls ms vs fs l):∀ x∈Cz kf fs l,∃ funcs:Int,funcs<=fs.length/\Ey.xS1 K vn yn on funcs fs x.2.1:=fun x hx=>by
 rcases List.mem_append.1 hx with hx | hx
 ·obtain ⟨i,hi,hx⟩:=Gy hx
  exact ⟨i,by omega,Ms (h.body i hi).2.2.2.1 x hx⟩
 ·exact ⟨fs.length,Int.le_refl _,Ms h.main x hx⟩
theorem OD (x) (hx:x∈Cz kf fs l):x.1 < Ap kf fs+Ai kf l:=by
 obtain ⟨i,b,rfl⟩:=List.mem_iff_getElem.1 hx;rw [Gx,<-Fz];exact b
theorem I2 (h:Ey.xP K kf m vn yn on sn gs sp ls ms vs fs l):∀ x∈Cz kf fs l,Rg vn yn (Ap kf fs+Ai kf l) K fs x:=fun x hx=>by
 obtain ⟨f,hf,h1⟩:=Fr h x hx;exact So h1 hf (fun g hg=>by
  obtain ⟨i,hi,rfl⟩:=List.mem_iff_getElem.1 hg;exact (h.body i hi).2.2.2.2) _ _ _ (OD x hx)
theorem Gw (h:Ey.xP K kf m vn yn on sn gs sp ls ms vs fs l) (ch:Int):(A6 ch K kf fs l vn yn).mo=false/\Ln vn yn (Ap kf fs+Ai kf l) (A6 ch K kf fs l vn yn)/\∀ x∈Cz kf fs l,Cl (A6 ch K kf fs l vn yn).nd (A6 ch K kf fs l vn yn).vs (A6 ch K kf fs l vn yn).cs ch K kf fs x:=
 M9 (I2 h) (fun x hx h7 h8=>by
  obtain ⟨f,hf,h1⟩:=Fr h x hx;exact Qp h1 h7 h8)
theorem Mo (h:Ey.xP K kf m vn yn on sn gs sp ls ms vs fs l):(∀ i (h:i < fs.length),∀ x∈fs[i].body,dpS kf x)/\∀ x∈l,dpS kf x:=
 ⟨fun i hi x hx=>Mi ((h.body i hi).2.2.2.1 x hx),fun x hx=>Mi (h.main x hx)⟩
theorem FH (nd:List Bool) (i:Nat) (hi:i < fs.length):(Bc nd kf fs)[i]? = some ⟨fs[i].ps,AJ nd kf fs[i].body (Ap kf (fs.take i)),fs[i].res⟩:=by
 unfold Bc;rw [List.getElem?_mapIdx,List.getElem?_eq_getElem hi];rfl
theorem BI (nd:List Bool):(Bc nd kf fs).length=fs.length:=by unfold Bc;simp
theorem Er {P Q:Nat->D->Prop} (nd:List Bool) (h1:∀ k d a,P (k+1) d->(∀ s∈Ag d,P k s)/\(∀ s∈Ak d,P k s)/\((∀ s∈AJ nd k (Ag d) (a+1),Q k s)->(∀ s∈AJ nd k (Ak d) (a+1+Ai k (Ag d)),Q k s)->Q (k+1) (Dh nd k d a))):∀ (k:Nat) (l:List D) (a:Nat),(∀ s∈l,P k s)->∀ s∈AJ nd k l a,Q k s
 | k,[],a,_,s,hs=>by cases hs
 | 0,d::r,a,h,s,hs=>Er nd h1 0 r _ (fun s hs=>h s (List.mem_cons_of_mem _ hs)) s hs
 | k+1,d::r,a,h,s,hs=>by
  rw [BG,List.mem_append] at hs;obtain ⟨g1,g2,g3⟩:=h1 k d a (h d (List.mem_cons_self ..));rcases hs with hs | hs
  ·cases hn:nd.getD a false with
   | false=>rw [DA hn] at hs;cases hs
   | true=>
    rw [CB hn] at hs;rw [List.mem_singleton.1 hs];exact g3 (Er nd h1 k _ _ g1) (Er nd h1 k _ _ g2)
  ·exact Er nd h1 (k+1) r _ (fun s hs=>h s (List.mem_cons_of_mem _ hs)) s hs
theorem DN (nd:List Bool):∀ (k:Nat) (l:List D) (a:Nat),Ai k (AJ nd k l a)<=Ai k l
 | k,[],a=>Nat.le_refl _
 | 0,d::r,a=>by
  rw [BG,Bj];exact Nat.le_trans (DN nd 0 r _) (Nat.le_add_left _ _)
 | k+1,d::r,a=>by
  rw [BG,Bj];have e:Ai (k+1) (FF nd (k+1) d a++AJ nd (k+1) r (a+BD (k+1) d))=Ai (k+1) (FF nd (k+1) d a)+Ai (k+1) (AJ nd (k+1) r (a+BD (k+1) d)):=by
   unfold Ai;rw [List.map_append,List.sum_append]
  have b:=DN nd (k+1) r (a+BD (k+1) d);rw [e]
  cases hn:nd.getD a false with
  | false=>rw [DA hn];show 0+_<=_;omega
  | true=>
   rw [CB hn,Bj,AU,AU];have i:=DN nd k (Ag d) (a+1);have g:=DN nd k (Ak d) (a+1+Ai k (Ag d));have f:Ag (Dh nd k d a)=AJ nd k (Ag d) (a+1):=rfl;have c:Ak (Dh nd k d a)=AJ nd k (Ak d) (a+1+Ai k (Ag d)):=rfl;rw [f,c,show Ai (k+1) []=0 from rfl];rw [AU] at b;omega
theorem Qr {funcs:Int} {nd:List Bool} {k:Nat} {d:D} {a:Nat} (h:Ey.xS1 K vn yn on funcs fs d):Ey.xS1 K vn yn on funcs (Bc nd kf fs) (Dh nd k d a):=by
 obtain ⟨⟨t,s,c,q,p,l,i⟩,C,B,A,z,y,u⟩:=h;refine ⟨⟨t,s,fun h=>⟨(c h).1,fun f g=>?_,(c h).2.2⟩,q,p,l,i⟩,C,B,A,z,fun h=>?_,fun h=>?_⟩
 ·have b:(Bc nd kf fs)[(Ae d).toNat]? = some f:=g
  unfold Bc at b;rw [List.getElem?_mapIdx] at b
  cases hc:fs[(Ae d).toNat]? with
  | none=>rw [hc] at b;cases b
  | some f0=>
   rw [hc] at b;injection b with b;rw [<-b];exact (c h).2.1 f0 hc
 ·show AJ nd k (Ag d) (a+1)=[]
  rw [y h];rfl
 ·show AJ nd k (Ak d) _=[]
  rw [u h];rfl
theorem Pd {funcs:Int} (nd:List Bool) (k:Nat) (l:List D) (a:Nat) (h:∀ s∈l,Ey.xS K vn yn on funcs fs k s):∀ s∈AJ nd k l a,Ey.xS K vn yn on funcs (Bc nd kf fs) k s:=
 Er (P:=fun k d=>Ey.xS K vn yn on funcs fs k d) (Q:=fun k d=>Ey.xS K vn yn on funcs (Bc nd kf fs) k d) nd (fun k d a h=>⟨h.2.1,h.2.2,fun g1 g2=>⟨Qr h.1,g1,g2⟩⟩) k l a h
theorem ME (nd:List Bool) (k:Nat) (deep:Int) (l:List D) (a:Nat) (h:Ey.dps k deep l):Ey.dps k deep (AJ nd k l a):=by
 have b:∀ (k:Nat) (l:List D) (deep:Int) (a:Nat),Ey.dps k deep l->Ey.dps k deep (AJ nd k l a):=by
  intro k
  induction k with
  | zero=>
   intro l deep a h s hs
   cases l with
   | nil=>cases hs
   | cons d r=>exact (h d (List.mem_cons_self ..)).elim
  | succ k ih=>
   intro l
   induction l with
   | nil=>intro deep a h s hs;cases hs
   | cons d r ihl=>
    intro deep a h s hs;rw [BG,List.mem_append] at hs;rcases hs with hs | hs
    ·have c:=h d (List.mem_cons_self ..)
     cases hn:nd.getD a false with
     | false=>rw [DA hn] at hs;cases hs
     | true=>
      rw [CB hn] at hs;rw [List.mem_singleton.1 hs];exact ⟨c.1,ih _ _ _ c.2.1,ih _ _ _ c.2.2⟩
    ·exact ihl deep _ (fun s hs=>h s (List.mem_cons_of_mem _ hs)) s hs
 exact b k l deep a h
theorem Ph (nd:List Bool):Ap kf (Bc nd kf fs)<=Ap kf fs:=by
 have:∀ j,j<=fs.length->Ap kf ((Bc nd kf fs).take j)<=Ap kf (fs.take j):=by
  intro j
  induction j with
  | zero=>intro _;exact Nat.le_refl _
  | succ j ih=>
   intro d;have b:=ih (by omega);have hl:j < (Bc nd kf fs).length:=by rw [BI];omega
   have c:(Bc nd kf fs)[j]=⟨fs[j].ps,AJ nd kf fs[j].body (Ap kf (fs.take j)),fs[j].res⟩:=by
    have:=FH (kf:=kf) (fs:=fs) nd j (by omega);rw [List.getElem?_eq_getElem hl] at this;injection this
   unfold Ap at b ⊢;rw [List.take_succ_eq_append_getElem hl,List.take_succ_eq_append_getElem (by omega:j < fs.length),List.map_append,List.map_append,List.sum_append,List.sum_append,c];have f:=DN nd kf fs[j].body (Ap kf (fs.take j));simp only [List.map_cons,List.map_nil,List.sum_cons,List.sum_nil];omega
 have h:=this fs.length (Nat.le_refl _);rw [List.take_length,<-BI (kf:=kf) nd,List.take_length] at h;exact h
theorem Pe (h:Ey.xP K kf m vn yn on sn gs sp ls ms vs fs l) (nd:List Bool) (a:Nat):Ey.xP K kf m vn yn on sn gs sp ls ms vs (Bc nd kf fs) (AJ nd kf l a):=by
 refine ⟨h.chk,by rw [BI];exact h.lim,h.speak,h.labs,⟨?_,?_,?_⟩,fun i c=>?_,fun s g=>?_⟩
 ·have A:=Ph (kf:=kf) (fs:=fs) nd
  have z:=DN nd kf l a;have:=h.many.1;omega
 ·intro f k
  obtain ⟨i,c,rfl⟩:=List.mem_iff_getElem.1 k;have b:i < fs.length:=by rw [BI] at c;exact c
  have d:(Bc nd kf fs)[i]=⟨fs[i].ps,AJ nd kf fs[i].body (Ap kf (fs.take i)),fs[i].res⟩:=by
   have:=FH (kf:=kf) nd i b;rw [List.getElem?_eq_getElem c] at this;injection this
  rw [d];exact ME nd kf 1 _ _ (h.many.2.1 _ (List.getElem_mem b))
 ·exact ME nd kf 1 l a h.many.2.2
 ·have b:i < fs.length:=by rw [BI] at c;exact c
  have d:(Bc nd kf fs)[i]=⟨fs[i].ps,AJ nd kf fs[i].body (Ap kf (fs.take i)),fs[i].res⟩:=by
   have:=FH (kf:=kf) nd i b;rw [List.getElem?_eq_getElem c] at this;injection this
  rw [d];obtain ⟨y,u,t,q,p⟩:=h.body i b;exact ⟨y,u,t,Pd nd kf _ _ q,p⟩
 ·rw [BI]
  exact Pd nd kf l a h.main s g
end
theorem Tryz.infoCm:(Tryz.prog.info? 249).map (fun i=>(i.zero,i.size,i.bytes))=some (some (zh #[zd U 0,zd U 0,zd U 0,zd U 0,zd U 0,O none 0 0,O none 0 0,O none 0 0,O none 0 0,zd U 0]),10,144):=by kernel_rfl
def XL (bn:Nat) (W:World) (k:Nat):Prop:=W.heap.size<=bn\/k=bn\/∃ v,W.cell? ⟨bn,9,none⟩=some v/\v.ownBlock=some k
theorem Ia (bn:Nat):XOk (XL bn):=⟨fun W W' hb k h=>by
 by_cases hlt:W.heap.size<=bn
 ·exact Or.inl hlt
 ·rcases h with h | h | ⟨v,hv,ho⟩
  ·exact absurd (Nat.le_trans hb.size h) hlt
  ·exact Or.inr (Or.inl h)
  ·refine Or.inr (Or.inr ⟨v,?_,ho⟩)
   rw [<-hv];exact (World.cell?_of_block (a:=⟨bn,9,none⟩) (hb.block bn (by omega))).symm⟩
structure LI (w0:World) (cs:List Value) (bn:Nat) (cv:Value) (n:Nat) (xs ds:List Value) (W:World):Prop where
 below:Ov w0 W
 row:Ad (cs++cv::ds) W bn
 fz:∀ j,W.frozen? ⟨bn,j,none⟩=false
 own:W.ownsRow w0.heap.size 249 10 cv n xs
 ap:cv.ownBlock≠some bn
 lo:w0.heap.size<=bn/\bn < W.heap.size
 len:cs.length=9
section
variable {w0:World} {cs:List Value} {bn:Nat} {cv cv':Value} {n:Nat} {xs ds:List Value} {W W':World}
theorem LI.c9 (h:LI w0 cs bn cv n xs ds W):W.cell? ⟨bn,9,none⟩=some cv:=h.row 9 _ (by rw [List.getElem?_append_right (by rw [h.len];omega),h.len];rfl)
theorem LI.over (h:LI w0 cs bn cv n xs ds W) (hb:Ov W W'):LI w0 cs bn cv n xs ds W':=
 ⟨h.below.trans (hb.mono h.below.size),h.row.over hb,fun j=>((Am hb).2 _ _ h.lo.2).trans (h.fz j),h.own.kept (row:=none) ⟨hb.os,hb.tape,hb.output,hb.size,fun k hk _=>hb.block k hk⟩ (by cases cv.ownBlock <;> simp),h.ap,⟨h.lo.1,Nat.lt_of_lt_of_le h.lo.2 hb.size⟩,h.len⟩
theorem LI.xlt (h:LI w0 cs bn cv n xs ds W):∀ k,XL bn W k->w0.heap.size<=k/\k < W.heap.size:=by
 rintro k (hk | rfl | ⟨v,b,c⟩)
 ·have:=h.lo.2;omega
 ·exact h.lo
 ·rw [h.c9] at b
  injection b with b;subst b;exact Dd h.own k c
theorem LI.add {ys:List Value} {m:Nat} (h:LI w0 cs bn cv n xs ds W) (ho':W'.ownsRow w0.heap.size 249 10 cv' m ys) (hg:W.grownBy W' cv.ownBlock) (hat:cv'.ownBlock=cv.ownBlock\/cv'.ownBlock=some W.heap.size) :
  LI w0 cs bn cv' m ys ds (W'.setCell ⟨bn,9,none⟩ cv')/\FrW (XL bn) W (W'.setCell ⟨bn,9,none⟩ cv'):=by
 have i:W'.heap[bn]? = W.heap[bn]?:=hg.block bn h.lo.2 (fun e=>h.ap e.symm);have d:Ad (cs++cv::ds) W' bn:=fun j u z=>(World.cell?_of_block (a:=⟨bn,j,none⟩) i).trans (h.row j u z);have y:Below w0.heap.size W W':=Da hg (fun g e=>(Dd h.own g e).1) h.below.size;have f:cv'.ownBlock≠some bn:=by
  rcases hat with e | e
  ·rw [e];exact h.ap
  ·rw [e];intro e;injection e with e;have:=h.lo.2;omega
 have c:(W'.setCell ⟨bn,9,none⟩ cv').heap.size=W'.heap.size:=by simp [World.setCell]
 have b:Ad (cs++cv'::ds) (W'.setCell ⟨bn,9,none⟩ cv') bn:=by
  have:=CF (j:=9) (v:=cv') d (by simp [h.len]);rw [List.set_append,if_neg (by rw [h.len];omega),h.len] at this;exact this
 have t:CE (W'.setCell ⟨bn,9,none⟩ cv') bn 9 cv':=b 9 _ (by rw [List.getElem?_append_right (by rw [h.len];omega),h.len];rfl);refine ⟨⟨(h.below.trans y).setCell h.lo.1 _,b,fun j=>?_,?_,f,⟨h.lo.1,?_⟩,h.len⟩,⟨?_,?_,?_,?_,?_,?_⟩⟩
 ·have A:(W'.setCell ⟨bn,9,none⟩ cv').frozen? ⟨bn,j,none⟩=W'.frozen? ⟨bn,j,none⟩:=by simp [go_sem]
  rw [A,World.frozen?_of_block (a:=⟨bn,j,none⟩) i];exact h.fz j
 ·exact ho'.kept (row:=some bn) D1 (Or.inr f)
 ·rw [c];exact Nat.lt_of_lt_of_le h.lo.2 hg.size
 ·exact hg.os
 ·exact hg.tape
 ·exact hg.output
 ·rw [c];exact hg.size
 ·intro k hk l
  have s:k≠bn:=fun e=>l (Or.inr (Or.inl e));rw [Bx (Ne.symm s) cv'];exact hg.block k hk (fun e=>l (Or.inr (Or.inr ⟨cv,h.c9,e.symm⟩)))
 ·rintro k hk (l | rfl | ⟨v,p,q⟩)
  ·rw [c] at l;have:=hg.size;have:=h.lo.2;omega
  ·exact Or.inr (Or.inl rfl)
  ·rw [t] at p
   injection p with p;subst p;rcases hat with e | e
   ·exact Or.inr (Or.inr ⟨cv,h.c9,by rw [<-e];exact q⟩)
   ·rw [e] at q;injection q with q;omega
theorem LI.put {g cap j:Nat} {u:Value} (h:LI w0 cs bn (O (some ⟨g,0,none⟩) n cap) n xs ds W) :
  LI w0 cs bn (O (some ⟨g,0,none⟩) n cap) n (xs.set j u) ds (W.setCell ⟨g,j,none⟩ u)/\FrW (XL bn) W (W.setCell ⟨g,j,none⟩ u):=by
 obtain ⟨s,b⟩:=h.own.stored j u;have q:g≠bn:=fun e=>h.ap (by rw [<-e];rfl);have f:=Dd h.own g rfl;have c:(W.setCell ⟨g,j,none⟩ u).heap[bn]? = W.heap[bn]?:=b.block bn h.lo.2 (fun e=>h.ap e.symm);refine ⟨⟨h.below.setCell f.1 _,fun i v d=>(World.cell?_of_block (a:=⟨bn,i,none⟩) c).trans (h.row i v d),fun i=>(World.frozen?_of_block (a:=⟨bn,i,none⟩) c).trans (h.fz i),s,h.ap,⟨h.lo.1,Nat.lt_of_lt_of_le h.lo.2 b.size⟩,h.len⟩,⟨b.os,b.tape,b.output,b.size,fun k hk l=>b.block k hk (fun e=>l (Or.inr (Or.inr ⟨_,h.c9,by injection e with e;rw [e];rfl⟩))),?_⟩⟩;rintro k hk (l | rfl | ⟨v,d,p⟩)
 ·have:=b.size;have:=h.lo.2;omega
 ·exact Or.inr (Or.inl rfl)
 ·refine Or.inr (Or.inr ⟨v,?_,p⟩)
  rw [<-d];exact (World.cell?_of_block (a:=⟨bn,9,none⟩) c).symm
end
theorem JX (k:Nat):∀ (l m:List D) (a:Nat),BQ k (l++m) a=BQ k l a++BQ k m (a+Ai k l)
 | [],m,a=>by simp [JW,Ai]
 | d::r,m,a=>by rw [List.cons_append,BM,BM,JX k r,Bj,List.append_assoc,Nat.add_assoc]
def Ca (w0:World) (K k:Nat) (ys:List Value) (L:List (Nat × D × Nat)):Prop:=
 ys.length=L.length*10/\∀ i x,L[i]? = some x->∃ cs:List Value,cs.length=9/\RS w0 K k cs x.2.1/\∀ j u,(cs++[zd U (x.2.2:Int)])[j]? = some u->ys[i*10+j]? = some u
section
variable {w0:World} {K k k':Nat} {ys zs:List Value} {L M:List (Nat × D × Nat)}
theorem Ca.nil:Ca w0 K k [] []:=⟨rfl,fun i x h=>by simp at h⟩
theorem Ca.app (h:Ca w0 K k ys L) (g:Ca w0 K k zs M):Ca w0 K k (ys++zs) (L++M):=by
 refine ⟨by rw [List.length_append,List.length_append,h.1,g.1];omega,fun i x b=>?_⟩;by_cases hi:i < L.length
 ·rw [List.getElem?_append_left hi] at b
  obtain ⟨cs,l,f,d⟩:=h.2 i x b;refine ⟨cs,l,f,fun j u c=>?_⟩;have:=d j u c;rw [List.getElem?_append_left (List.getElem?_eq_some_iff.1 this).1];exact this
 ·rw [List.getElem?_append_right (by omega)] at b
  obtain ⟨cs,l,f,d⟩:=g.2 _ x b;refine ⟨cs,l,f,fun j u c=>?_⟩;have:=d j u c;rw [List.getElem?_append_right (by rw [h.1];omega),h.1,<-this];congr 1;omega
theorem Ca.mono (h:Ca w0 K k ys L) (hk:k<=k'):Ca w0 K k' ys L:=⟨h.1,fun i x hx=>by
 obtain ⟨cs,h1,h2,h3⟩:=h.2 i x hx;exact ⟨cs,h1,RS.mono (fun _ _ h=>h) k k' cs _ hk h2,h3⟩⟩
theorem Ca.one {cs:List Value} {a e:Nat} {d:D} (hl:cs.length=9) (h:RS w0 K k cs d):Ca w0 K k (cs++[zd U (e:Int)]) [(a,d,e)]:=by
 refine ⟨by simp [hl],fun i x b=>?_⟩
 match i with
 | 0=>
  simp at b;subst b;exact ⟨cs,hl,h,fun j u c=>by simpa using c⟩
 | i+1=>simp at b
theorem PG {xs c e:List Value} {u:Value} (hc:c.length=9) (o:Value):(xs++((c++[o])++e)).set (xs.length+9) u=xs++((c++[u])++e):=by
 rw [List.set_append,if_neg (by omega),Nat.add_sub_cancel_left,List.set_append,if_pos (by simp [hc]),List.set_append,if_neg (by rw [hc];omega),hc];rfl
end
theorem listed (w0:World) (cs:List Value) (bn:Nat) (oa:Option Addr) (on oc:Nat) (xs ds:List Value) (W:World) (h:LI w0 cs bn (O oa on oc) on xs ds W) (ho:on<=1000) (c9:List Value) (hc:c9.length=9) (hone:∀ u∈c9,u.oneCell'=true) :
  ∃ v2 w2,(Builtin.append_ #[154,154] 154 #[O oa on oc,O (some ⟨W.heap.size,0,none⟩) 1 1]).run Tryz.prog (W.alloc (.cells (c9++[Value.int U 0]).toArray 249))=.ok v2 w2/\LI w0 cs bn v2 (on+1) (xs++(c9++[Value.int U 0])) ds (w2.setCell ⟨bn,9,none⟩ v2)/\FrW (XL bn) W (w2.setCell ⟨bn,9,none⟩ v2)/\w2.cell? ⟨bn,9,none⟩=some (O oa on oc)/\w2.frozen? ⟨bn,9,none⟩=false/\∀ b,b < W.heap.size->¬ XL bn W b->w2.heap[b]? = W.heap[b]?:=by
 obtain ⟨B,C,s,q,p⟩:=info_parts Tryz.infoCm;have f:Ov W (W.alloc (.cells (c9++[Value.int U 0]).toArray 249)):=bA W _;have c:=h.over f;have E:=AP W (c9++[Value.int U 0]) 249;have y:w0.heap.size<=(W.alloc (.cells (c9++[Value.int U 0]).toArray 249)).heap.size:=c.below.size;obtain ⟨v2,w2,l,i,d,-,t⟩:=run_append_own_at (P:=Tryz.prog) (w:=W.alloc (.cells (c9++[Value.int U 0]).toArray 249)) w0.heap.size 154 154 249 B (zh #[zd U 0,zd U 0,zd U 0,zd U 0,zd U 0,O none 0 0,O none 0 0,O none 0 0,O none 0 0,zd U 0]) 10 144 Tryz.underlying154 C s q p rfl (by decide) _ _ _ c.own ⟨W.heap.size,0,none⟩ 1 1 (c9++[Value.int U 0]) (by simp [hc]) (fun A u hu=>by rw [Addr.add_lit,Nat.zero_add];exact E A u hu) (by
  intro u hu;rcases List.mem_append.1 hu with hu | hu
  ·exact hone u hu
  ·rw [List.mem_singleton.1 hu];rfl) (by unfold maxLen;omega) (by omega) y
 have g:=c.add i d t;refine ⟨v2,w2,l,g.1,(FrW.of_below (Ia bn) f).trans g.2,d.cell c.c9 (fun k=>c.ap k.symm),(World.frozen?_of_block (a:=⟨bn,9,none⟩) (d.block bn c.lo.2 (fun k=>c.ap k.symm))).trans (c.fz 9),fun b z k=>?_⟩;refine (d.block b (Nat.lt_of_lt_of_le z f.size) (fun e=>k ?_)).trans (f.block b z);exact Or.inr (Or.inr ⟨_,h.c9,e.symm⟩)
theorem OW (K:Nat):∀ (k:Nat) (v:Value) (l:List D) (w0:World) (cs:List Value) (bn:Nat) (cv:Value) (n:Nat) (xs ds:List Value) (W:World),AI w0 K k v l->LI w0 cs bn cv n xs ds W->n+Ai k l<=1000 ->
  Calls Tryz.prog 137 #[zj (some ⟨bn,0,none⟩),v] W fun e W'=>e=zk (zm #[])/\∃ cv' ys,LI w0 cs bn cv' (n+Ai k l) (xs++ys) ds W'/\Ca w0 K k ys (BQ k l n)/\FrW (XL bn) W W':=by
 intro k
 induction k with
 | zero=>
  intro v l w0 cs bn cv n xs ds W h R hn;have h0:=h.zero;subst h0;obtain ⟨hm,ao,bf,rfl,-⟩:=h;have HI:=Aa R;clear hm hn R;go_enter Tryz.func137,Tryz.ntmps137;go_wp2_with fail;go_loopw [9] (fun i wr=>i=zd U 0/\wr=W) (fun _ _=>0)
  case atStart=>exact ⟨rfl,rfl⟩
  case round=>
   obtain ⟨rfl,rfl⟩:=hrel;go_wp2_with fail;go_end0;exact ⟨rfl,cv,[],by simpa [Ai] using HI.o,Ca.nil,FrW.refl _⟩
 | succ k ih=>
  intro v l w0 cs bn cv n xs ds W h R hn;obtain ⟨hm,ao,bf,rfl,hc⟩:=h;have HC:=Aa hc;have IH:=Aa ih;have HI:=Aa R;have ej:l.length<=9223372036854775807:=hm;have HN:=Aa hn;clear hc ih hm R hn;go_enter Tryz.func137,Tryz.ntmps137;go_wp2_with fail;go_loopw [9] (fun i wr=>∃ j:Nat,j<=l.length/\i=zd U j/\∃ cv' ys,LI w0 cs bn cv' (n+Ai (k+1) (l.take j)) (xs++ys) ds wr/\Ca w0 K (k+1) ys (BQ (k+1) (l.take j) n)/\FrW (XL bn) W wr) (fun i _=>l.length - (intOf i).toNat)
  case atStart=>exact ⟨0,Nat.zero_le _,rfl,cv,[],by simpa [Ai] using HI.o,Ca.nil,FrW.refl _⟩
  case round=>
   obtain ⟨j,hj,rfl,cv',Q,R,hE,hF⟩:=hrel;by_cases hjl:j < l.length
   ·obtain ⟨b,off,rfl,bv⟩:=HC.o (by rintro rfl;simp at hjl)
    obtain ⟨ev,cq,bw,hr⟩:=bv j l[j] (List.getElem?_eq_getElem hjl);have az:Hx (Ai (k+1) (l.take (j+1))=Ai (k+1) (l.take j)+BD (k+1) l[j]/\Ai (k+1) (l.take (j+1))<=Ai (k+1) l):=⟨DP hjl,by
     have h1:Ai (k+1) l=Ai (k+1) (l.take (j+1))+Ai (k+1) (l.drop (j+1)):=by
      unfold Ai;rw [<-List.sum_append,<-List.map_append,List.take_append_drop]
     omega⟩
    have ax:Hx (BQ (k+1) (l.take (j+1)) n=BQ (k+1) (l.take j) n++Lo (k+1) l[j] (n+Ai (k+1) (l.take j))):=by
     show BQ (k+1) (l.take (j+1)) n=_;rw [List.take_succ_eq_append_getElem hjl,JX,JV]
    obtain ⟨d,hd⟩:=nm (l[j]);rw [<-hd] at hr az ax;have HR:=Aa hr;obtain ⟨G,E,t,q,s,N,M,A,z,I,H,rfl,i0,i1,i2,hX,hA,hT,be,-,-,-⟩:=hr.form;obtain ⟨c0,c1,c2,c3,c4,c5,c6,c7,c8⟩:=rc9 bw;obtain ⟨c0,c1,c2,c3,c4,c5,c6,c7,c8⟩:=co9 R.below c0 c1 c2 c3 c4 c5 c6 c7 c8;replace c0:wr.cell? ⟨b,off+j*9,none⟩=_:=c0;obtain ⟨C,bu⟩:=nm (Af d);obtain ⟨va,bk⟩:=nm (Ax d);obtain ⟨B,bp⟩:=nm (Ae d);obtain ⟨J,bz⟩:=nm ((Al d).length);obtain ⟨y,bl⟩:=nm ((Ag d).length);obtain ⟨F,a0⟩:=nm ((Ak d).length);rw [<-bu] at c0 HR;rw [<-bk] at c1 HR;rw [<-bp] at c2 HR;rw [<-bz] at c6 HR;rw [<-bl] at c7 HR hT;rw [<-a0] at c8 HR be;obtain ⟨oa,on,oc,rfl⟩:=AG R.own;have a8:on=n+Ai (k+1) (l.take j):=by
     rcases R.own.2 with ⟨he,h0⟩ | ⟨g,a3,dc,he,-⟩
     ·injection he with e1 S e3;omega
     ·injection he with e1 S e3
    rw [<-a8] at R ax;have av:Ov wr (wr.alloc (ze #[zd U C,zd U va,zd U B,zd U G,zd U E,O t q s,O N J M,O A y z,O I F H] 130)):=bA _ _;obtain ⟨V,hV⟩:=nm (wr.alloc (ze #[zd U C,zd U va,zd U B,zd U G,zd U E,O t q s,O N J M,O A y z,O I F H] 130));have aw:=R.over av;have y9:=aw.c9;have bm:=Ad.newA #[zd U C,zd U va,zd U B,zd U G,zd U E,O t q s,O N J M,O A y z,O I F H] 130 wr;have T:Hx (¬ XL bn V wr.heap.size/\wr.heap.size < V.heap.size):=by
     refine ⟨fun hx=>?_,by rw [hV];simp⟩;rw [hV] at hx;have:=R.xlt _ ((Ia bn).below _ _ av _ hx);omega
    have ah:Hx (LI w0 cs bn (O oa on oc) on (xs++Q) ds V):=by rw [hV];exact aw
    have bi:Hx (FrW (XL bn) W V):=by rw [hV];exact hF.trans (FrW.of_below (Ia bn) av)
    have bh:Hx (Ad [zd U C,zd U va,zd U B,zd U G,zd U E,O t q s,O N J M,O A y z,O I F H] V wr.heap.size):=by rw [hV];exact bm
    have HT:=Aa hT;have ay:=Aa be;have HE:=Aa hE;have ar:Hx (on+BD (k+1) d<=1000):=by have h1:=az.o;have h2:=HN.o;show on+BD (k+1) d<=1000;omega
    have br:on<=1000:=by have:=ar.o;omega
    have b8:=Aa a8;have dm:Hx ((xs++Q).length=on*10):=aw.own.1;clear R hE hF bv bw cq hr hd bu bk bp bz bl a0 aw bm av hX hA hT be i0 i1 i2 a8 HC;go_wp2_with fail;rw [<-hV];clear hV y9 c0 c1 c2 c3 c4 c5 c6 c7 c8;refine CG (fun a4 Wn=>∃ (y10 y11 y12 y13 y14 y15 y16 y17 y18 y19 y20 y21 y22 y23 y24 y25 y26 y27 y28:Value) (v2:Value),a4={ tmps:=#[zj (some ⟨bn,0,none⟩),O (some ⟨b,off,none⟩) l.length bf,undef,undef,undef,zj (some ⟨wr.heap.size,0,none⟩),zd U (on:Int),O (some ⟨b,off,none⟩) l.length bf,zd U (l.length:Int),zd U (j:Int),y10,y11,y12,y13,y14,y15,y16,y17,y18,y19,y20,y21,y22,y23,y24,y25,y26,y27,y28,u29,u30,u31,u32,u33,u34,u35,u36,u37,u38,u39,u40,u41,u42,u43,u44,u45,u46,u47,u48,u49],defers:=[] }/\LI w0 cs bn v2 (on+1) ((xs++Q)++([zd U C,zd U va,zd U B,zd U G,zd U E,O t q s,O N J M,O A y z,O I F H]++[zd U 0])) ds Wn/\FrW (XL bn) V Wn) ?_ ?_
    ·obtain ⟨v2,P,ai,p,af,x9,f9,am⟩:=listed w0 cs bn oa on oc (xs++Q) ds V.drew (ah.o.over (bD V)) br [zd U C,zd U va,zd U B,zd U G,zd U E,O t q s,O N J M,O A y z,O I F H] rfl (by simp [Value.oneCell'])
     obtain ⟨a2,n2,S,rfl⟩:=AG p.own;have a1:FrW (XL bn) V (P.setCell ⟨bn,9,none⟩ (O a2 n2 S)):=(FrW.of_below (Ia bn) (bD V)).trans af;have z0:=(ah.o.over (bD V)).c9;have z1:=ah.o.c9;have z2:=(ah.o.over ((bD V).alloc (Nat.le_refl _) (ze #[zd U C,zd U va,zd U B,zd U G,zd U E,O t q s,O N J M,O A y z,O I F H,zd U 0] 249))).c9;have z3:=Ab (bA V (ze #[zd U C,zd U va,zd U B,zd U G,zd U E,O t q s,O N J M,O A y z,O I F H,zd U 0] 249)) _ _ z1;have aj:Ad [zd U C,zd U va,zd U B,zd U G,zd U E,O t q s,O N J M,O A y z,O I F H] V.drew wr.heap.size:=bh.o.over (bD V);have a6:¬ XL bn V.drew wr.heap.size:=fun e=>T.o.1 ((Ia bn).below _ _ (bD V) _ e);have bt:wr.heap.size < V.drew.heap.size:=T.o.2;have b1:CE V.drew wr.heap.size 0 (zd U C)/\CE V.drew wr.heap.size 1 (zd U va)/\CE V.drew wr.heap.size 2 (zd U B)/\CE V.drew wr.heap.size 3 (zd U G)/\CE V.drew wr.heap.size 4 (zd U E)/\CE V.drew wr.heap.size 5 (O t q s)/\CE V.drew wr.heap.size 6 (O N J M)/\CE V.drew wr.heap.size 7 (O A y z)/\CE V.drew wr.heap.size 8 (O I F H):=rc9 aj;have bb:CE (V.drew.alloc (ze #[zd U C,zd U va,zd U B,zd U G,zd U E,O t q s,O N J M,O A y z,O I F H,zd U 0] 249)) wr.heap.size 0 (zd U C)/\CE (V.drew.alloc (ze #[zd U C,zd U va,zd U B,zd U G,zd U E,O t q s,O N J M,O A y z,O I F H,zd U 0] 249)) wr.heap.size 1 (zd U va)/\CE (V.drew.alloc (ze #[zd U C,zd U va,zd U B,zd U G,zd U E,O t q s,O N J M,O A y z,O I F H,zd U 0] 249)) wr.heap.size 2 (zd U B)/\CE (V.drew.alloc (ze #[zd U C,zd U va,zd U B,zd U G,zd U E,O t q s,O N J M,O A y z,O I F H,zd U 0] 249)) wr.heap.size 3 (zd U G)/\CE (V.drew.alloc (ze #[zd U C,zd U va,zd U B,zd U G,zd U E,O t q s,O N J M,O A y z,O I F H,zd U 0] 249)) wr.heap.size 4 (zd U E)/\CE (V.drew.alloc (ze #[zd U C,zd U va,zd U B,zd U G,zd U E,O t q s,O N J M,O A y z,O I F H,zd U 0] 249)) wr.heap.size 5 (O t q s)/\CE (V.drew.alloc (ze #[zd U C,zd U va,zd U B,zd U G,zd U E,O t q s,O N J M,O A y z,O I F H,zd U 0] 249)) wr.heap.size 6 (O N J M)/\CE (V.drew.alloc (ze #[zd U C,zd U va,zd U B,zd U G,zd U E,O t q s,O N J M,O A y z,O I F H,zd U 0] 249)) wr.heap.size 7 (O A y z)/\CE (V.drew.alloc (ze #[zd U C,zd U va,zd U B,zd U G,zd U E,O t q s,O N J M,O A y z,O I F H,zd U 0] 249)) wr.heap.size 8 (O I F H):=rc9 (aj.over (bA _ _));have ae:CE P wr.heap.size 0 (zd U C)/\CE P wr.heap.size 1 (zd U va)/\CE P wr.heap.size 2 (zd U B)/\CE P wr.heap.size 3 (zd U G)/\CE P wr.heap.size 4 (zd U E)/\CE P wr.heap.size 5 (O t q s)/\CE P wr.heap.size 6 (O N J M)/\CE P wr.heap.size 7 (O A y z)/\CE P wr.heap.size 8 (O I F H):=rc9 (Bl (k:=0) aj (am _ bt a6));have b0:CE (P.setCell ⟨bn,9,none⟩ (O a2 n2 S)) wr.heap.size 0 (zd U C)/\CE (P.setCell ⟨bn,9,none⟩ (O a2 n2 S)) wr.heap.size 1 (zd U va)/\CE (P.setCell ⟨bn,9,none⟩ (O a2 n2 S)) wr.heap.size 2 (zd U B)/\CE (P.setCell ⟨bn,9,none⟩ (O a2 n2 S)) wr.heap.size 3 (zd U G)/\CE (P.setCell ⟨bn,9,none⟩ (O a2 n2 S)) wr.heap.size 4 (zd U E)/\CE (P.setCell ⟨bn,9,none⟩ (O a2 n2 S)) wr.heap.size 5 (O t q s)/\CE (P.setCell ⟨bn,9,none⟩ (O a2 n2 S)) wr.heap.size 6 (O N J M)/\CE (P.setCell ⟨bn,9,none⟩ (O a2 n2 S)) wr.heap.size 7 (O A y z)/\CE (P.setCell ⟨bn,9,none⟩ (O a2 n2 S)) wr.heap.size 8 (O I F H):=rc9 (af.row aj a6);have ab:Hx (LI w0 cs bn (O a2 n2 S) (on+1) ((xs++Q)++([zd U C,zd U va,zd U B,zd U G,zd U E,O t q s,O N J M,O A y z,O I F H]++[zd U 0])) ds (P.setCell ⟨bn,9,none⟩ (O a2 n2 S))/\FrW (XL bn) V (P.setCell ⟨bn,9,none⟩ (O a2 n2 S))):=⟨p,a1⟩;clear p af a1 am aj a6 bt ah bi bh T HT ay HE ar b8 az ax HR IH HI HN;simp only [List.cons_append,List.nil_append] at ai;refine gS (fun Wz=>CE Wz wr.heap.size 0 (zd U C)/\CE Wz wr.heap.size 1 (zd U va)/\CE Wz wr.heap.size 2 (zd U B)/\CE Wz wr.heap.size 3 (zd U G)/\CE Wz wr.heap.size 4 (zd U E)/\CE Wz wr.heap.size 5 (O t q s)/\CE Wz wr.heap.size 6 (O N J M)/\CE Wz wr.heap.size 7 (O A y z)/\CE Wz wr.heap.size 8 (O I F H)) b1 fun c=>?_;refine kT 0 ?_;refine kT 1 ?_;refine kT 2 ?_;refine kT 3 ?_;refine kT 5 ?_;refine kT 6 ?_;refine rdB 4 7 rfl (fun K f=>?_) rfl fun K f=>?_
     ·go_simp
      refine xK f b1 fun c=>?_;clear f K;refine rdA 7 rfl fun K f=>?_;go_simp;refine xK f bb fun c=>?_;clear f K;refine rdA 8 rfl fun K f=>?_;refine Cb rfl _ _ _ rfl _ _ _ _ rfl rfl ai ?_;refine xK f ae fun c=>?_;clear f K;refine rdA 9 rfl fun K f=>?_;go_simp;refine xK f ae fun c=>?_;clear f K;refine rdA 10 rfl fun K f=>?_;go_simp;refine xK f ae fun c=>?_;clear f K;refine rdA 11 rfl fun K f=>?_;go_simp;refine xK f b0 fun c=>?_;clear f K;refine gE ?_;exact AK ⟨_,_,_,_,_,_,_,_,_,_,_,_,_,_,_,_,_,_,_,_,rfl,ab.o.1,ab.o.2⟩
     ·go_simp
      refine xK f bb fun c=>?_;clear f K;refine rdA 4 rfl fun K f=>?_;go_simp;refine xK f bb fun c=>?_;clear f K;refine rdA 8 rfl fun K f=>?_;refine Cb rfl _ _ _ rfl _ _ _ _ rfl rfl ai ?_;refine xK f ae fun c=>?_;clear f K;refine rdA 9 rfl fun K f=>?_;go_simp;refine xK f ae fun c=>?_;clear f K;refine rdA 10 rfl fun K f=>?_;go_simp;refine xK f ae fun c=>?_;clear f K;refine rdA 11 rfl fun K f=>?_;go_simp;refine xK f b0 fun c=>?_;clear f K;refine gE ?_;exact AK ⟨_,_,_,_,_,_,_,_,_,_,_,_,_,_,_,_,_,_,_,_,rfl,ab.o.1,ab.o.2⟩
    ·rintro a4 Wn ⟨y10,y11,y12,y13,y14,y15,y16,y17,y18,y19,y20,y21,y22,y23,y24,y25,y26,y27,y28,v2,rfl,hL,an⟩
     have a7:=an.row bh.o T.o.1;have dh:Hx (¬ XL bn Wn wr.heap.size/\wr.heap.size < Wn.heap.size):=⟨fun e=>T.o.1 (an.mov _ T.o.2 e),Nat.lt_of_lt_of_le T.o.2 an.size⟩;have KT:=Aa (IH.o _ (Ag d) w0 cs bn v2 (on+1) _ ds Wn HT.o hL (by have h1:=ar.o;rw [AU] at h1;omega));have dl:=Aa a7;have d7:=a7 7 _ rfl;have b9:Hx (FrW (XL bn) W Wn):=bi.o.trans an;clear a7 hL an ah bi;go_wp2_with fail;refine KT.o.mono ?_;rintro e W1 ⟨rfl,db,zT,b2,b4,bd⟩;have bo:=bd.row dl.o dh.o.1;have KE:=Aa (IH.o _ (Ak d) w0 cs bn db (on+1+Ai k (Ag d)) _ ds W1 ay.o b2 (by have h1:=ar.o;rw [AU] at h1;omega));have d8:=bo 8 _ rfl;have ca:Hx (FrW (XL bn) W W1):=b9.o.trans bd;have cb:=Aa b4;clear bo b2 bd b4 d7 KT b9;go_wp2_with fail;refine KE.o.mono ?_;rintro e W2 ⟨rfl,da,zE,p,b3,af⟩;obtain ⟨g,Z,rfl⟩:∃ g Z,da=O (some ⟨g,0,none⟩) (on+1+Ai k (Ag d)+Ai k (Ak d)) Z:=by
      rcases p.own.2 with ⟨he,h0⟩ | ⟨g,a3,dc,he,-⟩
      ·omega
      ·exact ⟨g,a3,he⟩
     have Y:(xs++Q).length=on*10:=dm.o;replace p:=p.over (bD W2);have cu:W2.drew.cell? ⟨g,on*10+9,none⟩=some (zd U 0):=by
      rw [p.own.cellAt (on*10+9) (by omega),List.append_assoc,List.append_assoc,List.getElem?_append_right (by omega),Y,Nat.add_sub_cancel_left];rfl
     have eo:=p.own.frozenAt (on*10+9);have ak:=p.put (j:=on*10+9) (u:=zd U ((on+1+Ai k (Ag d)+Ai k (Ak d):Nat):Int));have e9:=p.c9;have ct:g≠bn:=fun e=>p.ap (by rw [<-e];rfl);have b6:=Aq (b:=g) (j:=on*10+9) (v:=zd U ((on+1+Ai k (Ag d)+Ai k (Ak d):Nat):Int)) e9 (fun h=>ct h.1);have HM:Hx (on+1+Ai k (Ag d)+Ai k (Ak d)=n+Ai (k+1) (l.take (j+1))/\on+1+Ai k (Ag d)+Ai k (Ak d)=on+BD (k+1) d):=by
      have h1:=az.o;have h2:=b8.o;have h3:=AU k d;exact ⟨by omega,by omega⟩
     have X:Hx (∃ ys,LI w0 cs bn (O (some ⟨g,0,none⟩) (on+1+Ai k (Ag d)+Ai k (Ak d)) Z) (n+Ai (k+1) (l.take (j+1))) (xs++ys) ds (W2.drew.setCell ⟨g,on*10+9,none⟩ (zd U ((on+1+Ai k (Ag d)+Ai k (Ak d):Nat):Int)))/\Ca w0 K (k+1) ys (BQ (k+1) (l.take (j+1)) n)/\FrW (XL bn) W (W2.drew.setCell ⟨g,on*10+9,none⟩ (zd U ((on+1+Ai k (Ag d)+Ai k (Ak d):Nat):Int)))):=by
      refine ⟨Q++(([zd U C,zd U va,zd U B,zd U G,zd U E,O t q s,O N J M,O A y z,O I F H]++[zd U ((on+1+Ai k (Ag d)+Ai k (Ak d):Nat):Int)])++(zT++zE)),?_,?_,((ca.o.trans af).trans (FrW.of_below (Ia bn) (bD W2))).trans ak.2⟩
      ·have h1:=ak.1
       rw [List.append_assoc,List.append_assoc,show on*10+9=(xs++Q).length+9 by rw [Y],PG rfl,List.append_assoc] at h1;rw [<-HM.o.1,Y] at *;exact h1
      ·rw [ax.o,CJ]
       refine HE.o.app (Ca.app (L:=[_]) ?_ (Ca.app (cb.o.mono (Nat.le_succ _)) (b3.mono (Nat.le_succ _))));rw [HM.o.2];exact Ca.one rfl HR.o
     obtain ⟨mm,bs⟩:=nm (on+1+Ai k (Ag d)+Ai k (Ak d));have eh:(on:Int) < (mm:Int):=by omega
     have ei:mm<=1000:=by have h1:=ar.o;have h2:=HM.o.2;omega
     rw [<-bs] at e9 b6 X;clear ak p b3 af Y bs HM ca cb KE d8;have em:(j:Int)+1<=(l.length:Int):=by omega
     go_wp2_with fail;refine gS (fun Wz=>CE Wz bn 9 (O (some ⟨g,0,none⟩) mm Z)) e9 fun c=>?_;refine kT 0 ?_;refine kT 1 ?_;refine kT 2 ?_;refine kT 3 ?_;refine kT 4 ?_;refine kT 5 ?_;refine kT 6 ?_;refine kT 7 ?_;refine kT 8 ?_;refine kT 9 ?_;refine kT 10 ?_;refine kT 11 ?_;refine rdA 12 rfl fun K f=>?_;go_simp;refine xK f b6 fun c=>?_;clear f K;refine gE ?_;obtain ⟨co,f1,f2,f3⟩:=X.o;have dk:=Aa f1;have dj:=Aa f2;have di:=Aa f3;clear f1 f2 f3 X;go_wp2_with fail;exact ⟨⟨j+1,by omega,by go_num,_,co,dk.o,dj.o,di.o⟩,by simp [intOf];omega⟩
   ·have cr:j=l.length:=by omega
    subst cr;rw [List.take_length] at R hE;have dn:=Aa R;have ay:=Aa hE;have dq:=Aa hF;clear R hE hF HC;go_wp2_with fail;go_end0;exact ⟨rfl,cv',Q,dn.o,ay.o,dq.o⟩
end Go.Proofs.YtfffpjkcfnekaaaGreat.Ex
