/- What a channel needs: where the rounds begin. -/
import Derived.Test.YtfffpjkcfnekaaaGreatG40
import Derived.Test.YtfffpjkcfnekaaaGreatG37
set_option linter.unusedVariables false
set_option maxHeartbeats 8000000
set_option maxRecDepth 100000
namespace Go.Proofs.YtfffpjkcfnekaaaGreat.Ex
open Go.RowKit
open Go.Value renaming slice -> O, int -> zd, bool -> ze, agg -> zg, pointer -> zi, tuple -> zj
open Go.IntKind renaming i64 -> U
open Go.Obj renaming cells -> zf
open Go.Ending renaming returned -> zh
theorem CC:∀ (k:Nat) (l:List D) (a:Nat) (x) ,x∈Bp k l a->x.1+1<=x.2.2/\x.2.2<=a+Ai k l
 | k,[],a,x,h=>by cases h
 | 0,d::r,a,x,h=>by
  rw [Bc] at h
  have:=CC 0 r _ x h
  rw [Bm]
  omega
 | k+1,d::r,a,x,h=>by
  rw [Bc,List.mem_append,A8,List.mem_cons,List.mem_append] at h
  rw [Bm,AR]
  rcases h with (rfl | h | h) | h
  ·dsimp only;rw [AR];omega
  ·have:=CC k _ _ x h;omega
  ·have:=CC k _ _ x h;omega
  ·have:=CC (k+1) r _ x h;rw [AR] at this;omega
theorem Ja {kf:Nat} {fs:List FnD} {l:List D} (x) (h:x∈B8 kf fs l):x.1+1<=x.2.2/\x.2.2<=Am kf fs+Ai kf l:=by
 rcases List.mem_append.1 h with h | h
 ·obtain ⟨i,hi,hx⟩:=Fm h
  have h1:=CC _ _ _ x hx
  have h2:=B7 (k:=kf) hi
  have h3:=(FB (k:=kf) hi).2
  omega
 ·have h1:=CC _ _ _ x h
  omega
theorem L8 {K kf:Nat} {m:Int} {ga:Option Addr} {gn gc:Nat} {sa:Option Addr} {sn sc:Nat} {ya:Option Addr} {yn yc:Nat} {oa:Option Addr} {on oc:Nat} {va:Option Addr} {vn vc:Nat} {fa:Option Addr} {fn fc:Nat} {ba:Option Addr} {bn bc:Nat} {gs:List (Int × Int)} {sp:List Int} {ls ms:List Lab} {vs:List (Bool × Lab)} {fs:List FnD} {l:List D} {w:World}
  (h:A1 K kf m ga gn gc sa sn sc ya yn yc oa on oc va vn vc fa fn fc ba bn bc gs sp ls ms vs fs l w) (hX:Ey.xP K kf m vn yn on sn gs sp ls ms vs fs l) :
  NP w K kf [zd U m,O ga gn gc,O sa sn sc,O ya yn yc,O oa on oc,O va vn vc,O fa fn fc,O ba bn bc] fs (B8 kf fs l) vn yn (Am kf fs+Ai kf l):=by
 have hl:=hX.lim
 have hm:=hX.many.1
 refine ⟨⟨fa,fn,fc,rfl,h.funcs⟩,⟨by omega,by omega,by omega,by omega,by rw [DE];omega⟩,fun f hf=>?_,fun x hx=>?_,by omega⟩
 ·obtain ⟨i,hi,rfl⟩:=List.mem_iff_getElem.1 hf
  obtain ⟨h1,h2,h3,h4,h5⟩:=hX.body i hi
  exact ⟨by omega,h2,fun v hv=>BP h5 v hv⟩
 ·obtain ⟨fu,h1,h2⟩:=Fj hX x hx
  have h3:=Ja x hx
  exact ⟨⟨fu,on,h1,h2.1⟩,h3.1,h3.2,by omega⟩
structure Hp (w0 W X Y:World) (b n i g:Nat) (cs:List Value):Prop where
 old:Af cs X b
 row:Af (cs.set i (O (some ⟨g,0,none⟩) n n)) Y b
 other:∀ (ds:List Value) (k:Nat),k≠b->Af ds W k->Af ds Y k
 new:Af ((List.replicate n false).map Value.bool) Y g
 fz:∀ k j,k < W.heap.size->Y.frozen? ⟨k,j,none⟩=W.frozen? ⟨k,j,none⟩
 fzN:∀ j,Y.frozen? ⟨g,j,none⟩=false
 fzX:∀ j,X.frozen? ⟨b,j,none⟩=W.frozen? ⟨b,j,none⟩
 size:Y.heap.size=W.heap.size+1
 below:Ov w0 Y
 block:∀ k,k < W.heap.size->k≠b->Y.heap[k]? = W.heap[k]?
theorem IJ (w0 W X Y:World) (b n i g:Nat) (cs:List Value) (hr:Af cs W b) (hi:i < cs.length) (hb:b < W.heap.size) (hlo:w0.heap.size<=b) (hB:Ov w0 W) (hX:X=W.alloc (.cells (Cs n) 4)) (hg:g=W.heap.size) (hY:Y=X.setCell ⟨b,i,none⟩ (O (some ⟨g,0,none⟩) n n)):Hp w0 W X Y b n i g cs:=by
 have hbX:Ov W X:=by rw [hX];exact bA _ _
 have hrX:=hr.over hbX
 have hsX:X.heap.size=W.heap.size+1:=by rw [hX];simp
 have hsY:Y.heap.size=W.heap.size+1:=by rw [hY,<-hsX];simp [World.setCell]
 have hgb:g≠b:=by omega
 refine ⟨hrX,by rw [hY];exact hrX.set hi,fun ds k hk h=>by rw [hY];exact Af.other (h.over hbX) hk,?_,fun k j hk=>by rw [hY,Ay];exact (AM hbX).2 _ _ hk,fun j=>?_,fun j=>(AM hbX).2 _ _ hb,hsY,?_,fun k hk hkb=>?_⟩
 ·rw [hY]
  refine Af.other ?_ hgb
  rw [hX,hg]
  exact GM n W
 ·rw [hY,Ay,hX,hg]
  simp [go_sem]
 ·rw [hY]
  exact (hB.trans (hbX.mono hB.size)).setCell hlo _
 ·rw [hY,A3 (Ne.symm hkb)]
  exact hbX.block k hk
section
variable {w0 W4 X5 Y5 X6 Y6 X7 Y7:World} {pc:List Value} {ch:Int} {b g1 g2 g3 vn yn N:Nat} {cv fv:Value} {xs ys:List Value} {k:Nat}
theorem NI.start (hlen:pc.length=8) (hF:LF w0 (pc++[zd U ch]) b cv N xs fv k ys [O none 0 0,O none 0 0,O none 0 0,ze false] W4) (hg1:g1=W4.heap.size) (hg2:g2=Y5.heap.size) (hg3:g3=Y6.heap.size)
  (h5:Hp w0 W4 X5 Y5 b vn 11 g1 ((pc++[zd U ch])++cv::[fv,O none 0 0,O none 0 0,O none 0 0,ze false])) {c6:List Value} (h6:Hp w0 Y5 X6 Y6 b yn 12 g2 c6) {c7:List Value} (h7:Hp w0 Y6 X7 Y7 b N 13 g3 c7) (hc6:c6=((pc++[Value.int U ch])++cv::[fv,O none 0 0,O none 0 0,O none 0 0,ze false]).set 11 (O (some ⟨g1,0,none⟩) vn vn)) (hc7:c7=c6.set 12 (O (some ⟨g2,0,none⟩) yn yn)) :
  NI w0 pc ch cv fv b g1 g2 g3 (ns0 vn yn N) (Y7.setCell ⟨b,14,none⟩ (ze true))/\(∀ q,q < W4.heap.size->q≠b->(Y7.setCell ⟨b,14,none⟩ (ze true)).heap[q]? = W4.heap[q]?)/\∀ q,q < W4.heap.size->q≠b->∀ X,¬ XN b g1 g2 g3 X q:=by
 have hL:=hF.li
 have s5:=h5.size
 have s6:=h6.size
 have s7:=h7.size
 have hb:=hL.lo.2
 have hlo:=hL.lo.1
 have hw:=hL.below.size
 refine ⟨⟨h7.below.setCell hlo _,?_,hlen,?_,?_,?_,fun q hq=>?_,by omega⟩,fun q hq hqb=>?_,fun q hq hqb X=>?_⟩
 ·have h1:=h7.row.set (j:=14) (v:=ze true) (by rw [hc7,hc6];simp [hlen])
  rw [hc7,hc6] at h1
  have e:∀ a0 a1 a2 a3:Value,(((((pc++[Value.int U ch])++cv::[fv,O none 0 0,O none 0 0,O none 0 0,ze false]).set 11 a0).set 12 a1).set 13 a2).set 14 a3=pc++[zd U ch,cv,fv,a0,a1,a2,a3]:=fun a0 a1 a2 a3=>by
   rw [List.append_assoc]
   simp [hlen]
  rw [e] at h1
  simpa [ns0] using h1
 ·exact Af.other (h7.other _ _ (by omega) (h6.other _ _ (by omega) h5.new)) (by omega)
 ·exact Af.other (h7.other _ _ (by omega) h6.new) (by omega)
 ·exact Af.other h7.new (by omega)
 ·have hs:(Y7.setCell ⟨b,14,none⟩ (ze true)).heap.size=Y7.heap.size:=by simp [World.setCell]
  rw [hs]
  rcases hq with rfl | rfl | rfl | rfl
  ·exact ⟨hlo,by omega,fun j=>Ay.trans ((h7.fz _ j (by omega)).trans ((h6.fz _ j (by omega)).trans ((h5.fz _ j hb).trans (hL.fz j))))⟩
  ·exact ⟨by omega,by omega,fun j=>Ay.trans ((h7.fz _ j (by omega)).trans ((h6.fz _ j (by omega)).trans (h5.fzN j)))⟩
  ·exact ⟨by omega,by omega,fun j=>Ay.trans ((h7.fz _ j (by omega)).trans (h6.fzN j))⟩
  ·exact ⟨by omega,by omega,fun j=>Ay.trans (h7.fzN j)⟩
 ·rw [A3 (Ne.symm hqb),h7.block q (by omega) hqb,h6.block q (by omega) hqb,h5.block q hq hqb]
 ·rintro (h | h | h | h) <;> omega
theorem Io {kf:Nat} {fs:List FnD} {cs rest:List Value} {V8:World} (hF:LF w0 cs b cv N xs fv (fs.length+1) ((List.range (fs.length+1)).map (fun i=>Value.int U ((Am kf (fs.take i):Nat):Int))) rest W4) (hk:∀ q,q < W4.heap.size->q≠b->V8.heap[q]? = W4.heap[q]?) (hx:∀ q,q < W4.heap.size->q≠b->∀ X,¬ XN b g1 g2 g3 X q) :
  DM kf fs fv V8/\∀ c n d,fv=O (some ⟨c,0,none⟩) n d->¬ XN b g1 g2 g3 V8 c:=by
 have ho:=hF.own
 obtain ⟨g,cap,hv⟩:∃ g cap,fv=O (some ⟨g,0,none⟩) (fs.length+1) cap:=by
  rcases ho.2 with ⟨he,h0⟩ | ⟨g,cap',cur,he,-⟩
  ·omega
  ·exact ⟨g,cap',he⟩
 have hlt:=Cv ho
 subst hv
 have hg:=(hlt g rfl).2
 have hgb:g≠b:=fun e=>hF.ap (by rw [<-e];rfl)
 refine ⟨⟨g,cap,rfl,fun i hi=>?_⟩,fun c n d he=>?_⟩
 ·rw [World.cell?_of_block (a:=⟨g,i,none⟩) (hk g hg hgb),ho.cellAt i (by omega),List.getElem?_map,List.getElem?_range (by omega)]
  rfl
 ·injection he with e1
  injection e1 with e1
  injection e1 with e1
  rw [<-e1]
  exact hx g hg hgb _
theorem GQ {K kf:Nat} {C:List (Nat × D × Nat)} {cs ds:List Value} {V8:World} (hL:LI w0 cs b cv N xs ds W4) (hE:Bx w0 K kf xs C) (hN:C.length=N) (hk:∀ q,q < W4.heap.size->q≠b->V8.heap[q]? = W4.heap[q]?) (hx:∀ q,q < W4.heap.size->q≠b->∀ X,¬ XN b g1 g2 g3 X q):EL w0 K kf (XN b g1 g2 g3 V8) cv C V8:=by
 have ho:=hL.own
 subst hN
 rcases ho.2 with ⟨he,h0⟩ | ⟨g,cap',cur,he,-⟩
 ·exact ⟨none,0,by rw [he,h0],fun hne=>absurd (List.eq_nil_of_length_eq_zero h0) hne⟩
 ·have hlt:=Cv ho
  have hap:=hL.ap
  subst he
  have hg:=(hlt g rfl).2
  have hgb:g≠b:=fun e=>hap (by rw [<-e];rfl)
  refine ⟨_,_,rfl,fun _=>⟨g,rfl,hx g hg hgb _,fun i x hix=>?_⟩⟩
  obtain ⟨c9,h1,h2,h3⟩:=hE.2 i x hix
  refine ⟨c9,h1,h2,fun j u hu=>?_⟩
  have hu2:=h3 j u hu
  have hlx:i*10+j < C.length*10:=by rw [<-ho.1];exact (List.getElem?_eq_some_iff.1 hu2).1
  rw [World.cell?_of_block (a:=⟨g,i*10+j,none⟩) (hk g hg hgb),ho.cellAt _ hlx]
  exact hu2
end
def PFn (nd:List Bool) (K kf:Nat) (fs:List FnD) (i:Nat) (cs:List Value) (X:World):Prop:=∀ g,(Bi nd kf fs)[i]? = some g->∃ vP vB x0 x1 x2,cs=[vP,vB,x0,x1,x2]/\Ar X vP g.ps/\Kw vP g.ps/\AC X K kf vB g.body/\RX X K [x0,x1,x2] g.res
theorem LP (K kf bs:Nat) (nd:List Bool) (hnl:nd.length<=1000) (fa:Option Addr) (fc:Nat) (fs:List FnD) (w0 W:World) (bc bq:Nat) (hf:AP w0 K kf (O fa fs.length fc) fs) (hn:fs.length<=100) (hsm:∀ f∈fs,f.ps.length<=1000/\(∀ d∈f.body,Gg K kf d)/\(AJ K f.res).length<=15)
  (hw:Ov w0 W) (hlo:w0.heap.size<=bc) (hC:CI bs nd bc 0 W) (hbs:bs < W.heap.size\/nd=[]) (ha:Am kf fs<=nd.length) (hq:W.cell? ⟨bq,0,none⟩=some (zi (some ⟨bc,0,none⟩))) (hqc:bq≠bc) :
  Calls Tryz.prog 144 #[O fa fs.length fc,.func (.func 145) #[] #[zi (some ⟨bq,0,none⟩)]] W fun e W'=>∃ fa2 fc2,e=zh (O fa2 fs.length fc2)/\Off W.heap.size none W' (fun X=>AP X K kf (O fa2 fs.length fc2) (Bi nd kf fs))/\FrW (XC bc) W W'/\CI bs nd bc (Am kf fs) W':=by
 have hcap:(#[zi (some ⟨bq,0,none⟩)]:Array Value)=([zi (some ⟨bq,0,none⟩)]:List Value).toArray:=rfl
 rw [hcap]
 refine (Mn 145 [zi (some ⟨bq,0,none⟩)] (PFn nd K kf fs) (fun i X=>CI bs nd bc (Am kf (fs.take i)) X) bc fa fs.length fc w0 W hw hlo (by simpa [Am] using hC) (fun i X X' h hb=>?_) hC.lt hn (enters_of Tryz.func145 (by kernel_rfl) rfl) (fun hne=>?_)).mono ?_
 ·rcases hbs with hbs | hbs
  ·exact h.low hb hC.lt hbs
  ·subst hbs
   exact ⟨fun j u hu=>(World.cell?_of_block (a:=⟨bc,j,none⟩) (hb.block bc hC.lt)).trans (h.row j u hu),fun j=>(World.frozen?_of_block (a:=⟨bc,j,none⟩) (hb.block bc hC.lt)).trans (h.fz j),fun j u hu=>by simp at hu,h.ne⟩
 ·obtain ⟨-,ao,cap,he,hel⟩:=hf
  injection he with e1 e2 e3
  obtain ⟨b,off,hao,hel2⟩:=hel (by rintro rfl;simp at hne)
  refine ⟨b,off,e1.trans hao,fun i hi=>?_⟩
  obtain ⟨vP,vB,x0,x1,x2,c0,c1,c2,c3,c4,hP,hPs,hB,hR⟩:=hel2 i hi
  obtain ⟨pa,pc,he5,-⟩:=id hP
  obtain ⟨ba,bd,he6,-⟩:=id hB.2
  obtain ⟨xa,xc,hx⟩:=hR.form
  simp only [List.cons.injEq,and_true] at hx
  obtain ⟨y0,y1,y2⟩:=hx
  subst he5 he6 y0 y1 y2
  refine ⟨pa,_,pc,ba,_,bd,_,_,xa,_,xc,⟨c0,c1,c2,c3,c4⟩,fun X hX hJ=>?_⟩
  obtain ⟨s1,s2,s3⟩:=hsm _ (List.getElem_mem hi)
  have hct:=B7 (k:=kf) hi
  have hc2:Am kf (fs.take (i+1))<=Am kf fs:=(FB (k:=kf) hi).2
  refine (Mo K kf bs nd hnl fs[i] pa pc ba bd _ _ xa _ xc w0 X bc bq (Am kf (fs.take i)) hP s1 hB hR s3 s2 (hX.base hlo hw) hlo hJ (by omega) (hX.cell hq (fun h=>hqc h)) hqc).mono ?_
  rintro e X' ⟨qa,qc,da,dc,za,zc,rfl,hO,hq2,hF,hCI⟩
  refine ⟨qa,_,qc,da,_,dc,_,_,za,_,zc,rfl,hO.imp fun Y hY g hg=>?_,hF,by rw [hct];exact hCI⟩
  rw [Ea nd i hi] at hg
  injection hg with hg
  subst hg
  exact ⟨_,_,_,_,_,rfl,hY.1,⟨Nat.le_trans hq2.1 hq2.2,_,_,rfl,hq2.1,hq2.2⟩,hY.2.1,hY.2.2⟩
 ·rintro e W' ⟨a,c',rfl,hcop,hF,hJ⟩
  obtain ⟨a',c2,he,hoff⟩:=hcop.cells (by decide)
  injection he with x1 x2 x3
  subst x1 x3
  refine ⟨a,c',rfl,hoff.imp fun X hX=>?_,hF,by rw [List.take_length] at hJ;exact hJ⟩
  have hlen:=Ck (kf:=kf) (fs:=fs) nd
  have hg:AP X K kf (O a (Bi nd kf fs).length c') (Bi nd kf fs):=AP.of (P:=PFn nd K kf fs) (by omega) (fun hne=>by rw [hlen] at hne ⊢;exact hX hne) (fun i hi cs h=>h _ (List.getElem?_eq_getElem hi))
  rw [hlen] at hg
  exact hg
theorem Ko (K kf bs:Nat) (nd:List Bool) (m:Int) (ga gn gc sa sn sc ya yn yc oa on oc va vn vc fa fn fc ba bn bd gs sp ls ms vs fs l) (w0 w:World) (bc:Nat) (h:A1 K kf m ga gn gc sa sn sc ya yn yc oa on oc va vn vc fa fn fc ba bn bd gs sp ls ms vs fs l w0) (hS:Mj K kf gs sp ls ms vs fs l) (hnl:nd.length<=1000) (hnd:Am kf fs+Ai kf l<=nd.length)
  (hw:Ov w0 w) (hlo:w0.heap.size<=bc) (hC:CI bs nd bc 0 w) (hbs:bs < w.heap.size\/nd=[]) :
  Calls Tryz.prog 84 #[zi (some ⟨bc,0,none⟩),zg #[zd U m,O ga gn gc,O sa sn sc,O ya yn yc,O oa on oc,O va vn vc,O fa fn fc,O ba bn bd]] w fun e w'=>∃ (ga2:Option Addr) (gc2:Nat) (sa2:Option Addr) (sc2:Nat) (ya2:Option Addr) (yc2:Nat) (oa2:Option Addr) (oc2:Nat) (va2:Option Addr) (vc2:Nat) (fa2:Option Addr) (fc2:Nat) (ba2:Option Addr) (bd2:Nat),e=zh (zg #[zd U m,O ga2 gs.length gc2,O sa2 sp.length sc2,O ya2 ls.length yc2,O oa2 ms.length oc2,O va2 vs.length vc2,O fa2 fs.length fc2,O ba2 (AF nd kf l (Am kf fs)).length bd2])/\Off w.heap.size none w' (A1 K kf m ga2 gs.length gc2 sa2 sp.length sc2 ya2 ls.length yc2 oa2 ms.length oc2 va2 vs.length vc2 fa2 fs.length fc2 ba2 (AF nd kf l (Am kf fs)).length bd2 gs sp ls ms vs (Bi nd kf fs) (AF nd kf l (Am kf fs)))/\Ov w0 w':=by
 have hbc:=hC.lt
 have hfew:=hS.lab
 have hfn:fn=fs.length:=by obtain ⟨-,ao,cap,he,-⟩:=h.funcs;injection he
 have K1:Hx (∀ X,Ov w0 X->_):=fun X (hX:Ov w0 X)=>LR (O ga gn gc) gs X (Bz h.grants hX) hS.gB
 have K2:Hx (∀ X,Ov w0 X->_):=fun X (hX:Ov w0 X)=>FD (O sa sn sc) sp X (h.speak.over hX) hS.sB
 have K3:Hx (∀ X,Ov w0 X->_):=fun X (hX:Ov w0 X)=>Gk (O ya yn yc) ls X (h.ins.over hX) hS.yB (fun b hb=>hfew b (Or.inl hb))
 have K4:Hx (∀ X,Ov w0 X->_):=fun X (hX:Ov w0 X)=>Gk (O oa on oc) ms X (h.outs.over hX) hS.oB (fun b hb=>hfew b (Or.inr (Or.inl hb)))
 have K5:Hx (∀ X,Ov w0 X->_):=fun X (hX:Ov w0 X)=>JB (O va vn vc) vs X (h.vars.over hX) hS.vB (fun b hb=>hfew b.2 (Or.inr (Or.inr (List.mem_map_of_mem hb))))
 have K6:Hx (∀ X,Ov w0 X->CI bs nd bc 0 X->bs < X.heap.size\/nd=[]->X.cell? ⟨w.heap.size,0,none⟩=some (zi (some ⟨bc,0,none⟩))->_):=fun X (hX:Ov w0 X) (hc:CI bs nd bc 0 X) (hs:bs < X.heap.size\/nd=[]) (hq:X.cell? ⟨w.heap.size,0,none⟩=some (zi (some ⟨bc,0,none⟩)))=>LP K kf bs nd hnl fa fc fs w0 X bc w.heap.size (by rw [<-hfn];exact h.funcs) hS.fB hS.body hX hlo hc hs (by omega) hq (by omega)
 have K7:Hx (∀ X,Ov w0 X->CI bs nd bc (Am kf fs) X->_):=fun X (hX:Ov w0 X) (hc:CI bs nd bc (Am kf fs) X)=>Gi K bs nd hnl kf (O ba bn bd) l w0 X bc (Am kf fs) h.main hX hlo hc hnd hS.main
 have HM:=Aa h.m64
 have HSL:=Aa h.speakL
 obtain ⟨gl,hgl⟩:=nm gs.length
 obtain ⟨sl,hsl⟩:=nm sp.length
 obtain ⟨yl,hyl⟩:=nm ls.length
 obtain ⟨ol,hol⟩:=nm ms.length
 obtain ⟨vl,hvl⟩:=nm vs.length
 obtain ⟨fl,hfl⟩:=nm fs.length
 obtain ⟨bl,hbl⟩:=nm (AF nd kf l (Am kf fs)).length
 rw [<-hgl] at K1 ⊢
 rw [<-hsl] at K2 ⊢
 rw [<-hyl] at K3 ⊢
 rw [<-hol] at K4 ⊢
 rw [<-hvl] at K5 ⊢
 rw [<-hfl] at K6 hfn ⊢
 rw [<-hbl] at K7 ⊢
 subst hfn
 have hb1:Ov w (((w.alloc (zf #[zi (some ⟨bc,0,none⟩)] 205)).alloc (zf #[zd U m,O ga gn gc,O sa sn sc,O ya yn yc,O oa on oc,O va vn vc,O fa fn fc,O ba bn bd] 31)).alloc (zf #[zd U 0,O none 0 0,O none 0 0,O none 0 0,O none 0 0,O none 0 0,O none 0 0,O none 0 0] 31)):=((bA w _).alloc (by simp) _).alloc (by simp;omega) _
 obtain ⟨V,hV⟩:=nm (((w.alloc (zf #[zi (some ⟨bc,0,none⟩)] 205)).alloc (zf #[zd U m,O ga gn gc,O sa sn sc,O ya yn yc,O oa on oc,O va vn vc,O fa fn fc,O ba bn bd] 31)).alloc (zf #[zd U 0,O none 0 0,O none 0 0,O none 0 0,O none 0 0,O none 0 0,O none 0 0,O none 0 0] 31))
 have hsV:V.heap.size=w.heap.size+3:=by rw [hV];simp
 have hs1:(w.alloc (zf #[zi (some ⟨bc,0,none⟩)] 205)).heap.size=w.heap.size+1:=by simp
 have hs2:((w.alloc (zf #[zi (some ⟨bc,0,none⟩)] 205)).alloc (zf #[zd U m,O ga gn gc,O sa sn sc,O ya yn yc,O oa on oc,O va vn vc,O fa fn fc,O ba bn bd] 31)).heap.size=w.heap.size+2:=by simp
 have hP0:PI w bs nd bc 0 [zd U m,O ga gn gc,O sa sn sc,O ya yn yc,O oa on oc,O va vn vc,O fa fn fc,O ba bn bd] (fun _=>True) V:=by
  refine ⟨by rw [hV];exact FrW.of_below (B0 bc) hb1,by rw [hV];exact hC.over hb1,?_,?_,fun j=>by rw [hV];simp [go_sem],?_,fun _ _=>trivial,by omega⟩
  ·rw [hV]
   exact LZ (LZ (Az w [zi (some ⟨bc,0,none⟩)] 205 0 _ rfl) _) _
  ·rw [hV,<-hs1]
   exact Af.over (Az (w.alloc (zf #[zi (some ⟨bc,0,none⟩)] 205)) [zd U m,O ga gn gc,O sa sn sc,O ya yn yc,O oa on oc,O va vn vc,O fa fn fc,O ba bn bd] 31) (bA _ _)
  ·rw [hV,<-hs2]
   exact IC 31 _
 have HSV:=Aa hsV
 have HC0:=Aa hC
 have HLO:=Aa hlo
 have HW:=Aa hw
 have HBC:=Aa hbc
 have HBS:=Aa hbs
 have HP0:=Aa hP0
 have HNM:=Aa (And.intro hgl (And.intro hsl (And.intro hyl (And.intro hol (And.intro hvl (And.intro hfl hbl))))))
 obtain ⟨-,p1,-,-,-,-,-,-⟩:=rc8 hP0.row
 clear h hS hnl hnd hw hlo hC hbs hfew hb1 hsV hs1 hs2 hP0 hgl hsl hyl hol hvl hfl hbl hbc
 go_enter Tryz.func84,Tryz.ntmps84
 go_wp2_with fail
 rw [<-hV]
 clear hV p1
 refine (K1.o _ (HP0.o.fr.base HLO.o HW.o)).mono ?_
 rintro e W1 ⟨ga2,gc2,rfl,hO1,hb1,-⟩
 have hP:=HP0.o.call HBC.o (FrW.of_below (B0 bc) hb1) (HP0.o.ci.over hb1) hO1
 obtain ⟨b0,b1,b2,b3,b4,b5,b6,b7⟩:=rc8 hP.row
 have z1:=hP.fz 1
 have hq:=hP.bq
 have hP2:=hP.store HBC.o HBS.o (j:=1) (by simp) (O ga2 gl gc2)
 simp only [List.set_cons_zero,List.set_cons_succ] at hP2
 obtain ⟨X1,hX1⟩:=nm (W1.setCell ⟨w.heap.size+1,1,none⟩ (O ga2 gl gc2))
 rw [<-hX1] at hP2
 have HP1:=Aa hP2
 clear hP hP2 hO1 hb1
 go_wp2_with fail
 rw [<-hX1]
 clear hX1 b0 b1 b2 b3 b4 b5 b6 b7 z1 hq
 refine (K2.o _ (HP1.o.fr.base HLO.o HW.o)).mono ?_
 rintro e W2 ⟨sa2,sc2,rfl,hO2,hb2,-⟩
 have hP:=HP1.o.call HBC.o (FrW.of_below (B0 bc) hb2) (HP1.o.ci.over hb2) hO2
 obtain ⟨b0,b1,b2,b3,b4,b5,b6,b7⟩:=rc8 hP.row
 have z2:=hP.fz 2
 have hq:=hP.bq
 have hP2:=hP.store HBC.o HBS.o (j:=2) (by simp) (O sa2 sl sc2)
 simp only [List.set_cons_zero,List.set_cons_succ] at hP2
 obtain ⟨X2,hX2⟩:=nm (W2.setCell ⟨w.heap.size+1,2,none⟩ (O sa2 sl sc2))
 rw [<-hX2] at hP2
 have HP2:=Aa hP2
 clear hP hP2 hO2 hb2
 go_wp2_with fail
 rw [<-hX2]
 clear hX2 b0 b1 b2 b3 b4 b5 b6 b7 z2 hq
 refine (K3.o _ (HP2.o.fr.base HLO.o HW.o)).mono ?_
 rintro e W3 ⟨ya2,yc2,rfl,hN3,hO3,hb3⟩
 have HN3:=Aa hN3
 have hP:=HP2.o.call HBC.o (FrW.of_below (B0 bc) hb3) (HP2.o.ci.over hb3) hO3
 obtain ⟨b0,b1,b2,b3,b4,b5,b6,b7⟩:=rc8 hP.row
 have z3:=hP.fz 3
 have hq:=hP.bq
 have hP2:=hP.store HBC.o HBS.o (j:=3) (by simp) (O ya2 yl yc2)
 simp only [List.set_cons_zero,List.set_cons_succ] at hP2
 obtain ⟨X3,hX3⟩:=nm (W3.setCell ⟨w.heap.size+1,3,none⟩ (O ya2 yl yc2))
 rw [<-hX3] at hP2
 have HP3:=Aa hP2
 clear hP hP2 hO3 hb3 hN3
 go_wp2_with fail
 rw [<-hX3]
 clear hX3 b0 b1 b2 b3 b4 b5 b6 b7 z3 hq
 refine (K4.o _ (HP3.o.fr.base HLO.o HW.o)).mono ?_
 rintro e W4 ⟨oa2,oc2,rfl,hN4,hO4,hb4⟩
 have HN4:=Aa hN4
 have hP:=HP3.o.call HBC.o (FrW.of_below (B0 bc) hb4) (HP3.o.ci.over hb4) hO4
 obtain ⟨b0,b1,b2,b3,b4,b5,b6,b7⟩:=rc8 hP.row
 have z4:=hP.fz 4
 have hq:=hP.bq
 have hP2:=hP.store HBC.o HBS.o (j:=4) (by simp) (O oa2 ol oc2)
 simp only [List.set_cons_zero,List.set_cons_succ] at hP2
 obtain ⟨X4,hX4⟩:=nm (W4.setCell ⟨w.heap.size+1,4,none⟩ (O oa2 ol oc2))
 rw [<-hX4] at hP2
 have HP4:=Aa hP2
 clear hP hP2 hO4 hb4 hN4
 go_wp2_with fail
 rw [<-hX4]
 clear hX4 b0 b1 b2 b3 b4 b5 b6 b7 z4 hq
 refine (K5.o _ (HP4.o.fr.base HLO.o HW.o)).mono ?_
 rintro e W5 ⟨va2,vc2,rfl,hO5,hb5⟩
 have hP:=HP4.o.call HBC.o (FrW.of_below (B0 bc) hb5) (HP4.o.ci.over hb5) hO5
 obtain ⟨b0,b1,b2,b3,b4,b5,b6,b7⟩:=rc8 hP.row
 have z5:=hP.fz 5
 have hq:=hP.bq
 have hP2:=hP.store HBC.o HBS.o (j:=5) (by simp) (O va2 vl vc2)
 simp only [List.set_cons_zero,List.set_cons_succ] at hP2
 obtain ⟨X5,hX5⟩:=nm (W5.setCell ⟨w.heap.size+1,5,none⟩ (O va2 vl vc2))
 rw [<-hX5] at hP2
 have HP5:=Aa hP2
 clear hP hP2 hO5 hb5
 go_wp2_with fail
 rw [<-hX5]
 clear hX5 b0 b1 b2 b3 b4 b5 b6 b7 z5 hq
 refine (K6.o _ (HP5.o.fr.base HLO.o HW.o) HP5.o.ci (HBS.o.imp (fun h=>Nat.lt_of_lt_of_le h HP5.o.fr.size) id) HP5.o.bq).mono ?_
 rintro e W6 ⟨fa2,fc2,rfl,hO6,hF6,hC6⟩
 have hP:=HP5.o.call HBC.o hF6 hC6 hO6
 obtain ⟨b0,b1,b2,b3,b4,b5,b6,b7⟩:=rc8 hP.row
 have z6:=hP.fz 6
 have hq:=hP.bq
 have hP2:=hP.store HBC.o HBS.o (j:=6) (by simp) (O fa2 fn fc2)
 simp only [List.set_cons_zero,List.set_cons_succ] at hP2
 obtain ⟨X6,hX6⟩:=nm (W6.setCell ⟨w.heap.size+1,6,none⟩ (O fa2 fn fc2))
 rw [<-hX6] at hP2
 have HP6:=Aa hP2
 clear hP hP2 hO6 hF6 hC6
 go_wp2_with fail
 rw [<-hX6]
 clear hX6 b0 b1 b2 b3 b4 b5 b6 b7 z6 hq
 refine (K7.o _ (HP6.o.fr.base HLO.o HW.o) HP6.o.ci).mono ?_
 rintro e W7 ⟨ba2,bd2,rfl,hO7,hC7,hF7⟩
 have hP:=HP6.o.call HBC.o hF7 hC7 hO7
 obtain ⟨b0,b1,b2,b3,b4,b5,b6,b7⟩:=rc8 hP.row
 have z7:=hP.fz 7
 have hq:=hP.bq
 have hP2:=hP.store HBC.o HBS.o (j:=7) (by simp) (O ba2 bl bd2)
 simp only [List.set_cons_zero,List.set_cons_succ] at hP2
 obtain ⟨X7,hX7⟩:=nm (W7.setCell ⟨w.heap.size+1,7,none⟩ (O ba2 bl bd2))
 rw [<-hX7] at hP2
 have HP7:=Aa hP2
 obtain ⟨e0,e1,e2,e3,e4,e5,e6,e7⟩:=rc8 hP.z8.row
 have hz8:=hP.z8.fz
 have f0:=hz8 0
 have f1:=hz8 1
 have f2:=hz8 2
 have f3:=hz8 3
 have f4:=hz8 4
 have f5:=hz8 5
 have f6:=hz8 6
 have f7:=hz8 7
 clear hP hP2 hO7 hF7 hC7 hz8
 go_wp2_with fail
 rw [<-hX7]
 clear hX7 b0 b1 b2 b3 b4 b5 b6 b7 e0 e1 e2 e3 e4 e5 e6 e7 f0 f1 f2 f3 f4 f5 f6 f7 z7 hq
 have hrF:=HP7.o.z8.fill (zd U m) (O ga2 gl gc2) (O sa2 sl sc2) (O ya2 yl yc2) (O oa2 ol oc2) (O va2 vl vc2) (O fa2 fn fc2) (O ba2 bl bd2)
 unfold Gf at hrF
 obtain ⟨r0,r1,r2,r3,r4,r5,r6,r7⟩:=rc8 hrF
 refine bodyPost_ret (v:=zg #[zd U m,O ga2 gl gc2,O sa2 sl sc2,O ya2 yl yc2,O oa2 ol oc2,O va2 vl vc2,O fa2 fn fc2,O ba2 bl bd2]) (by simp [results,Tryz.results84,go_sem,r0,r1,r2,r3,r4,r5,r6,r7]) rfl ?_
 refine ⟨ga2,gc2,sa2,sc2,ya2,yc2,oa2,oc2,va2,vc2,fa2,fc2,ba2,bd2,rfl,?_,?_⟩
 ·have hoff:=(((((((HP7.o.off.set (b:=w.heap.size+2) (j:=0) (u:=zd U m) (by omega)).set (b:=w.heap.size+2) (j:=1) (u:=O ga2 gl gc2) (by omega)).set (b:=w.heap.size+2) (j:=2) (u:=O sa2 sl sc2) (by omega)).set (b:=w.heap.size+2) (j:=3) (u:=O ya2 yl yc2) (by omega)).set (b:=w.heap.size+2) (j:=4) (u:=O oa2 ol oc2) (by omega)).set (b:=w.heap.size+2) (j:=5) (u:=O va2 vl vc2) (by omega)).set (b:=w.heap.size+2) (j:=6) (u:=O fa2 fn fc2) (by omega)).set (b:=w.heap.size+2) (j:=7) (u:=O ba2 bl bd2) (by omega)
  refine (hoff.base (B':=w.heap.size) (by omega)).imp fun X hX=>?_
  obtain ⟨⟨⟨⟨⟨⟨⟨-,q1⟩,q2⟩,q3⟩,q4⟩,q5⟩,q6⟩,q7⟩:=hX
  exact ⟨HM.o,q1,q2,HSL.o,q3,q4,q5,q6,q7,HN3.o,HN4.o⟩
 ·have hF:=FrW.set (j:=7) (u:=O ba2 bl bd2) (b:=w.heap.size+2) (FrW.set (j:=6) (u:=O fa2 fn fc2) (b:=w.heap.size+2) (FrW.set (j:=5) (u:=O va2 vl vc2) (b:=w.heap.size+2) (FrW.set (j:=4) (u:=O oa2 ol oc2) (b:=w.heap.size+2) (FrW.set (j:=3) (u:=O ya2 yl yc2) (b:=w.heap.size+2) (FrW.set (j:=2) (u:=O sa2 sl sc2) (b:=w.heap.size+2) (FrW.set (j:=1) (u:=O ga2 gl gc2) (b:=w.heap.size+2) (FrW.set (j:=0) (u:=zd U m) (b:=w.heap.size+2) HP7.o.fr (by omega)) (by omega)) (by omega)) (by omega)) (by omega)) (by omega)) (by omega)) (by omega)
  exact hF.base HLO.o HW.o
end Go.Proofs.YtfffpjkcfnekaaaGreat.Ex
