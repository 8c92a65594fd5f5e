/- One who judges: a command that reveals. -/
import Derived.Test.YtfffpjkcfnekaaaGreatF31
set_option linter.unusedVariables false
set_option maxHeartbeats 8000000
set_option maxRecDepth 100000
namespace Go.Proofs.YtfffpjkcfnekaaaGreat.Ex
open Go.RowKit Go.Shelf
open Go.Value renaming slice -> O, int -> U, bool -> zg, agg -> zh, pointer -> zj, tuple -> zm
open Go.IntKind renaming i64 -> zd
open Go.Obj renaming cells -> ze
open Go.Ending renaming returned -> zk
attribute [local go_sem] Oper.semAt_some
theorem Hu {W:World} {b j:Nat} {v:Value} {o:Obj} (hc:W.cell? ⟨b,j,none⟩=some v) (ho:W.heap[b]? = some o):o.isCells=true:=by
 cases o <;> simp_all [World.cell?,Obj.isCells]
def RvI (s:Nat) (fm fh:Int->Bool) (nv:Nat) (pre:List (Eh nv)) (W:World):Prop:=
 W.cell? ⟨s,0,none⟩=some (zg ((pre.map Subtype.val).any fm))/\W.frozen? ⟨s,0,none⟩=false/\W.cell? ⟨s+1,0,none⟩=some (zg ((pre.map Subtype.val).any fh))/\W.frozen? ⟨s+1,0,none⟩=false
theorem MM (s:Nat) (fm fh:Int->Bool) (nv:Nat):Own (RvI s fm fh nv):=by
 rintro pre A B row ⟨c0,f0,c1,f1⟩ hg hr
 exact ⟨cell_kept c0 hg hr,(frozen_kept c0 hg hr).trans f0,cell_kept c1 hg hr,(frozen_kept c1 hg hr).trans f1⟩
theorem ML {fm fh:Int->Bool} {nv:Nat} {pre:List (Eh nv)} {x:Eh nv} {w W W2:World} {m0 h0 m1 h1:Bool} (c0:W.cell? ⟨w.heap.size,0,none⟩=some (zg m0)) (f0:W.frozen? ⟨w.heap.size,0,none⟩=false) (c1:W.cell? ⟨w.heap.size+1,0,none⟩=some (zg h0)) (f1:W.frozen? ⟨w.heap.size+1,0,none⟩=false) (hm:(pre.map Subtype.val).any fm=m0) (hh:(pre.map Subtype.val).any fh=h0) (hB:Ov w W) (hb2:Ov W W2) (hm1:m1=(m0 || fm x.1)) (hh1:h1=(h0 || fh x.1)) :
  KeepsOthers W ((W2.setCell ⟨w.heap.size,0,none⟩ (zg m1)).setCell ⟨w.heap.size+1,0,none⟩ (zg h1))/\Below w.heap.size W ((W2.setCell ⟨w.heap.size,0,none⟩ (zg m1)).setCell ⟨w.heap.size+1,0,none⟩ (zg h1))/\RvI w.heap.size fm fh nv (pre++[x]) ((W2.setCell ⟨w.heap.size,0,none⟩ (zg m1)).setCell ⟨w.heap.size+1,0,none⟩ (zg h1))/\Ov w ((W2.setCell ⟨w.heap.size,0,none⟩ (zg m1)).setCell ⟨w.heap.size+1,0,none⟩ (zg h1)):=by
 have hs:=bL c1
 have hs0:=bL c0
 have hBW:Below w.heap.size W ((W2.setCell ⟨w.heap.size,0,none⟩ (zg m1)).setCell ⟨w.heap.size+1,0,none⟩ (zg h1)):=((hb2.mono hB.size).setCell (Nat.le_refl _) _).setCell (by simp) _
 refine ⟨(Fq hb2).trans ((KeepsOthers.setCell _ _ _).trans (KeepsOthers.setCell _ _ _)),hBW,?_,hB.trans hBW⟩
 refine ⟨?_,?_,?_,?_⟩
 ·have e:=Ab hb2 _ _ c0
  rw [List.map_append,List.any_append,hm]
  simp [go_sem,e,hm1]
 ·simp [go_sem,((Al hb2).2 _ _ hs0).trans f0]
 ·have e:=Ab hb2 _ _ c1
  rw [List.map_append,List.any_append,hh]
  simp [go_sem,e,hh1]
 ·simp [go_sem,((Al hb2).2 _ _ hs).trans f1]
theorem AW.grown {cs:List Value} {w0:World} {bj:Nat} {av:Value} {fl:List (Int × Int)} {fv:Value} {A B:World} {r:Nat} {o:Obj} (h:AW cs w0 bj av fl fv A) (hg:A.grownBy B (some r)) (hr:A.heap[r]? = some o) (ho:o.isCells=false) (hlo:w0.heap.size<=r):AW cs w0 bj av fl fv B:=by
 have hc:∀ q,(some r:Option Nat)=some q->∃ o:Obj,A.heap[q]? = some o/\o.isCells=false:=fun q e=>by injection e with e;subst e;exact ⟨o,hr,ho⟩
 have hne:fv.ownBlock≠some r:=fun e=>by
  rcases h.own.2 with ⟨h1,-⟩ | ⟨g,cap,cur,h1,hb,hh,-⟩
  ·rw [h1] at e;simp [Value.ownBlock] at e
  ·rw [h1] at e
   simp [Value.ownBlock] at e
   subst e
   rw [hr] at hh
   injection hh with hh
   subst hh
   simp [Obj.isCells] at ho
 refine ⟨h.below.trans ⟨hg.os,hg.tape,hg.output,hg.size,fun k hk=>hg.block k (Nat.lt_of_lt_of_le hk h.below.size) (fun e=>by injection e with e;omega)⟩,fun j u hu=>cell_kept (h.row j u hu) hg hc,fun j=>?_,h.own.kept hg (Or.inr hne),h.ap,⟨h.lo.1,Nat.lt_of_lt_of_le h.lo.2 hg.size⟩,h.len⟩
 have hbr:bj≠r:=fun e=>by
  have h11:=h.c11
  obtain ⟨o',ho',hco⟩:=hc r rfl
  subst e
  exact absurd (Hu h11 ho') (by rw [hco];simp)
 exact (World.frozen?_of_block (a:=⟨bj,j,none⟩) (hg.block bj h.lo.2 (fun e=>by injection e with e;exact hbr e))).trans (h.fz j)
def DK (bj D:Nat) (W:World):Prop:=W.heap[D]? = some (.deferred (some []))/\¬ XJ bj W D
theorem DK.keep {bj D:Nat} {W W':World} (h:DK bj D W) (hf:FrW (XJ bj) W W'):DK bj D W':=
 have hlt:D < W.heap.size:=(Array.getElem?_eq_some_iff.1 h.1).1
 ⟨(hf.block D hlt h.2).trans h.1,fun e=>h.2 (hf.mov D hlt e)⟩
theorem TB.one {bj b:Nat} {v:Value} {L:List (Nat × List Value)} {W:World} (h:TB bj L W) (hc:W.cell? ⟨b,0,none⟩=some v) (hx:¬ XJ bj W b):TB bj ((b,[v])::L) W:=
 h.add (fun j u hu=>by match j with | 0=>simp at hu;subst hu;exact hc | j+1=>simp at hu) hx (bL hc)
theorem Nc {cs:List Value} {w0:World} {bj:Nat} {av:Value} {fl:List (Int × Int)} {fv:Value} {W A:World} {D:Nat} {o o':Obj} (hf:FrW (XJ bj) W A) (h:AW cs w0 bj av fl fv A) (hr:A.heap[D]? = some o) (ho:o.isCells=false) (hlo:W.heap.size<=D):FrW (XJ bj) W (A.putObj D o'):=by
 have hg:=grownBy_putObj' A D o'
 refine ⟨hg.os.trans hf.os,hg.tape.trans hf.tape,hg.output.trans hf.output,Nat.le_trans hf.size hg.size,fun k hk hx=>(hg.block k (Nat.lt_of_lt_of_le hk hf.size) (fun e=>by injection e with e;omega)).trans (hf.block k hk hx),fun k hk hx=>hf.mov k hk ?_⟩
 rcases hx with hx | hx | ⟨v,hv,hw⟩
 ·exact Or.inl (Nat.le_trans hg.size hx)
 ·exact Or.inr (Or.inl hx)
 ·refine Or.inr (Or.inr ⟨v,?_,hw⟩)
  have:=cell_kept h.c11 hg (fun q e=>by injection e with e;subst e;exact ⟨o,hr,ho⟩)
  rw [this] at hv
  injection hv with hv
  rw [<-hv]
  exact h.c11
abbrev Ny (W:World) (bj:Nat) (c:WC) (bv ov bl ol jv:Nat) (ek en:Int) (xa:Option Addr) (xl xc:Nat) (a1:Option Addr) (a2 a3:Nat) (a4:Option Addr) (a5 a6:Nat) (Wz:World):Prop:=Wz.cell? ⟨W.heap.size,0,none⟩=some (zj (some ⟨bj,0,none⟩))/\Wz.cell? ⟨bj,0,none⟩=some (U zd (c.n:Int))/\Wz.cell? ⟨bj,1,none⟩=some (O c.ga c.gn c.gc)/\Wz.cell? ⟨bj,2,none⟩=some (O c.sa c.sn c.sc)/\Wz.cell? ⟨bj,3,none⟩=some (O c.ya c.yn c.yc)/\Wz.cell? ⟨bj,4,none⟩=some (O c.oa c.on c.oc)/\Wz.cell? ⟨bj,5,none⟩=some (O (some ⟨bv,ov,none⟩) c.vn c.vc)/\Wz.cell? ⟨bj,6,none⟩=some (O c.fa c.fn c.fc)/\Wz.cell? ⟨bj,7,none⟩=some (O c.ba c.bn c.bc)/\Wz.cell? ⟨bj,8,none⟩=some (O (some ⟨bl,ol,none⟩) c.ln c.lc)/\Wz.cell? ⟨bj,9,none⟩=some (O c.ka c.kn c.kc)/\Wz.cell? ⟨W.heap.size+1,1,none⟩=some (U zd (jv:Int))/\Wz.cell? ⟨W.heap.size+1,3,none⟩=some (U zd ek)/\Wz.cell? ⟨W.heap.size+1,4,none⟩=some (U zd en)/\Wz.cell? ⟨W.heap.size+1,5,none⟩=some (O xa xl xc)/\Wz.cell? ⟨bl,ol+jv*2,none⟩=some (O a1 a2 a3)/\Wz.cell? ⟨bl,ol+jv*2+1,none⟩=some (O a4 a5 a6)
abbrev Nx (W:World) (bj:Nat) (c:WC) (bv ov bl ol:Nat) (p1:Option Addr) (q1 r1:Nat) (p2:Option Addr) (q2 r2 bo:Nat) (a1:Option Addr) (a2 a3:Nat) (a4:Option Addr) (a5 a6:Nat) (Wz:World):Prop:=Wz.cell? ⟨W.heap.size,0,none⟩=some (zj (some ⟨bj,0,none⟩))/\Wz.cell? ⟨bj,0,none⟩=some (U zd (c.n:Int))/\Wz.cell? ⟨bj,1,none⟩=some (O c.ga c.gn c.gc)/\Wz.cell? ⟨bj,2,none⟩=some (O c.sa c.sn c.sc)/\Wz.cell? ⟨bj,3,none⟩=some (O c.ya c.yn c.yc)/\Wz.cell? ⟨bj,4,none⟩=some (O c.oa c.on c.oc)/\Wz.cell? ⟨bj,5,none⟩=some (O (some ⟨bv,ov,none⟩) c.vn c.vc)/\Wz.cell? ⟨bj,6,none⟩=some (O c.fa c.fn c.fc)/\Wz.cell? ⟨bj,7,none⟩=some (O c.ba c.bn c.bc)/\Wz.cell? ⟨bj,8,none⟩=some (O (some ⟨bl,ol,none⟩) c.ln c.lc)/\Wz.cell? ⟨bj,9,none⟩=some (O c.ka c.kn c.kc)/\Wz.cell? ⟨W.heap.size+1+1,0,none⟩=some (O p1 q1 r1)/\Wz.cell? ⟨W.heap.size+1+1,1,none⟩=some (O p2 q2 r2)/\Wz.cell? ⟨bo,0,none⟩=some (O a1 a2 a3)/\Wz.cell? ⟨bo,1,none⟩=some (O a4 a5 a6)
abbrev Lt (W:World) (bj bv ov:Nat) (c:WC) (j:Nat) (kn:Bool) (pa1:Option Addr) (pn1 pc1:Nat) (Wz:World):Prop:=Wz.cell? ⟨W.heap.size,0,none⟩=some (zj (some ⟨bj,0,none⟩))/\Wz.cell? ⟨bj,5,none⟩=some (O (some ⟨bv,ov,none⟩) c.vn c.vc)/\Wz.cell? ⟨bv,ov+j*3,none⟩=some (zg kn)/\Wz.cell? ⟨bv,ov+j*3+1,none⟩=some (O pa1 pn1 pc1)
theorem MN (c) (w0:World) (bj:Nat) (av:Value) (gs Ls Fs) (J:JSt c w0 gs Ls Fs) (sp) (A:JAc c w0 av (AD gs) sp) (K ni no:Nat) (fs vs) (hvs:Br w0 (O c.va c.vn c.vc) vs) (hvn:vs.length=Ls.length) (hvc:∀ v∈vs,Bo c.n gs v.2=0) :
  Fi c w0 bj av K Ls.length ni no fs 5 (DB c.n K (AD gs) sp Ls vs) 152:=by
 intro fl fv s a k cs lv d p funcs W hfl h hbox hl hrs hok hk
 obtain ⟨p1,q1,r1,p2,q2,r2,hlv⟩:=hl.form
 have hlv':lv=[O p1 q1 r1,O p2 q2 r2]:=by simpa using hlv
 subst hlv'
 clear hlv
 obtain ⟨ek,en,xa,xl,xc,aa,ac,ta,tc,ea,ec,rfl,i0,i1,i2,hX,hA,hT,hE,-,-,-⟩:=hrs.form
 have hv2:=hok.2.1 (by omega)
 obtain ⟨jv,hjv⟩:∃ j:Nat,AK d=(j:Int):=⟨(AK d).toNat,by omega⟩
 have hjl:jv < Ls.length:=by omega
 have hjw:jv < vs.length:=by omega
 obtain ⟨bl,ol,a1,a2,a3,a4,a5,a6,hla,hln,k0,k1,hlev⟩:=C8 J.levs hjl
 have hVS:=hvs
 obtain ⟨hym,va',vc',hve,hvel⟩:=hvs
 injection hve with v1 v2 v3
 obtain ⟨bv,ov,hvo,hvel⟩:=hvel (by rintro rfl;simp at hjw)
 have hva:c.va=some ⟨bv,ov,none⟩:=v1.trans hvo
 have hvn2:c.vn=vs.length:=v2
 have hkd:sC (Am d) (AK d) (Ah d) ek en xa xl xc aa (Ap d).length ac ta (Av d).length tc ea (Ax d).length ec=sC 5 (jv:Int) (Ah d) ek en xa xl xc aa (Ap d).length ac ta (Av d).length tc ea (Ax d).length ec:=by rw [hk,hjv]
 rw [hkd]
 clear hkd
 obtain ⟨ot,hot⟩:=nm (Ah d)
 obtain ⟨al,hal⟩:=nm ((Ap d).length)
 obtain ⟨tn,htn⟩:=nm ((Av d).length)
 obtain ⟨el,hel⟩:=nm ((Ax d).length)
 rw [<-hot,<-hal,<-htn,<-hel]
 have hgd:Ls.getD (AK d).toNat AE=Ls[jv]:=by rw [hjv];simp [List.getD_eq_getElem?_getD,hjl]
 obtain ⟨lz,hlz⟩:=nm (Ls[jv])
 have hlzl:lz.len c.n:=by rw [hlz];exact J.lens _ (List.getElem_mem hjl)
 rw [<-hlz] at hlev hgd
 have hgv:vs.getD (AK d).toNat (false,⟨[],[]⟩)=vs[jv]:=by rw [hjv];simp [List.getD_eq_getElem?_getD,hjw]
 have hcv:c.v=(zh #[U zd (c.n:Int),O c.ga c.gn c.gc,O c.sa c.sn c.sc,O c.ya c.yn c.yc,O c.oa c.on c.oc,O (some ⟨bv,ov,none⟩) c.vn c.vc,O c.fa c.fn c.fc,O c.ba c.bn c.bc,O (some ⟨bl,ol,none⟩) c.ln c.lc,O c.ka c.kn c.kc]):=by show Value.agg #[U zd (c.n:Int),O c.ga c.gn c.gc,O c.sa c.sn c.sc,O c.ya c.yn c.yc,O c.oa c.on c.oc,O c.va c.vn c.vc,O c.fa c.fn c.fc,O c.ba c.bn c.bc,O c.la c.ln c.lc,O c.ka c.kn c.kc]=_;rw [hva,hla]
 obtain ⟨V1,hV1⟩:=nm ((((W.alloc (ze #[zj (some ⟨bj,0,none⟩)] 161)).alloc (ze #[U zd 5,U zd (jv:Int),U zd ot,U zd ek,U zd en,O xa xl xc,O aa al ac,O ta tn tc,O ea el ec] 130)).alloc (ze #[O p1 q1 r1,O p2 q2 r2] 50)))
 have hb1:Ov W V1:=by rw [hV1];exact ((bA W _).alloc (by simp) _).alloc (by simp <;> omega) _
 obtain ⟨tl,htl⟩:=nm ((AZ c.n Ls (Bw c.n) (AF K (AV d))))
 have HJ1:=Aa (h.over hb1)
 have HN1:=Aa J.n1
 have HLO:=Aa (fun (W2:World) {fl2:List (Int × Int)} {fv2:Value} (h2:AW c.cs w0 bj av fl2 fv2 W2)=>FW J.n1 h2 hlev hlzl)
 have KBot:Hx (∀ (W2:World),Calls Tryz.prog 104 #[(zh #[U zd (c.n:Int),O c.ga c.gn c.gc,O c.sa c.sn c.sc,O c.ya c.yn c.yc,O c.oa c.on c.oc,O (some ⟨bv,ov,none⟩) c.vn c.vc,O c.fa c.fn c.fc,O c.ba c.bn c.bc,O (some ⟨bl,ol,none⟩) c.ln c.lc,O c.ka c.kn c.kc])] W2 fun e w'=>∃ vj,e=zk vj/\Be W2 w' vj (Bw c.n)/\Ov W2 w'):=fun W2=>by
  have:=ER c.n J.n1 J.n6 c.ga c.gn c.gc c.sa c.sn c.sc c.ya c.yn c.yc c.oa c.on c.oc c.va c.vn c.vc c.fa c.fn c.fc c.ba c.bn c.bc c.la c.ln c.lc c.ka c.kn c.kc W2
  rw [hva,hla] at this
  exact this
 have KW:Hx (∀ (W2:World) {x:Value},AW c.cs w0 bj av fl fv W2->AY c.n (XJ bj) W2 x (Bw c.n)->Calls Tryz.prog 103 #[(zh #[U zd (c.n:Int),O c.ga c.gn c.gc,O c.sa c.sn c.sc,O c.ya c.yn c.yc,O c.oa c.on c.oc,O (some ⟨bv,ov,none⟩) c.vn c.vc,O c.fa c.fn c.fc,O c.ba c.bn c.bc,O (some ⟨bl,ol,none⟩) c.ln c.lc,O c.ka c.kn c.kc]),x,zh #[U zd ek,U zd en,O xa xl xc]] W2 fun e w'=>(∃ p1 q1 r1 p2 q2 r2,e=zk (zh #[O p1 q1 r1,O p2 q2 r2])/\AY c.n (XJ bj) w' (zh #[O p1 q1 r1,O p2 q2 r2]) tl)/\Ov W2 w'):=fun W2 x h2 hx=>by
  have:=H5 J h2 x (Bw c.n) K [U zd ek,U zd en,O xa xl xc] (AV d) hx hX (BD hok)
  rw [hcv,<-htl] at this
  exact this
 obtain ⟨f5,hf5⟩:=nm (Ay p lz c.n)
 have KF:Hx (∀ (W2:World) {fl2:List (Int × Int)} {fv2 x y:Value},AW c.cs w0 bj av fl2 fv2 W2->AY c.n (XJ bj) W2 x p->AY c.n (XJ bj) W2 y lz->Calls Tryz.prog 57 #[(zh #[U zd (c.n:Int),O c.ga c.gn c.gc,O c.sa c.sn c.sc,O c.ya c.yn c.yc,O c.oa c.on c.oc,O (some ⟨bv,ov,none⟩) c.vn c.vc,O c.fa c.fn c.fc,O c.ba c.bn c.bc,O (some ⟨bl,ol,none⟩) c.ln c.lc,O c.ka c.kn c.kc]),x,y] W2 fun e W'=>e=zk (zg f5)/\Ov W2 W'):=fun W2 fl2 fv2 x y h2 hx hy=>by
  have:=Ga c gs x y _ _ W2 (Af J.gr h2.below) J.chk hx.at_ hx.len hy.at_ hy.len
  rw [hcv,<-hf5] at this
  exact this
 have KB:=Aa (fun (W2:World) {fl2:List (Int × Int)} {fv2:Value} (h2:AW c.cs w0 bj av fl2 fv2 W2) (hj:W2.cell? ⟨s,0,none⟩=some (zj (some ⟨bj,0,none⟩))) (ha:W2.cell? ⟨s+1,0,none⟩=some (U zd a)) (nj:¬ XJ bj W2 s) (na:¬ XJ bj W2 (s+1)) (hl2:fl2.length<=1000) (k:Int) (is:Bool)=>Ff c.cs w0 bj av fl2 fv2 a k is s (s+1) W2 h2 hj ha nj na hl2)
 obtain ⟨fm,hfm⟩:∃ g:Int->Bool,g=fun v=>(DV vs v).2.r.any fun q=>EI (AD gs) c.n sp q.owner.toNat:=⟨_,rfl⟩
 obtain ⟨fh,hfh⟩:∃ g:Int->Bool,g=fun v=>!(DV vs v).1:=⟨_,rfl⟩
 have HMUTE:Hx (∀ (j:Nat) (hj:j < vs.length) (W2:World),AW c.cs w0 bj av fl fv W2->∀ x,AC W2 x vs[j].2.r->Calls Tryz.prog 202 #[zj (some ⟨bj,0,none⟩),x] W2 fun e W'=>e=zk (zg (fm (j:Int)))/\Ov W2 W'):=fun j hj W2 h2 x hx=>by
  have hlab:=Iv (hvc vs[j] (List.getElem_mem hj))
  have:=NI c w0 bj av fl fv (AD gs) sp A _ _ W2 h2 J.n6 hx (by have:=hlab.1.1;omega) (fun q hq=>(hlab.1.2 q hq).1)
  have e:DV vs (j:Int)=vs[j]:=by unfold DV;simp [List.getD_eq_getElem?_getD,hj]
  rw [hfm]
  dsimp only
  rw [e]
  exact this
 have HKN:Hx (∀ (j:Nat) (hj:j < vs.length),fh (j:Int)=!vs[j].1):=fun j hj=>by
  have e:DV vs (j:Int)=vs[j]:=by unfold DV;simp [List.getD_eq_getElem?_getD,hj]
  rw [hfh]
  dsimp only
  rw [e]
 unfold DB toL FK
 rw [hgd,<-hf5,<-htl,<-hfm,<-hfh]
 obtain ⟨f6,hf6⟩:=nm ((AF K (AV d)).any fm)
 obtain ⟨f7,hf7⟩:=nm ((AF K (AV d)).any fh)
 obtain ⟨f8,hf8⟩:=nm (((List.range c.n).any fun i=>tl.w[i]?.getD false && !(lz.w[i]?.getD false)))
 obtain ⟨f9,hf9⟩:=nm (((List.range c.n).any fun i=>(tl.w[i]?.getD false || p.w[i]?.getD false) && !IE (AD gs) c.n sp i))
 rw [<-hf6,<-hf7,<-hf8,<-hf9]
 have KS1:Hx (∀ (W2:World) {fl2:List (Int × Int)} {fv2:Value} {bt bo:Nat} {u1 u2:Value},AW c.cs w0 bj av fl2 fv2 W2->W2.cell? ⟨bt,1,none⟩=some u2->W2.cell? ⟨bo,1,none⟩=some (O a4 a5 a6)->AY c.n (XJ bj) W2 (zh #[u1,u2]) tl->Calls Tryz.prog 203 #[zj (some ⟨bj,0,none⟩),.func (.func 204) #[] #[zj (some ⟨bt,0,none⟩),zj (some ⟨bo,0,none⟩)]] W2 fun e W'=>e=zk (zg f8)/\Ov W2 W'):=fun W2 fl2 fv2 bt bo u1 u2 h2 ht ho hlt=>by
  rw [hf8]
  have hlo:=HLO.o W2 h2
  obtain ⟨x,y,e1,-,b1⟩:=id hlo.at_
  obtain ⟨x',y',e2,-,b2⟩:=id hlt.at_
  simp at e1 e2
  obtain ⟨rfl,rfl⟩:=e1
  obtain ⟨rfl,rfl⟩:=e2
  refine EY c w0 bj av fl2 fv2 204 [zj (some ⟨bt,0,none⟩),zj (some ⟨bo,0,none⟩)] _ W2 h2 J.n6 (fun i hi w1 hb=>?_) Gw
  exact L5 c.n i bt bo _ _ _ _ w1 J.n6 hi (Ab hb _ _ ht) (Ab hb _ _ ho) (Ar b2 hb) hlt.len.2 (Ar b1 hb) hlo.len.2
 have KS2:Hx (∀ (W2:World) {fl2:List (Int × Int)} {fv2:Value} {bt bp b3:Nat} {u1 u2 u3 u4:Value},AW c.cs w0 bj av fl2 fv2 W2->W2.cell? ⟨bt,1,none⟩=some u2->W2.cell? ⟨bp,1,none⟩=some u4->W2.cell? ⟨b3,0,none⟩=some (zj (some ⟨bj,0,none⟩))->AY c.n (XJ bj) W2 (zh #[u1,u2]) tl->AY c.n (XJ bj) W2 (zh #[u3,u4]) p->Calls Tryz.prog 203 #[zj (some ⟨bj,0,none⟩),.func (.func 205) #[] #[zj (some ⟨bt,0,none⟩),zj (some ⟨bp,0,none⟩),zj (some ⟨b3,0,none⟩)]] W2 fun e W'=>e=zk (zg f9)/\Ov W2 W'):=fun W2 fl2 fv2 bt bp b3 u1 u2 u3 u4 h2 ht hp h3 hlt hlp=>by
  rw [hf9]
  obtain ⟨x,y,e1,-,b1⟩:=id hlp.at_
  obtain ⟨x',y',e2,-,b2⟩:=id hlt.at_
  simp at e1 e2
  obtain ⟨rfl,rfl⟩:=e1
  obtain ⟨rfl,rfl⟩:=e2
  refine EY c w0 bj av fl2 fv2 205 [zj (some ⟨bt,0,none⟩),zj (some ⟨bp,0,none⟩),zj (some ⟨b3,0,none⟩)] _ W2 h2 J.n6 (fun i hi w1 hb=>?_) Gv
  exact LZ c.n i bt bp b3 bj _ _ _ _ (IE (AD gs) c.n sp i) w1 J.n6 hi (Ab hb _ _ ht) (Ab hb _ _ hp) (Ab hb _ _ h3) (Ar b2 hb) hlt.len.2 (Ar b1 hb) hlp.len.2 (fun W3 hb3=>OI c w0 bj av fl2 fv2 (AD gs) sp A i W3 ((h2.over hb).over hb3) J.n6 hi)
 have hVS1:V1.heap.size=W.heap.size+1+1+1:=by rw [hV1];simp
 have HTB1:Hx (TB bj [(W.heap.size,[zj (some ⟨bj,0,none⟩)]),(W.heap.size+1,[U zd 5,U zd (jv:Int),U zd ot,U zd ek,U zd en,O xa xl xc,O aa al ac,O ta tn tc,O ea el ec]),(W.heap.size+1+1,[O p1 q1 r1,O p2 q2 r2]),(s,[zj (some ⟨bj,0,none⟩)]),(s+1,[U zd a])] V1):=by
  have hF:=FrW.of_below (Aj bj) hb1
  have hnx:∀ q,W.heap.size<=q->¬ XJ bj V1 q:=fun q hq e=>by have:=(h.xlt q ((Aj bj).below _ _ hb1 q e)).2;omega
  refine TB.add (TB.add (TB.add (TB.add (TB.add TB.nil ?_ ?_ ?_) ?_ ?_ ?_) ?_ (hnx _ (by omega)) (by omega)) ?_ (hnx _ (by omega)) (by omega)) ?_ (hnx _ (Nat.le_refl _)) (by omega)
  ·exact hF.row (fun j u hu=>by match j with | 0=>simp at hu;subst hu;exact hbox.a | j+1=>simp at hu) (hbox.x _ (by omega) (by omega))
  ·exact fun e=>hbox.x _ (by omega) (by omega) (hF.mov _ (by have:=hbox.lt;omega) e)
  ·have:=hbox.lt;have:=hF.size;omega
  ·exact hF.row (fun j u hu=>by match j with | 0=>simp at hu;subst hu;exact hbox.j | j+1=>simp at hu) (hbox.x _ (by omega) (by omega))
  ·exact fun e=>hbox.x _ (by omega) (by omega) (hF.mov _ (by have:=hbox.lt;omega) e)
  ·have:=hbox.lt;have:=hF.size;omega
  ·rw [hV1]
   have r:=Ae.new [O p1 q1 r1,O p2 q2 r2] 50 ((W.alloc (ze #[zj (some ⟨bj,0,none⟩)] 161)).alloc (ze #[U zd 5,U zd (jv:Int),U zd ot,U zd ek,U zd en,O xa xl xc,O aa al ac,O ta tn tc,O ea el ec] 130))
   simpa using r
  ·rw [hV1]
   have r:=(Ae.new [U zd 5,U zd (jv:Int),U zd ot,U zd ek,U zd en,O xa xl xc,O aa al ac,O ta tn tc,O ea el ec] 130 (W.alloc (ze #[zj (some ⟨bj,0,none⟩)] 161))).over (bA _ (ze #[O p1 q1 r1,O p2 q2 r2] 50))
   simpa using r
  ·rw [hV1]
   exact (Ae.new [zj (some ⟨bj,0,none⟩)] 161 W).over ((bA _ _).alloc (by simp) _)
 have HS:Hx (∀ (W2:World),Ov V1 W2->Ny W bj c bv ov bl ol jv ek en xa xl xc a1 a2 a3 a4 a5 a6 W2):=fun W2 hb2=>by
  have h2:=HJ1.o.over hb2
  exact ⟨((HTB1.o.row 0 rfl).over hb2) 0 _ rfl,h2.cw 0 _ rfl,h2.cw 1 _ rfl,h2.cw 2 _ rfl,h2.cw 3 _ rfl,h2.cw 4 _ rfl,by rw [<-hva];exact h2.cw 5 _ rfl,h2.cw 6 _ rfl,h2.cw 7 _ rfl,by rw [<-hla];exact h2.cw 8 _ rfl,h2.cw 9 _ rfl,((HTB1.o.row 1 rfl).over hb2) 1 _ rfl,((HTB1.o.row 1 rfl).over hb2) 3 _ rfl,((HTB1.o.row 1 rfl).over hb2) 4 _ rfl,((HTB1.o.row 1 rfl).over hb2) 5 _ rfl,Ab h2.below _ _ k0,Ab h2.below _ _ k1⟩
 have HS7:Hx (∀ (W2:World) {fl2:List (Int × Int)} {fv2:Value} {bm bh bt bo:Nat} {t1:Option Addr} {t2 t3:Nat} {t4:Option Addr} {t5 t6:Nat},AW c.cs w0 bj av fl2 fv2 W2->TB bj ([(bm,[zg f6]),(bh,[zg f7]),(bt,[O t1 t2 t3,O t4 t5 t6]),(bo,[O a1 a2 a3,O a4 a5 a6]),(W.heap.size,[zj (some ⟨bj,0,none⟩)]),(W.heap.size+1,[U zd 5,U zd (jv:Int),U zd ot,U zd ek,U zd en,O xa xl xc,O aa al ac,O ta tn tc,O ea el ec]),(W.heap.size+1+1,[O p1 q1 r1,O p2 q2 r2]),(s,[zj (some ⟨bj,0,none⟩)]),(s+1,[U zd a])]) W2->Nx W bj c bv ov bl ol p1 q1 r1 p2 q2 r2 bo a1 a2 a3 a4 a5 a6 W2):=fun W2 fl2 fv2 bm bh bt bo t1 t2 t3 t4 t5 t6 h2 r2=>⟨(r2.row 4 rfl) 0 _ rfl,h2.cw 0 _ rfl,h2.cw 1 _ rfl,h2.cw 2 _ rfl,h2.cw 3 _ rfl,h2.cw 4 _ rfl,by rw [<-hva];exact h2.cw 5 _ rfl,h2.cw 6 _ rfl,h2.cw 7 _ rfl,by rw [<-hla];exact h2.cw 8 _ rfl,h2.cw 9 _ rfl,(r2.row 6 rfl) 0 _ rfl,(r2.row 6 rfl) 1 _ rfl,(r2.row 3 rfl) 0 _ rfl,(r2.row 3 rfl) 1 _ rfl⟩
 have HB0:Hx (Ov V1 V1.drew):=(bD _)
 have HP1:=Aa (hl.over (Aj bj) hb1)
 have HF1:=Aa (FrW.of_below (Aj bj) hb1)
 have HFL0:Hx (fl.length<=1000):=by unfold Hx;omega
 have HFL1:Hx ((addF a 5 fl (!f5)).length<=1000):=Nat.le_trans (A8 _ _ _ _) (by omega)
 have HFL2:Hx ((addF a 6 (addF a 5 fl (!f5)) f6).length<=1000):=Nat.le_trans (A8 _ _ _ _) (by have:=A8 a 5 fl (!f5);omega)
 have HFL3:Hx ((addF a 7 (addF a 6 (addF a 5 fl (!f5)) f6) f7).length<=1000):=Nat.le_trans (A8 _ _ _ _) (by have:=A8 a 5 fl (!f5);have:=A8 a 6 (addF a 5 fl (!f5)) f6;omega)
 have HFL4:Hx ((addF a 8 (addF a 7 (addF a 6 (addF a 5 fl (!f5)) f6) f7) f8).length<=1000):=Nat.le_trans (A8 _ _ _ _) (by have:=A8 a 5 fl (!f5);have:=A8 a 6 (addF a 5 fl (!f5)) f6;have:=A8 a 7 (addF a 6 (addF a 5 fl (!f5)) f6) f7;omega)
 have gj1:(jv:Int) < (c.ln:Int):=by omega
 have gj2:c.ln<=16:=by rw [hln];exact J.l16
 have gj4:c.vn<=16:=by have:=J.l16;omega
 obtain ⟨ys,hys⟩:∃ ys:List (Eh Ls.length),ys.map Subtype.val=AF K (AV d):=LE Ls.length _ (BD hok)
 have HYS:=Aa hys
 have HF6:=Aa hf6
 have HF7:=Aa hf7
 have HST':=Aa (fun (W2:World) (h2:AW c.cs w0 bj av fl fv W2) (W3:World) (hb3:Ov W2 W3) (bx:Nat) (hbx:bx < W3.heap.size) (k0:W3.cell? ⟨bx,0,none⟩=some (U zd ek)) (k1:W3.cell? ⟨bx,1,none⟩=some (U zd en)) (k2:W3.cell? ⟨bx,2,none⟩=some (O xa xl xc))=>FI Fence.wide rfl 2 trivial trivial rfl Ls.length bx K W2 ek en xa xl xc (AV d) ys W3 hbx hb3 k0 k1 k2 (hX.over h2.below) hys)
 have HVE:=Aa hvel
 have HVA:=Aa hva
 have HVL:Hx (vs.length=Ls.length):=hvn
 have HVN:=Aa hvn2
 have HW0:Hx (w0.heap.size<=W.heap.size):=h.below.size
 obtain ⟨u0,u1,u2,u3,u4,u5,u6,u7,u8,u9,u10,u11,u12,u13,u14,u15,u16⟩:=HS.o _ (Below.refl _ _)
 clear hys hlz hlzl htl hfm hfh hf5 hf6 hf7 hf8 hf9 hVS1 hvn hgd hgv hcv hvo hva hvn2 hvel v1 v2 v3 hym hla hln k0 k1 hlev hjv hv2 hot hal htn hel hl hrs hX hA hT hE hok J A hVS hvc hfl hk i0 i1 i2 hjl hjw hb1 hbox h
 refine (callsIn_wide (n:=3)).1 ?_
 refine callsIn_of_wp_marks Tryz.func152 rfl trivial ?_ rfl
 simp only [Tryz.ntmps152,List.size_toArray,List.length_cons,List.length_nil,Nat.reduceAdd,Nat.reduceSub,Array.replicate_succ,Array.replicate_zero,List.push_toArray,List.append_toArray,List.nil_append,List.cons_append]
 refine wpIn_wide.2 ?_
 go_wp2_with fail
 rw [<-hV1]
 clear hV1
 refine C6 (fun act2 W2=>∃ (bt bo:Nat) (x13 x14 x15 x16 x17 x18 x19 x20 x21 x22 x23 x24 x25 x26 x27 x28 x29 x30 x31 x32 x33 x34:Value) (t1:Option Addr) (t2 t3:Nat) (t4:Option Addr) (t5 t6:Nat),act2={ tmps:=#[zj (some ⟨bj,0,none⟩),zh #[U zd 5,U zd (jv:Int),U zd ot,U zd ek,U zd en,O xa xl xc,O aa al ac,O ta tn tc,O ea el ec],zh #[O p1 q1 r1,O p2 q2 r2],.func (.func 149) #[] #[zj (some ⟨s,0,none⟩),zj (some ⟨s+1,0,none⟩)],zj (some ⟨W.heap.size,0,none⟩),zj (some ⟨W.heap.size+1,0,none⟩),zj (some ⟨W.heap.size+1+1,0,none⟩),undef,zj (some ⟨bt,0,none⟩),zj (some ⟨bo,0,none⟩),undef,undef,undef,x13,x14,x15,x16,x17,x18,x19,x20,x21,x22,x23,x24,x25,x26,x27,x28,x29,x30,x31,x32,x33,x34,undef,undef,undef,undef,undef,undef,undef,undef,undef,undef,undef,undef,undef,undef,undef,undef,undef,undef,undef,undef,undef,undef,undef,undef,undef,undef,undef,undef,undef,undef,undef,undef,undef,undef,undef,undef,undef,undef,undef,undef,undef,undef,undef,undef,undef,undef,undef,undef,undef,undef,undef,undef,undef,undef,undef,undef,undef,undef,undef,undef],defers:=[] }/\Ov V1 W2/\Ae [O t1 t2 t3,O t4 t5 t6] W2 bt/\Ae [O a1 a2 a3,O a4 a5 a6] W2 bo/\AY c.n (XJ bj) W2 (zh #[O t1 t2 t3,O t4 t5 t6]) tl/\(V1.heap.size<=bt/\bt < W2.heap.size)/\(V1.heap.size<=bo/\bo < W2.heap.size)/\bt≠bo) ?_ ?_
 ·refine gS (Ny W bj c bv ov bl ol jv ek en xa xl xc a1 a2 a3 a4 a5 a6) (HS.o _ HB0.o) fun hHeld=>?_
  refine kT 0 ?_
  refine kT 1 ?_
  refine kT 2 ?_
  refine kT 3 ?_
  refine kT 4 ?_
  refine kT 5 ?_
  refine kT 6 ?_
  refine kT 7 ?_
  refine kT 9 ?_
  refine kT 10 ?_
  refine kT 12 ?_
  refine kT 13 ?_
  refine kT 14 ?_
  refine kT 15 ?_
  refine kT 16 ?_
  refine kT 17 ?_
  refine kT 18 ?_
  refine kT 19 ?_
  refine kT 20 ?_
  refine kT 21 ?_
  have HB:=HB0
  generalize V1.drew=Wc at HB hHeld ⊢
  clear HB0
  refine rdC 8 22 23 rfl (fun K h8=>?_) rfl (fun K h22=>?_) rfl (fun K h23=>?_) (by decide +kernel)
  all_goals repeat' first
   | (
    have hi:=h8
    clear hi
    go_simp
    refine (KBot.o _).mono ?_
    rintro e Wc ⟨vj,rfl,hL,hb⟩
    have hN:=BP hL
    have hA:=Aq hL
    obtain ⟨v1,v2,rfl,ho1,ho2,-⟩:=hL
    obtain ⟨y1,y2,y3,rfl⟩:=Ak ho1
    obtain ⟨y4,y5,y6,rfl⟩:=Ak ho2
    have hN:=E5 hN HB.o.size
    replace HB:=Aa (Ac HB.o hb)
    have HLB:=Aa (⟨hA,GP _,Cz (Aj bj) HB.o (fun k hk=>(HJ1.o.xlt k hk).2) hN⟩:AY c.n (XJ bj) Wc _ (Bw c.n))
    (try replace HT:=Aa (HT.o.over hb))
    (try replace HO:=Aa (HO.o.over hb))
    clear hN hA ho1 ho2 hb
    go_simp
    refine xK h8 (HS.o _ HB.o) fun hHeld=>?_
    clear h8 K
    first | (refine rdC 11 22 23 rfl (fun K h11=>?_) rfl (fun K h22=>?_) rfl (fun K h23=>?_) (by decide +kernel)) | (refine rdA 11 rfl (fun K h11=>?_) (by decide +kernel)) | (refine rdB 11 22 rfl (fun K h11=>?_) rfl (fun K h22=>?_) (by decide +kernel)) | (refine rdB 11 23 rfl (fun K h11=>?_) rfl (fun K h23=>?_) (by decide +kernel)))
   | (
    have hi:=h11
    clear hi
    go_simp
    refine (KW.o _ (HJ1.o.over HB.o) HLB.o).mono ?_
    rintro e Wc ⟨⟨o1,o2,o3,o4,o5,o6,rfl,hL⟩,hb⟩
    replace HB:=Aa (Ac HB.o hb)
    (try replace HT:=Aa (HT.o.over hb))
    (try replace HO:=Aa (HO.o.over hb))
    have HLW:=Aa hL
    clear HLB hL hb
    go_simp
    refine xK h11 (HS.o _ HB.o) fun hHeld=>?_
    clear h11 K
    first | (refine rdB 22 23 rfl (fun K h22=>?_) rfl (fun K h23=>?_) (by decide +kernel)) | (refine rdA 24 rfl (fun K h24=>?_) (by decide +kernel)) | (refine rdA 22 rfl (fun K h22=>?_) (by decide +kernel)) | (refine rdA 23 rfl (fun K h23=>?_) (by decide +kernel)))
   | (
    have hi:=h22
    clear hi
    have hb:=bA Wc (ze #[O none 0 0,O none 0 0] 50)
    have hz:=GV 50 Wc
    have hgt:=HB.o.size
    obtain ⟨bt,hq⟩:∃ b:Nat,b=Wc.heap.size:=⟨_,rfl⟩
    rw [<-hq] at hz hgt
    (try have hbb:bt≠bo:=by have:=HO.o.lt;omega)
    go_simp
    rw [<-hq]
    obtain ⟨Wc,hWn⟩:=nm (Wc.alloc (ze #[O none 0 0,O none 0 0] 50))
    rw [<-hWn] at hb hz ⊢
    replace HB:=Aa (Ac HB.o hb)
    (try replace HO:=Aa (HO.o.over hb))
    (try replace HLB:=Aa (HLB.o.over (Aj bj) hb))
    (try replace HLW:=Aa (HLW.o.over (Aj bj) hb))
    have HT:=Aa hz
    clear hb hz hWn hq
    refine xK h22 (HS.o _ HB.o) fun hHeld=>?_
    clear h22 K
    first | (refine rdA 24 rfl (fun K h24=>?_) (by decide +kernel)) | (refine rdB 8 23 rfl (fun K h8=>?_) rfl (fun K h23=>?_) (by decide +kernel)) | (refine rdB 11 23 rfl (fun K h11=>?_) rfl (fun K h23=>?_) (by decide +kernel)) | (refine rdA 23 rfl (fun K h23=>?_) (by decide +kernel)) | (refine rdA 8 rfl (fun K h8=>?_) (by decide +kernel)) | (refine rdA 11 rfl (fun K h11=>?_) (by decide +kernel)))
   | (
    have hi:=h23
    clear hi
    have hb:=bA Wc (ze #[O none 0 0,O none 0 0] 50)
    have hz:=GV 50 Wc
    have hgo:=HB.o.size
    obtain ⟨bo,hq⟩:∃ b:Nat,b=Wc.heap.size:=⟨_,rfl⟩
    rw [<-hq] at hz hgo
    (try have hbb:bt≠bo:=by have:=HT.o.lt;omega)
    go_simp
    rw [<-hq]
    obtain ⟨Wc,hWn⟩:=nm (Wc.alloc (ze #[O none 0 0,O none 0 0] 50))
    rw [<-hWn] at hb hz ⊢
    replace HB:=Aa (Ac HB.o hb)
    (try replace HT:=Aa (HT.o.over hb))
    (try replace HLB:=Aa (HLB.o.over (Aj bj) hb))
    (try replace HLW:=Aa (HLW.o.over (Aj bj) hb))
    have HO:=Aa hz
    clear hb hz hWn hq
    refine xK h23 (HS.o _ HB.o) fun hHeld=>?_
    clear h23 K
    first | (refine rdA 24 rfl (fun K h24=>?_) (by decide +kernel)) | (refine rdB 8 22 rfl (fun K h8=>?_) rfl (fun K h22=>?_) (by decide +kernel)) | (refine rdB 11 22 rfl (fun K h11=>?_) rfl (fun K h22=>?_) (by decide +kernel)) | (refine rdA 22 rfl (fun K h22=>?_) (by decide +kernel)) | (refine rdA 8 rfl (fun K h8=>?_) (by decide +kernel)) | (refine rdA 11 rfl (fun K h11=>?_) (by decide +kernel)))
   | (
    have hi:=h24
    clear hi
    have d0:=HT.o.c0
    have d1:=HT.o.c1
    have z0:=HT.o.z0
    have z1:=HT.o.z1
    have hjb:bj < V1.heap.size:=HJ1.o.lo.2
    obtain ⟨Wn,hWn⟩:=nm (CC Wc bt (O o1 o2 o3) (O o4 o5 o6))
    replace HB:Hx (Ov V1 Wn):=by rw [hWn];exact DL HB.o hgt _ _
    replace HO:Hx (ZB bo Wn):=by rw [hWn];exact HO.o.other (Ne.symm hbb) _ _
    have HR:Hx (Ae [O o1 o2 o3,O o4 o5 o6] Wn bt):=by rw [hWn];exact HT.o.fill _ _
    have HL:Hx (AY c.n (XJ bj) Wn (zh #[O o1 o2 o3,O o4 o5 o6]) tl):=by rw [hWn];exact Ee HLW.o HT.o (by omega) _ _
    unfold CC at hWn
    go_simp
    rw [<-hWn]
    clear hWn d0 d1 z0 z1 HLW HT
    refine xK h24 (HS.o _ HB.o) fun hHeld=>?_
    clear h24 K
    refine rdA 25 rfl (fun K h25=>?_) (by decide +kernel))
   | (
    have hi:=h25
    clear hi
    have e0:=HO.o.c0
    have e1:=HO.o.c1
    have y0:=HO.o.z0
    have y1:=HO.o.z1
    obtain ⟨Wm,hWm⟩:=nm (CC Wn bo (O a1 a2 a3) (O a4 a5 a6))
    replace HB:Hx (Ov V1 Wm):=by rw [hWm];exact DL HB.o hgo _ _
    replace HR:Hx (Ae [O o1 o2 o3,O o4 o5 o6] Wm bt):=by rw [hWm];exact Ic HR.o hbb _ _
    have HQ:Hx (Ae [O a1 a2 a3,O a4 a5 a6] Wm bo):=by rw [hWm];exact HO.o.fill _ _
    replace HL:Hx (AY c.n (XJ bj) Wm (zh #[O o1 o2 o3,O o4 o5 o6]) tl):=by rw [hWm];exact Ee HL.o HO.o (by omega) _ _
    unfold CC at hWm
    go_simp
    rw [<-hWm]
    clear hWm
    refine xK h25 (HS.o _ HB.o) fun hHeld=>?_
    clear h25 K
    refine gE ?_
    exact AG ⟨bt,bo,_,_,_,_,_,_,_,_,_,_,_,_,_,_,_,_,_,_,_,_,_,_,o1,o2,o3,o4,o5,o6,rfl,HB.o,HR.o,HQ.o,HL.o,⟨hgt,bL (HR.o 0 _ rfl)⟩,⟨hgo,bL (HQ.o 0 _ rfl)⟩,hbb⟩)
 rintro act2 W2 ⟨bt,bo,x13,x14,x15,x16,x17,x18,x19,x20,x21,x22,x23,x24,x25,x26,x27,x28,x29,x30,x31,x32,x33,x34,t1,t2,t3,t4,t5,t6,rfl,hB2,hrt,hro,hlt,⟨gt0,gt1⟩,⟨go0,go1⟩,hbb⟩
 clear u0 u1 u2 u3 u4 u5 u6 u7 u8 u9 u10 u11 u12 u13 u14 u15 u16 HS HB0
 have hnx:∀ q,V1.heap.size<=q->¬ XJ bj W2 q:=fun q hq e=>by have:=(HJ1.o.xlt q ((Aj bj).below _ _ hB2 q e)).2;omega
 have HJ2:=Aa (HJ1.o.over hB2)
 have HF2:=Aa (HF1.o.trans (FrW.of_below (Aj bj) hB2))
 have HTB2:Hx (TB bj [(bt,[O t1 t2 t3,O t4 t5 t6]),(bo,[O a1 a2 a3,O a4 a5 a6]),(W.heap.size,[zj (some ⟨bj,0,none⟩)]),(W.heap.size+1,[U zd 5,U zd (jv:Int),U zd ot,U zd ek,U zd en,O xa xl xc,O aa al ac,O ta tn tc,O ea el ec]),(W.heap.size+1+1,[O p1 q1 r1,O p2 q2 r2]),(s,[zj (some ⟨bj,0,none⟩)]),(s+1,[U zd a])] W2):=((HTB1.o.keep (FrW.of_below (Aj bj) hB2)).add hro (hnx _ go0) go1).add hrt (hnx _ gt0) gt1
 have HP2:=Aa (HP1.o.over (Aj bj) hB2)
 have HT2:=Aa hlt
 have HW2:Hx (W.heap.size<=W2.heap.size):=HF2.o.size
 have y3:((W2.alloc (ze #[zg false] 4)).alloc (ze #[zg false] 4)).cell? ⟨W.heap.size+1,3,none⟩=_:=Ab ((bA W2 _).alloc (by simp) _) _ _ ((HTB2.o.row 3 rfl) 3 _ rfl)
 have y4:((W2.alloc (ze #[zg false] 4)).alloc (ze #[zg false] 4)).cell? ⟨W.heap.size+1,4,none⟩=_:=Ab ((bA W2 _).alloc (by simp) _) _ _ ((HTB2.o.row 3 rfl) 4 _ rfl)
 have y5:((W2.alloc (ze #[zg false] 4)).alloc (ze #[zg false] 4)).cell? ⟨W.heap.size+1,5,none⟩=_:=Ab ((bA W2 _).alloc (by simp) _) _ _ ((HTB2.o.row 3 rfl) 5 _ rfl)
 clear hnx hB2 hrt hro hlt gt0 gt1 go0 go1 hbb HP1 HTB1 HF1 HJ1 KBot KW
 have hbel:Ov W2 (((W2.alloc (ze #[zg false] 4)).alloc (ze #[zg false] 4)).alloc (ze #[U zd ek,U zd en,O xa xl xc] 94)):=((bA W2 _).alloc (by simp) _).alloc (by simp <;> omega) _
 have HBEL:=Aa hbel
 have HI0:Hx (RvI W2.heap.size fm fh Ls.length [] (((W2.alloc (ze #[zg false] 4)).alloc (ze #[zg false] 4)).alloc (ze #[U zd ek,U zd en,O xa xl xc] 94))):=⟨by simp [go_sem],by simp [go_sem],by simp [go_sem],by simp [go_sem]⟩
 have HST:=Aa (HST'.o W2 HJ2.o _ hbel (W2.heap.size+1+1) (by simp) (by simp [go_sem]) (by simp [go_sem]) (by simp [go_sem]))
 clear hbel HST'
 have KV:=Aa fun (w:World)=>(callsIn_wide (n:=3)).1 (JW Fence.wide 3 trivial rfl ek en xa xl xc w)
 go_wp2_with fail
 refine (KV.o _).mono ?_
 rintro e w' ⟨rfl,rfl⟩
 go_wp2_with fail
 refine (wpIn_wide (n:=3)).1 ?_
 refine wpIn_rangeFunc_ownF (F:=Fence.wide) rfl (by omega) (gf:=210) (lb:=#[zj (some ⟨W2.heap.size+1+1,0,none⟩)]) rfl trivial (enters_of Tryz.func210 (by kernel_rfl) rfl)
  HST.o belowK_t (belowK_b (by simp <;> omega)) (Below.refl _ _) (fun _=>rfl)
  (fun pre W=>RvI W2.heap.size fm fh Ls.length pre W/\Ov W2 W)
  (fun _ _ _=>False)
  (OwnFrom.and (Own.from (MM W2.heap.size fm fh Ls.length) _) (ownFrom_below (Nat.le_refl _) (by simp <;> omega)))
  (fun _ _ _ _ _ hs _ _=>hs)
  ⟨HI0.o,HBEL.o⟩
  (fun x=>{ tmps:=#[zj (some ⟨bj,0,none⟩),zh #[U zd 5,U zd (jv:Int),U zd ot,U zd ek,U zd en,O xa xl xc,O aa al ac,O ta tn tc,O ea el ec],zh #[O p1 q1 r1,O p2 q2 r2],.func (.func 149) #[] #[zj (some ⟨s,0,none⟩),zj (some ⟨s+1,0,none⟩)],zj (some ⟨W.heap.size,0,none⟩),zj (some ⟨W.heap.size+1,0,none⟩),zj (some ⟨W.heap.size+1+1,0,none⟩),undef,zj (some ⟨bt,0,none⟩),zj (some ⟨bo,0,none⟩),zj (some ⟨W2.heap.size,0,none⟩),zj (some ⟨W2.heap.size+1,0,none⟩),U zd x.1,x13,x14,x15,x16,x17,x18,x19,x20,x21,x22,x23,x24,x25,x26,x27,x28,x29,x30,x31,x32,x33,x34,zj (some ⟨W.heap.size+1,3,none⟩),zh #[U zd ek,U zd en,O xa xl xc],.func (.func 210) #[] #[zj (some ⟨W2.heap.size+1+1,0,none⟩)],U zd x.1,undef,undef,undef,undef,undef,undef,undef,undef,undef,undef,undef,undef,undef,undef,undef,undef,undef,undef,undef,undef,undef,undef,undef,undef,undef,undef,undef,undef,undef,undef,undef,undef,undef,undef,undef,undef,undef,undef,undef,undef,undef,undef,undef,undef,undef,undef,undef,undef,undef,undef,undef,undef,undef,undef,undef,undef],defers:=[] }) ?assign ?body ?done ?stop
 case assign=>
  intro l x W K hK
  gi_wp2
  exact hK
 case body=>
  clear HST HI0 HBEL HYS
  rintro lo pre x Wr ⟨⟨c0,f0,c1,f1⟩,hB⟩ _
  obtain ⟨m0,hm0⟩:=nm ((pre.map Subtype.val).any fm)
  obtain ⟨h0,hh0⟩:=nm ((pre.map Subtype.val).any fh)
  rw [<-hm0] at c0
  rw [<-hh0] at c1
  have HSTEP:=Aa fun (Wj:World) (m1 h1:Bool) (hbj:Ov Wr Wj) (e1:m1=(m0 || fm x.1)) (e2:h1=(h0 || fh x.1))=>ML (x:=x) c0 f0 c1 f1 hm0.symm hh0.symm hB hbj e1 e2
  clear hm0 hh0
  obtain ⟨x,hx0,hx1⟩:=x
  obtain ⟨j,rfl⟩:∃ j:Nat,x=(j:Int):=⟨x.toNat,by omega⟩
  have hj:j < vs.length:=by rw [HVL.o];omega
  obtain ⟨pr,pw,q0,q1,q2,hpr,hpw⟩:=HVE.o j hj
  obtain ⟨pa1,pn1,pc1,rfl⟩:=AO hpr
  obtain ⟨kn,hkn⟩:=nm (vs[j].1)
  rw [<-hkn] at q0
  have HHJ:Hx (fh (j:Int)=!kn):=by rw [hkn];exact HKN.o j hj
  have HS5:Hx (∀ Wz:World,Ov W2 Wz->Lt W bj bv ov c j kn pa1 pn1 pc1 Wz):=fun Wz hz=>by
   have h2:=HJ2.o.over hz
   exact ⟨Ab hz _ _ ((HTB2.o.row 2 rfl) 0 _ rfl),by rw [<-HVA.o];exact h2.cw 5 _ rfl,Ab h2.below _ _ q0,Ab h2.below _ _ q1⟩
  obtain ⟨mr,hmr⟩:=nm (fm (j:Int))
  have KM2:Hx (∀ Wz:World,Ov W2 Wz->Calls Tryz.prog 202 #[zj (some ⟨bj,0,none⟩),O pa1 pn1 pc1] Wz fun e W'=>e=zk (zg mr)/\Ov Wz W'):=fun Wz hz=>by
   have h2:=HJ2.o.over hz
   rw [hmr]
   exact HMUTE.o j hj Wz h2 _ (Ai hpr h2.below)
  have HMJ:Hx (fm (j:Int)=mr):=hmr.symm
  have hj1:(j:Int) < (c.vn:Int):=by have:=HVN.o;omega
  have hlt0:=bL c0
  have hlt1:=bL c1
  clear hmr hkn q0 q1 q2 hpr hpw hj
  have hmx:Tryz.prog.follows .mixedOrders=true:=by kernel_rfl
  have hd1:1<=3 - 1 - 1:=by omega
  cases m0 with
  | true=>
   gi_wp2
   refine DC (S:=fun Wz=>Lt W bj bv ov c j kn pa1 pn1 pc1 Wz) hmx ?_ ?_
   ·intro i o ho c hc
    match i with
    | 0 | 1 | 2 | 3 | 4 | 5 | 6 | 7 | 8 | 9 | 10 | 11 | 12 | 13 | 14 | 15 | 16=>simp at ho;subst ho;cases hc
    | i+17=>simp at ho
   refine rdA 0 rfl fun K hK=>?_
   go_simp
   refine xK hK (HS5.o _ (hB.drew)) fun hHeld=>?_
   clear hK K
   refine kT 1 ?_
   refine kU 2 ?_
   refine kU 3 ?_
   refine kU 4 ?_
   refine kU 5 ?_
   refine kU 6 ?_
   refine kU 7 ?_
   refine kU 8 ?_
   refine kU 9 ?_
   refine kU 10 ?_
   refine kU 11 ?_
   refine kU 12 ?_
   refine kU 13 ?_
   refine kU 14 ?_
   refine kT 15 ?_
   refine rdA 16 rfl fun K hK=>?_
   go_simp
   refine xK hK (by exact HS5.o _ ((hB.drew).setCell (Nat.le_refl _) _)) fun hHeld=>?_
   clear hK K
   refine gE ?_
   refine AG ?_
   have hm:=HS5.o (Wr.drew.setCell ⟨W2.heap.size,0,none⟩ (zg true)) ((hB.drew).setCell (Nat.le_refl _) _)
   obtain ⟨n0,n1,n2,n3⟩:=hm
   cases h0 with
   | true=>
    gi_wp2
    exact HSTEP.o Wr.drew true true (bD Wr) (by simp [HMJ.o]) (by simp)
   | false=>
    gi_wp2
    exact HSTEP.o Wr.drew true (!kn) (bD Wr) (by simp [HMJ.o]) (by simp [HHJ.o])
  | false=>
   gi_wp2
   refine DC (S:=fun Wz=>Lt W bj bv ov c j kn pa1 pn1 pc1 Wz) hmx ?_ ?_
   ·intro i o ho c hc
    match i with
    | 0 | 1 | 2 | 3 | 4 | 5 | 6 | 7 | 8 | 9 | 10 | 11 | 12 | 13 | 14 | 15 | 16=>simp at ho;subst ho;cases hc
    | i+17=>simp at ho
   refine rdA 0 rfl fun K hK=>?_
   go_simp
   refine xK hK (HS5.o _ (hB.drew)) fun hHeld=>?_
   clear hK K
   refine kT 1 ?_
   refine kT 2 ?_
   refine kT 3 ?_
   refine kT 4 ?_
   refine kT 5 ?_
   refine kT 6 ?_
   refine kT 7 ?_
   refine kT 8 ?_
   refine kT 9 ?_
   refine kT 10 ?_
   refine kT 11 ?_
   refine kT 12 ?_
   refine kT 13 ?_
   refine rdA 14 rfl fun K hK=>?_
   go_simp
   refine (KM2.o _ (hB.drew)).mono ?_
   rintro e wj ⟨rfl,hbj⟩
   have HBJ:Hx (Ov Wr wj):=(bD Wr).trans (hbj.mono (Nat.le_refl _))
   have c0j:=Ab HBJ.o _ _ c0
   have f0j:wj.frozen? ⟨W2.heap.size,0,none⟩=false:=((Al HBJ.o).2 _ _ hlt0).trans f0
   have c1j:=Ab HBJ.o _ _ c1
   have f1j:wj.frozen? ⟨W2.heap.size+1,0,none⟩=false:=((Al HBJ.o).2 _ _ hlt1).trans f1
   have HBW2:=Aa (hB.trans (HBJ.o.mono hB.size))
   clear hbj
   go_simp
   refine xK hK (HS5.o _ HBW2.o) fun hHeld=>?_
   clear hK K
   refine kT 15 ?_
   refine rdA 16 rfl fun K hK=>?_
   go_simp
   refine xK hK (by exact HS5.o _ ((HBW2.o).setCell (Nat.le_refl _) _)) fun hHeld=>?_
   clear hK K
   refine gE ?_
   refine AG ?_
   have hm:=HS5.o (wj.setCell ⟨W2.heap.size,0,none⟩ (zg mr)) ((HBW2.o).setCell (Nat.le_refl _) _)
   obtain ⟨n0,n1,n2,n3⟩:=hm
   cases h0 with
   | true=>
    gi_wp2
    exact HSTEP.o wj mr true HBJ.o (by simp [HMJ.o]) (by simp)
   | false=>
    gi_wp2
    exact HSTEP.o wj mr (!kn) HBJ.o (by simp [HMJ.o]) (by simp [HHJ.o])
 case done=>
  rintro D zs W4' hD rfl ⟨⟨c0,f0,c1,f1⟩,hB⟩ hK
  rw [HYS.o,<-HF6.o] at c0
  rw [HYS.o,<-HF7.o] at c1
  obtain ⟨bm,hbm⟩:=nm W2.heap.size
  obtain ⟨bh,hbh⟩:=nm (W2.heap.size+1)
  have hnx:∀ q,W2.heap.size<=q->¬ XJ bj W4' q:=fun q hq e=>by have:=(HJ2.o.xlt q ((Aj bj).below _ _ hB q e)).2;omega
  rw [<-hbm] at c0
  rw [<-hbh] at c1
  have hD2:W2.heap.size<=D:=by simp at hD;omega
  have HDW:Hx (w0.heap.size<=D):=Nat.le_trans (Nat.le_trans HW0.o HW2.o) hD2
  have HDW2:Hx (W.heap.size<=D):=Nat.le_trans HW2.o hD2
  have HJ4':=Aa (HJ2.o.over hB)
  have HF4':=Aa (HF2.o.trans (FrW.of_below (Aj bj) hB))
  have HTB4':Hx (TB bj ([(bm,[zg f6]),(bh,[zg f7]),(bt,[O t1 t2 t3,O t4 t5 t6]),(bo,[O a1 a2 a3,O a4 a5 a6]),(W.heap.size,[zj (some ⟨bj,0,none⟩)]),(W.heap.size+1,[U zd 5,U zd (jv:Int),U zd ot,U zd ek,U zd en,O xa xl xc,O aa al ac,O ta tn tc,O ea el ec]),(W.heap.size+1+1,[O p1 q1 r1,O p2 q2 r2]),(s,[zj (some ⟨bj,0,none⟩)]),(s+1,[U zd a])]) W4'):=((HTB2.o.keep (FrW.of_below (Aj bj) hB)).one c1 (hnx _ (by omega))).one c0 (hnx _ (by omega))
  have HP4':=Aa (HP2.o.over (Aj bj) hB)
  have HT4':=Aa (HT2.o.over (Aj bj) hB)
  have HD4':Hx (DK bj D W4'):=⟨hK,hnx _ hD2⟩
  have hbd:Ov W4' W4'.drew:=(bD _)
  have HJ4:=Aa (HJ4'.o.over hbd)
  have HF4:=Aa (HF4'.o.trans (FrW.of_below (Aj bj) hbd))
  have HTB4:=Aa (HTB4'.o.keep (FrW.of_below (Aj bj) hbd))
  have HP4:=Aa (HP4'.o.over (Aj bj) hbd)
  have HT4:=Aa (HT4'.o.over (Aj bj) hbd)
  have HD4:=Aa (HD4'.o.keep (FrW.of_below (Aj bj) hbd))
  have HO4:=Aa (HLO.o _ HJ4.o)
  have HS4:=Aa (HS7.o _ HJ4.o HTB4.o)
  obtain ⟨u0,u1,u2,u3,u4,u5,u6,u7,u8,u9,u10,u11,u12,u13,u14⟩:=HS7.o _ HJ4'.o HTB4'.o
  clear HJ4' HF4' HTB4' HP4' HT4' HD4' hbd hK c0 f0 c1 f1 hB hnx hD hD2 HST HI0 HBEL HJ2 HF2 HTB2 HP2 HT2 y3 y4 y5
  rw [<-hbh,<-hbm]
  clear hbm hbh
  go_wp2_with fail
  refine Ie ?_
  refine gS (Nx W bj c bv ov bl ol p1 q1 r1 p2 q2 r2 bo a1 a2 a3 a4 a5 a6) (HS4.o) fun hHeld=>?_
  refine kT 0 ?_
  refine kT 1 ?_
  refine kT 2 ?_
  refine kT 3 ?_
  refine kT 4 ?_
  refine kT 5 ?_
  refine kT 6 ?_
  refine rdA 7 rfl fun K hK=>?_
  go_simp
  refine (KF.o _ HJ4.o HP4.o HO4.o).mono ?_
  rintro e W5 ⟨rfl,hb5⟩
  have HJ5:=Aa (HJ4.o.over hb5)
  have HTB5:=Aa (HTB4.o.keep (FrW.of_below (Aj bj) hb5))
  have HF5:=Aa (HF4.o.trans (FrW.of_below (Aj bj) hb5))
  have HT5:=Aa (HT4.o.over (Aj bj) hb5)
  have HP5:=Aa (HP4.o.over (Aj bj) hb5)
  have HD5:=Aa (HD4.o.keep (FrW.of_below (Aj bj) hb5))
  have HS5:=Aa (HS7.o W5 HJ5.o HTB5.o)
  clear hb5
  go_simp
  refine xK hK (HS5.o) fun hHeld=>?_
  clear hK K
  refine kT 8 ?_
  refine rdA 9 rfl fun K hK=>?_
  go_simp
  refine (KB.o _ HJ5.o ((HTB5.o.row 7 rfl) 0 _ rfl) ((HTB5.o.row 8 rfl) 0 _ rfl) (HTB5.o.off 7 rfl) (HTB5.o.off 8 rfl) HFL0.o 5 _).mono ?_
  rintro e W6 ⟨rfl,⟨fv6,hJ6⟩,hF6⟩
  have HJ6:=Aa hJ6
  have HTB6:=Aa (HTB5.o.keep hF6)
  have HF6:=Aa (HF5.o.trans hF6)
  have HT6:=Aa (HT5.o.keep HN1.o hF6)
  have HP6:=Aa (HP5.o.keep HN1.o hF6)
  have HD6:=Aa (HD5.o.keep hF6)
  have HS6:=Aa (HS7.o W6 HJ6.o HTB6.o)
  clear hJ6 hF6
  go_simp
  refine xK hK (HS6.o) fun hHeld=>?_
  clear hK K
  refine gE ?_
  refine AG ?_
  have g0:=(HTB6.o.row 0 rfl) 0 _ rfl
  go_wp2_with fail
  refine (KB.o _ HJ6.o ((HTB6.o.row 7 rfl) 0 _ rfl) ((HTB6.o.row 8 rfl) 0 _ rfl) (HTB6.o.off 7 rfl) (HTB6.o.off 8 rfl) HFL1.o 6 _).mono ?_
  rintro e W7 ⟨rfl,⟨fv7,hJ7⟩,hF7⟩
  have HJ7:=Aa hJ7
  have HTB7:=Aa (HTB6.o.keep hF7)
  have HF7:=Aa (HF6.o.trans hF7)
  have HT7:=Aa (HT6.o.keep HN1.o hF7)
  have HP7:=Aa (HP6.o.keep HN1.o hF7)
  have HD7:=Aa (HD6.o.keep hF7)
  have g1:=(HTB7.o.row 1 rfl) 0 _ rfl
  clear hJ7 hF7 g0
  go_wp2_with fail
  refine (KB.o _ HJ7.o ((HTB7.o.row 7 rfl) 0 _ rfl) ((HTB7.o.row 8 rfl) 0 _ rfl) (HTB7.o.off 7 rfl) (HTB7.o.off 8 rfl) HFL2.o 7 _).mono ?_
  rintro e W8 ⟨rfl,⟨fv8,hJ8⟩,hF8⟩
  have HJ8:=Aa hJ8
  have HTB8:=Aa (HTB7.o.keep hF8)
  have HF8:=Aa (HF7.o.trans hF8)
  have HT8:=Aa (HT7.o.keep HN1.o hF8)
  have HP8:=Aa (HP7.o.keep HN1.o hF8)
  have HD8:=Aa (HD7.o.keep hF8)
  have g4:=(HTB8.o.row 4 rfl) 0 _ rfl
  clear hJ8 hF8 g1
  go_wp2_with fail
  refine (KS1.o _ HJ8.o ((HTB8.o.row 2 rfl) 1 _ rfl) ((HTB8.o.row 3 rfl) 1 _ rfl) HT8.o).mono ?_
  rintro e W9 ⟨rfl,hb9⟩
  have HJ9:=Aa (HJ8.o.over hb9)
  have HTB9:=Aa (HTB8.o.keep (FrW.of_below (Aj bj) hb9))
  have HF9:=Aa (HF8.o.trans (FrW.of_below (Aj bj) hb9))
  have HT9:=Aa (HT8.o.over (Aj bj) hb9)
  have HP9:=Aa (HP8.o.over (Aj bj) hb9)
  have HD9:=Aa (HD8.o.keep (FrW.of_below (Aj bj) hb9))
  clear hb9 g4
  go_wp2_with fail
  refine (KB.o _ HJ9.o ((HTB9.o.row 7 rfl) 0 _ rfl) ((HTB9.o.row 8 rfl) 0 _ rfl) (HTB9.o.off 7 rfl) (HTB9.o.off 8 rfl) HFL3.o 8 _).mono ?_
  rintro e W10 ⟨rfl,⟨fv10,hJ10⟩,hF10⟩
  have HJ10:=Aa hJ10
  have HTB10:=Aa (HTB9.o.keep hF10)
  have HF10:=Aa (HF9.o.trans hF10)
  have HT10:=Aa (HT9.o.keep HN1.o hF10)
  have HP10:=Aa (HP9.o.keep HN1.o hF10)
  have HD10:=Aa (HD9.o.keep hF10)
  have g4:=(HTB10.o.row 4 rfl) 0 _ rfl
  clear hJ10 hF10
  go_wp2_with fail
  refine (KS2.o _ HJ10.o ((HTB10.o.row 2 rfl) 1 _ rfl) ((HTB10.o.row 6 rfl) 1 _ rfl) ((HTB10.o.row 4 rfl) 0 _ rfl) HT10.o HP10.o).mono ?_
  rintro e W11 ⟨rfl,hb11⟩
  have HJ11:=Aa (HJ10.o.over hb11)
  have HTB11:=Aa (HTB10.o.keep (FrW.of_below (Aj bj) hb11))
  have HF11:=Aa (HF10.o.trans (FrW.of_below (Aj bj) hb11))
  have HT11:=Aa (HT10.o.over (Aj bj) hb11)
  have HP11:=Aa (HP10.o.over (Aj bj) hb11)
  have HD11:=Aa (HD10.o.keep (FrW.of_below (Aj bj) hb11))
  clear hb11 g4
  go_wp2_with fail
  refine (KB.o _ HJ11.o ((HTB11.o.row 7 rfl) 0 _ rfl) ((HTB11.o.row 8 rfl) 0 _ rfl) (HTB11.o.off 7 rfl) (HTB11.o.off 8 rfl) HFL4.o 9 _).mono ?_
  rintro e W12 ⟨rfl,⟨fv12,hJ12⟩,hF12⟩
  have HJ12:=Aa hJ12
  have HTB12:=Aa (HTB11.o.keep hF12)
  have HF12:=Aa (HF11.o.trans hF12)
  have HT12:=Aa (HT11.o.keep HN1.o hF12)
  have HP12:=Aa (HP11.o.keep HN1.o hF12)
  have HD12:=Aa (HD11.o.keep hF12)
  clear hJ12 hF12
  go_wp2_with fail
  have hK:=HD12.o.1
  have hfin:AW c.cs w0 bj av (addF a 9 (addF a 8 (addF a 7 (addF a 6 (addF a 5 fl (!f5)) f6) f7) f8) f9) fv12 (W12.putObj D (.deferred none)):=HJ12.o.grown (grownBy_putObj' _ D (.deferred none)) hK rfl (HDW.o)
  have hfr:FrW (XJ bj) W (W12.putObj D (.deferred none)):=Nc HF12.o HJ12.o hK rfl HDW2.o
  refine ⟨by simp,.inl ⟨_,_,rfl,run_takeDeferred hK,?_⟩⟩
  exact ⟨zm #[],by simp [results,Tryz.f152,go_sem],rfl,⟨fv12,hfin⟩,hfr⟩
 case stop=>
  rintro D c pre W _ _ h _
  exact h.elim
end Go.Proofs.YtfffpjkcfnekaaaGreat.Ex
