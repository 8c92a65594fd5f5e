/- One who judges: a command that reveals. -/
import Derived.Laws.EntriesVeiled
import Derived.Test.YtfffpjkcfnekaaaGreatF11
set_option linter.unusedVariables false
set_option maxHeartbeats 8000000
set_option maxRecDepth 100000
namespace Go.Proofs.YtfffpjkcfnekaaaGreat.Ex
open Go.RowKit Go.Shelf
open Go.Value renaming slice -> O, int -> U, bool -> zg, agg -> zh, pointer -> zj, tuple -> zm
open Go.IntKind renaming i64 -> zd
open Go.Obj renaming cells -> ze
open Go.Ending renaming returned -> zk
attribute [local go_sem] Oper.semAt_some
theorem Ha {W:World} {b j:Nat} {v:Value} {o:Obj} (hc:W.cell? ⟨b,j,none⟩=some v) (ho:W.heap[b]? = some o):o.isCells=true:=by
 cases o <;> simp_all [World.cell?,Obj.isCells]
def RvI (s:Nat) (fm fh:Int->Bool) (nv:Nat) (pre:List (D4 nv)) (W:World):Prop:=
 W.cell? ⟨s,0,none⟩=some (zg ((pre.map Subtype.val).any fm))/\W.frozen? ⟨s,0,none⟩=false/\W.cell? ⟨s+1,0,none⟩=some (zg ((pre.map Subtype.val).any fh))/\W.frozen? ⟨s+1,0,none⟩=false
theorem Mf (s:Nat) (fm fh:Int->Bool) (nv:Nat):Own (RvI s fm fh nv):=by
 rintro pre A B row ⟨c0,f0,c1,f1⟩ hg hr
 exact ⟨cell_kept c0 hg hr,(frozen_kept c0 hg hr).trans f0,cell_kept c1 hg hr,(frozen_kept c1 hg hr).trans f1⟩
theorem Me {fm fh:Int->Bool} {nv:Nat} {pre:List (D4 nv)} {x:D4 nv} {w W W2:World} {m0 h0 m1 h1:Bool} (c0:W.cell? ⟨w.heap.size,0,none⟩=some (zg m0)) (f0:W.frozen? ⟨w.heap.size,0,none⟩=false) (c1:W.cell? ⟨w.heap.size+1,0,none⟩=some (zg h0)) (f1:W.frozen? ⟨w.heap.size+1,0,none⟩=false) (hm:(pre.map Subtype.val).any fm=m0) (hh:(pre.map Subtype.val).any fh=h0) (hB:Ov w W) (hb2:Ov W W2) (hm1:m1=(m0 || fm x.1)) (hh1:h1=(h0 || fh x.1)) :
  KeepsOthers W ((W2.setCell ⟨w.heap.size,0,none⟩ (zg m1)).setCell ⟨w.heap.size+1,0,none⟩ (zg h1))/\Below w.heap.size W ((W2.setCell ⟨w.heap.size,0,none⟩ (zg m1)).setCell ⟨w.heap.size+1,0,none⟩ (zg h1))/\RvI w.heap.size fm fh nv (pre++[x]) ((W2.setCell ⟨w.heap.size,0,none⟩ (zg m1)).setCell ⟨w.heap.size+1,0,none⟩ (zg h1))/\Ov w ((W2.setCell ⟨w.heap.size,0,none⟩ (zg m1)).setCell ⟨w.heap.size+1,0,none⟩ (zg h1)):=by
 have hs:=bL c1
 have hs0:=bL c0
 have hBW:Below w.heap.size W ((W2.setCell ⟨w.heap.size,0,none⟩ (zg m1)).setCell ⟨w.heap.size+1,0,none⟩ (zg h1)):=((hb2.mono hB.size).setCell (Nat.le_refl _) _).setCell (by simp) _
 refine ⟨(Fc hb2).trans ((KeepsOthers.setCell _ _ _).trans (KeepsOthers.setCell _ _ _)),hBW,?_,hB.trans hBW⟩
 refine ⟨?_,?_,?_,?_⟩
 ·have e:=Ab hb2 _ _ c0
  rw [List.map_append,List.any_append,hm]
  simp [go_sem,e,hm1]
 ·simp [go_sem,((Ap hb2).2 _ _ hs0).trans f0]
 ·have e:=Ab hb2 _ _ c1
  rw [List.map_append,List.any_append,hh]
  simp [go_sem,e,hh1]
 ·simp [go_sem,((Ap hb2).2 _ _ hs).trans f1]
theorem AU.grown {cs:List Value} {w0:World} {bj:Nat} {av:Value} {fl:List (Int × Int)} {fv:Value} {A B:World} {r:Nat} {o:Obj} (h:AU cs w0 bj av fl fv A) (hg:A.grownBy B (some r)) (hr:A.heap[r]? = some o) (ho:o.isCells=false) (hlo:w0.heap.size<=r):AU cs w0 bj av fl fv B:=by
 have hc:∀ q,(some r:Option Nat)=some q->∃ o:Obj,A.heap[q]? = some o/\o.isCells=false:=fun q e=>by injection e with e;subst e;exact ⟨o,hr,ho⟩
 have hne:fv.ownBlock≠some r:=fun e=>by
  rcases h.own.2 with ⟨h1,-⟩ | ⟨g,cap,cur,h1,hb,hh,-⟩
  ·rw [h1] at e;simp [Value.ownBlock] at e
  ·rw [h1] at e
   simp [Value.ownBlock] at e
   subst e
   rw [hr] at hh
   injection hh with hh
   subst hh
   simp [Obj.isCells] at ho
 refine ⟨h.below.trans ⟨hg.os,hg.tape,hg.output,hg.size,fun k hk=>hg.block k (Nat.lt_of_lt_of_le hk h.below.size) (fun e=>by injection e with e;omega)⟩,fun j u hu=>cell_kept (h.row j u hu) hg hc,fun j=>?_,h.own.kept hg (Or.inr hne),h.ap,⟨h.lo.1,Nat.lt_of_lt_of_le h.lo.2 hg.size⟩,h.len⟩
 have hbr:bj≠r:=fun e=>by
  have h11:=h.c11
  obtain ⟨o',ho',hco⟩:=hc r rfl
  subst e
  exact absurd (Ha h11 ho') (by rw [hco];simp)
 exact (World.frozen?_of_block (a:=⟨bj,j,none⟩) (hg.block bj h.lo.2 (fun e=>by injection e with e;exact hbr e))).trans (h.fz j)
def DK (bj D:Nat) (W:World):Prop:=W.heap[D]? = some (.deferred (some []))/\¬ XJ bj W D
theorem DK.keep {bj D:Nat} {W W':World} (h:DK bj D W) (hf:FrW (XJ bj) W W'):DK bj D W':=
 have hlt:D < W.heap.size:=(Array.getElem?_eq_some_iff.1 h.1).1
 ⟨(hf.block D hlt h.2).trans h.1,fun e=>h.2 (hf.mov D hlt e)⟩
theorem TB.one {bj b:Nat} {v:Value} {L:List (Nat × List Value)} {W:World} (h:TB bj L W) (hc:W.cell? ⟨b,0,none⟩=some v) (hx:¬ XJ bj W b):TB bj ((b,[v])::L) W:=
 h.add (fun j u hu=>by match j with | 0=>simp at hu;subst hu;exact hc | j+1=>simp at hu) hx (bL hc)
theorem MG {cs:List Value} {w0:World} {bj:Nat} {av:Value} {fl:List (Int × Int)} {fv:Value} {W A:World} {D:Nat} {o o':Obj} (hf:FrW (XJ bj) W A) (h:AU cs w0 bj av fl fv A) (hr:A.heap[D]? = some o) (ho:o.isCells=false) (hlo:W.heap.size<=D):FrW (XJ bj) W (A.putObj D o'):=by
 have hg:=grownBy_putObj' A D o'
 refine ⟨hg.os.trans hf.os,hg.tape.trans hf.tape,hg.output.trans hf.output,Nat.le_trans hf.size hg.size,fun k hk hx=>(hg.block k (Nat.lt_of_lt_of_le hk hf.size) (fun e=>by injection e with e;omega)).trans (hf.block k hk hx),fun k hk hx=>hf.mov k hk ?_⟩
 rcases hx with hx | hx | ⟨v,hv,hw⟩
 ·exact Or.inl (Nat.le_trans hg.size hx)
 ·exact Or.inr (Or.inl hx)
 ·refine Or.inr (Or.inr ⟨v,?_,hw⟩)
  have:=cell_kept h.c11 hg (fun q e=>by injection e with e;subst e;exact ⟨o,hr,ho⟩)
  rw [this] at hv
  injection hv with hv
  rw [<-hv]
  exact h.c11
abbrev M4 (W:World) (bj:Nat) (c:WC) (bv ov bl ol jv:Nat) (ek en:Int) (xa:Option Addr) (xl xc:Nat) (a1:Option Addr) (a2 a3:Nat) (a4:Option Addr) (a5 a6:Nat) (Wz:World):Prop:=Wz.cell? ⟨W.heap.size,0,none⟩=some (zj (some ⟨bj,0,none⟩))/\Wz.cell? ⟨bj,0,none⟩=some (U zd (c.n:Int))/\Wz.cell? ⟨bj,1,none⟩=some (O c.ga c.gn c.gc)/\Wz.cell? ⟨bj,2,none⟩=some (O c.sa c.sn c.sc)/\Wz.cell? ⟨bj,3,none⟩=some (O c.ya c.yn c.yc)/\Wz.cell? ⟨bj,4,none⟩=some (O c.oa c.on c.oc)/\Wz.cell? ⟨bj,5,none⟩=some (O (some ⟨bv,ov,none⟩) c.vn c.vc)/\Wz.cell? ⟨bj,6,none⟩=some (O c.fa c.fn c.fc)/\Wz.cell? ⟨bj,7,none⟩=some (O c.ba c.bn c.bc)/\Wz.cell? ⟨bj,8,none⟩=some (O (some ⟨bl,ol,none⟩) c.ln c.lc)/\Wz.cell? ⟨bj,9,none⟩=some (O c.ka c.kn c.kc)/\Wz.cell? ⟨W.heap.size+1,1,none⟩=some (U zd (jv:Int))/\Wz.cell? ⟨W.heap.size+1,3,none⟩=some (U zd ek)/\Wz.cell? ⟨W.heap.size+1,4,none⟩=some (U zd en)/\Wz.cell? ⟨W.heap.size+1,5,none⟩=some (O xa xl xc)/\Wz.cell? ⟨bl,ol+jv*2,none⟩=some (O a1 a2 a3)/\Wz.cell? ⟨bl,ol+jv*2+1,none⟩=some (O a4 a5 a6)
abbrev M3 (W:World) (bj:Nat) (c:WC) (bv ov bl ol:Nat) (p1:Option Addr) (q1 r1:Nat) (p2:Option Addr) (q2 r2 bo:Nat) (a1:Option Addr) (a2 a3:Nat) (a4:Option Addr) (a5 a6:Nat) (Wz:World):Prop:=Wz.cell? ⟨W.heap.size,0,none⟩=some (zj (some ⟨bj,0,none⟩))/\Wz.cell? ⟨bj,0,none⟩=some (U zd (c.n:Int))/\Wz.cell? ⟨bj,1,none⟩=some (O c.ga c.gn c.gc)/\Wz.cell? ⟨bj,2,none⟩=some (O c.sa c.sn c.sc)/\Wz.cell? ⟨bj,3,none⟩=some (O c.ya c.yn c.yc)/\Wz.cell? ⟨bj,4,none⟩=some (O c.oa c.on c.oc)/\Wz.cell? ⟨bj,5,none⟩=some (O (some ⟨bv,ov,none⟩) c.vn c.vc)/\Wz.cell? ⟨bj,6,none⟩=some (O c.fa c.fn c.fc)/\Wz.cell? ⟨bj,7,none⟩=some (O c.ba c.bn c.bc)/\Wz.cell? ⟨bj,8,none⟩=some (O (some ⟨bl,ol,none⟩) c.ln c.lc)/\Wz.cell? ⟨bj,9,none⟩=some (O c.ka c.kn c.kc)/\Wz.cell? ⟨W.heap.size+1+1,0,none⟩=some (O p1 q1 r1)/\Wz.cell? ⟨W.heap.size+1+1,1,none⟩=some (O p2 q2 r2)/\Wz.cell? ⟨bo,0,none⟩=some (O a1 a2 a3)/\Wz.cell? ⟨bo,1,none⟩=some (O a4 a5 a6)
abbrev Kx (W:World) (bj bv ov:Nat) (c:WC) (j:Nat) (kn:Bool) (pa1:Option Addr) (pn1 pc1:Nat) (Wz:World):Prop:=Wz.cell? ⟨W.heap.size,0,none⟩=some (zj (some ⟨bj,0,none⟩))/\Wz.cell? ⟨bj,5,none⟩=some (O (some ⟨bv,ov,none⟩) c.vn c.vc)/\Wz.cell? ⟨bv,ov+j*3,none⟩=some (zg kn)/\Wz.cell? ⟨bv,ov+j*3+1,none⟩=some (O pa1 pn1 pc1)
theorem Mh (c) (w0:World) (bj:Nat) (av:Value) (gs Ls Fs) (J:JSt c w0 gs Ls Fs) (sp) (A:JAc c w0 av (AB gs) sp) (K ni no:Nat) (fs vs) (hvs:Bo w0 (O c.va c.vn c.vc) vs) (hvn:vs.length=Ls.length) (hvc:∀ v∈vs,Bq c.n gs v.2=0) :
  E5 c w0 bj av K Ls.length ni no fs 5 (Dm c.n K (AB gs) sp Ls vs) 152:=by
 intro fl fv s a k cs lv d p funcs W hfl h hbox hl hrs hok hk
 obtain ⟨p1,q1,r1,p2,q2,r2,hlv⟩:=hl.form
 have hlv':lv=[O p1 q1 r1,O p2 q2 r2]:=by simpa using hlv
 subst hlv'
 clear hlv
 obtain ⟨ek,en,xa,xl,xc,aa,ac,ta,tc,ea,ec,rfl,i0,i1,i2,hX,hA,hT,hE,-,-,-⟩:=hrs.form
 have hv2:=hok.2.1 (by omega)
 obtain ⟨jv,hjv⟩:∃ j:Nat,AJ d=(j:Int):=⟨(AJ d).toNat,by omega⟩
 have hjl:jv < Ls.length:=by omega
 have hjw:jv < vs.length:=by omega
 obtain ⟨bl,ol,a1,a2,a3,a4,a5,a6,hla,hln,k0,k1,hlev⟩:=CW J.levs hjl
 have hVS:=hvs
 obtain ⟨hym,va',vc',hve,hvel⟩:=hvs
 injection hve with v1 v2 v3
 obtain ⟨bv,ov,hvo,hvel⟩:=hvel (by rintro rfl;simp at hjw)
 have hva:c.va=some ⟨bv,ov,none⟩:=v1.trans hvo
 have hvn2:c.vn=vs.length:=v2
 have hkd:sC (Ak d) (AJ d) (Ag d) ek en xa xl xc aa (An d).length ac ta (Ar d).length tc ea (Av d).length ec=sC 5 (jv:Int) (Ag d) ek en xa xl xc aa (An d).length ac ta (Ar d).length tc ea (Av d).length ec:=by rw [hk,hjv]
 rw [hkd]
 clear hkd
 obtain ⟨ot,hot⟩:=nm (Ag d)
 obtain ⟨al,hal⟩:=nm ((An d).length)
 obtain ⟨tn,htn⟩:=nm ((Ar d).length)
 obtain ⟨el,hel⟩:=nm ((Av d).length)
 rw [<-hot,<-hal,<-htn,<-hel]
 have hgd:Ls.getD (AJ d).toNat AE=Ls[jv]:=by rw [hjv];simp [List.getD_eq_getElem?_getD,hjl]
 obtain ⟨lz,hlz⟩:=nm (Ls[jv])
 have hlzl:lz.len c.n:=by rw [hlz];exact J.lens _ (List.getElem_mem hjl)
 rw [<-hlz] at hlev hgd
 have hgv:vs.getD (AJ d).toNat (false,⟨[],[]⟩)=vs[jv]:=by rw [hjv];simp [List.getD_eq_getElem?_getD,hjw]
 have hcv:c.v=(zh #[U zd (c.n:Int),O c.ga c.gn c.gc,O c.sa c.sn c.sc,O c.ya c.yn c.yc,O c.oa c.on c.oc,O (some ⟨bv,ov,none⟩) c.vn c.vc,O c.fa c.fn c.fc,O c.ba c.bn c.bc,O (some ⟨bl,ol,none⟩) c.ln c.lc,O c.ka c.kn c.kc]):=by show Value.agg #[U zd (c.n:Int),O c.ga c.gn c.gc,O c.sa c.sn c.sc,O c.ya c.yn c.yc,O c.oa c.on c.oc,O c.va c.vn c.vc,O c.fa c.fn c.fc,O c.ba c.bn c.bc,O c.la c.ln c.lc,O c.ka c.kn c.kc]=_;rw [hva,hla]
 obtain ⟨V1,hV1⟩:=nm ((((W.alloc (ze #[zj (some ⟨bj,0,none⟩)] 161)).alloc (ze #[U zd 5,U zd (jv:Int),U zd ot,U zd ek,U zd en,O xa xl xc,O aa al ac,O ta tn tc,O ea el ec] 130)).alloc (ze #[O p1 q1 r1,O p2 q2 r2] 50)))
 have hb1:Ov W V1:=by rw [hV1];exact ((bA W _).alloc (by simp) _).alloc (by simp <;> omega) _
 obtain ⟨tl,htl⟩:=nm ((AX c.n Ls (Bu c.n) (AC K (AR d))))
 have HJ1:=Aa (h.over hb1)
 have HN1:=Aa J.n1
 have HLO:=Aa (fun (W2:World) {fl2:List (Int × Int)} {fv2:Value} (h2:AU c.cs w0 bj av fl2 fv2 W2)=>FE J.n1 h2 hlev hlzl)
 have KBot:Hx (∀ (W2:World),Calls Tryz.prog 104 #[(zh #[U zd (c.n:Int),O c.ga c.gn c.gc,O c.sa c.sn c.sc,O c.ya c.yn c.yc,O c.oa c.on c.oc,O (some ⟨bv,ov,none⟩) c.vn c.vc,O c.fa c.fn c.fc,O c.ba c.bn c.bc,O (some ⟨bl,ol,none⟩) c.ln c.lc,O c.ka c.kn c.kc])] W2 fun e w'=>∃ vj,e=zk vj/\Bh W2 w' vj (Bu c.n)/\Ov W2 w'):=fun W2=>by
  have:=EE c.n J.n1 J.n6 c.ga c.gn c.gc c.sa c.sn c.sc c.ya c.yn c.yc c.oa c.on c.oc c.va c.vn c.vc c.fa c.fn c.fc c.ba c.bn c.bc c.la c.ln c.lc c.ka c.kn c.kc W2
  rw [hva,hla] at this
  exact this
 have KW:Hx (∀ (W2:World) {x:Value},AU c.cs w0 bj av fl fv W2->AW c.n (XJ bj) W2 x (Bu c.n)->Calls Tryz.prog 103 #[(zh #[U zd (c.n:Int),O c.ga c.gn c.gc,O c.sa c.sn c.sc,O c.ya c.yn c.yc,O c.oa c.on c.oc,O (some ⟨bv,ov,none⟩) c.vn c.vc,O c.fa c.fn c.fc,O c.ba c.bn c.bc,O (some ⟨bl,ol,none⟩) c.ln c.lc,O c.ka c.kn c.kc]),x,zh #[U zd ek,U zd en,O xa xl xc]] W2 fun e w'=>(∃ p1 q1 r1 p2 q2 r2,e=zk (zh #[O p1 q1 r1,O p2 q2 r2])/\AW c.n (XJ bj) w' (zh #[O p1 q1 r1,O p2 q2 r2]) tl)/\Ov W2 w'):=fun W2 x h2 hx=>by
  have:=Hj J h2 x (Bu c.n) K [U zd ek,U zd en,O xa xl xc] (AR d) hx hX (BB hok)
  rw [hcv,<-htl] at this
  exact this
 obtain ⟨f5,hf5⟩:=nm (Ay p lz c.n)
 have KF:Hx (∀ (W2:World) {fl2:List (Int × Int)} {fv2 x y:Value},AU c.cs w0 bj av fl2 fv2 W2->AW c.n (XJ bj) W2 x p->AW c.n (XJ bj) W2 y lz->Calls Tryz.prog 57 #[(zh #[U zd (c.n:Int),O c.ga c.gn c.gc,O c.sa c.sn c.sc,O c.ya c.yn c.yc,O c.oa c.on c.oc,O (some ⟨bv,ov,none⟩) c.vn c.vc,O c.fa c.fn c.fc,O c.ba c.bn c.bc,O (some ⟨bl,ol,none⟩) c.ln c.lc,O c.ka c.kn c.kc]),x,y] W2 fun e W'=>e=zk (zg f5)/\Ov W2 W'):=fun W2 fl2 fv2 x y h2 hx hy=>by
  have:=FR c gs x y _ _ W2 (Af J.gr h2.below) J.chk hx.at_ hx.len hy.at_ hy.len
  rw [hcv,<-hf5] at this
  exact this
 have KB:=Aa (fun (W2:World) {fl2:List (Int × Int)} {fv2:Value} (h2:AU c.cs w0 bj av fl2 fv2 W2) (hj:W2.cell? ⟨s,0,none⟩=some (zj (some ⟨bj,0,none⟩))) (ha:W2.cell? ⟨s+1,0,none⟩=some (U zd a)) (nj:¬ XJ bj W2 s) (na:¬ XJ bj W2 (s+1)) (hl2:fl2.length<=1000) (k:Int) (is:Bool)=>E2 c.cs w0 bj av fl2 fv2 a k is s (s+1) W2 h2 hj ha nj na hl2)
 obtain ⟨fm,hfm⟩:∃ g:Int->Bool,g=fun v=>(DF vs v).2.r.any fun q=>Es (AB gs) c.n sp q.owner.toNat:=⟨_,rfl⟩
 obtain ⟨fh,hfh⟩:∃ g:Int->Bool,g=fun v=>!(DF vs v).1:=⟨_,rfl⟩
 have HMUTE:Hx (∀ (j:Nat) (hj:j < vs.length) (W2:World),AU c.cs w0 bj av fl fv W2->∀ x,AI W2 x vs[j].2.r->Calls Tryz.prog 202 #[zj (some ⟨bj,0,none⟩),x] W2 fun e W'=>e=zk (zg (fm (j:Int)))/\Ov W2 W'):=fun j hj W2 h2 x hx=>by
  have hlab:=H4 (hvc vs[j] (List.getElem_mem hj))
  have:=Nf c w0 bj av fl fv (AB gs) sp A _ _ W2 h2 J.n6 hx (by have:=hlab.1.1;omega) (fun q hq=>(hlab.1.2 q hq).1)
  have e:DF vs (j:Int)=vs[j]:=by unfold DF;simp [List.getD_eq_getElem?_getD,hj]
  rw [hfm]
  dsimp only
  rw [e]
  exact this
 have HKN:Hx (∀ (j:Nat) (hj:j < vs.length),fh (j:Int)=!vs[j].1):=fun j hj=>by
  have e:DF vs (j:Int)=vs[j]:=by unfold DF;simp [List.getD_eq_getElem?_getD,hj]
  rw [hfh]
  dsimp only
  rw [e]
 unfold Dm toL Fu
 rw [hgd,<-hf5,<-htl,<-hfm,<-hfh]
 obtain ⟨f6,hf6⟩:=nm ((AC K (AR d)).any fm)
 obtain ⟨f7,hf7⟩:=nm ((AC K (AR d)).any fh)
 obtain ⟨f8,hf8⟩:=nm (((List.range c.n).any fun i=>tl.w[i]?.getD false && !(lz.w[i]?.getD false)))
 obtain ⟨f9,hf9⟩:=nm (((List.range c.n).any fun i=>(tl.w[i]?.getD false || p.w[i]?.getD false) && !Ie (AB gs) c.n sp i))
 rw [<-hf6,<-hf7,<-hf8,<-hf9]
 have KS1:Hx (∀ (W2:World) {fl2:List (Int × Int)} {fv2:Value} {bt bo:Nat} {u1 u2:Value},AU c.cs w0 bj av fl2 fv2 W2->W2.cell? ⟨bt,1,none⟩=some u2->W2.cell? ⟨bo,1,none⟩=some (O a4 a5 a6)->AW c.n (XJ bj) W2 (zh #[u1,u2]) tl->Calls Tryz.prog 203 #[zj (some ⟨bj,0,none⟩),.func (.func 204) #[] #[zj (some ⟨bt,0,none⟩),zj (some ⟨bo,0,none⟩)]] W2 fun e W'=>e=zk (zg f8)/\Ov W2 W'):=fun W2 fl2 fv2 bt bo u1 u2 h2 ht ho hlt=>by
  rw [hf8]
  have hlo:=HLO.o W2 h2
  obtain ⟨x,y,e1,-,b1⟩:=id hlo.at_
  obtain ⟨x',y',e2,-,b2⟩:=id hlt.at_
  simp at e1 e2
  obtain ⟨rfl,rfl⟩:=e1
  obtain ⟨rfl,rfl⟩:=e2
  refine EL c w0 bj av fl2 fv2 204 [zj (some ⟨bt,0,none⟩),zj (some ⟨bo,0,none⟩)] _ W2 h2 J.n6 (fun i hi w1 hb=>?_) Gg
  exact Lw c.n i bt bo _ _ _ _ w1 J.n6 hi (Ab hb _ _ ht) (Ab hb _ _ ho) (Ax b2 hb) hlt.len.2 (Ax b1 hb) hlo.len.2
 have KS2:Hx (∀ (W2:World) {fl2:List (Int × Int)} {fv2:Value} {bt bp b3:Nat} {u1 u2 u3 u4:Value},AU c.cs w0 bj av fl2 fv2 W2->W2.cell? ⟨bt,1,none⟩=some u2->W2.cell? ⟨bp,1,none⟩=some u4->W2.cell? ⟨b3,0,none⟩=some (zj (some ⟨bj,0,none⟩))->AW c.n (XJ bj) W2 (zh #[u1,u2]) tl->AW c.n (XJ bj) W2 (zh #[u3,u4]) p->Calls Tryz.prog 203 #[zj (some ⟨bj,0,none⟩),.func (.func 205) #[] #[zj (some ⟨bt,0,none⟩),zj (some ⟨bp,0,none⟩),zj (some ⟨b3,0,none⟩)]] W2 fun e W'=>e=zk (zg f9)/\Ov W2 W'):=fun W2 fl2 fv2 bt bp b3 u1 u2 u3 u4 h2 ht hp h3 hlt hlp=>by
  rw [hf9]
  obtain ⟨x,y,e1,-,b1⟩:=id hlp.at_
  obtain ⟨x',y',e2,-,b2⟩:=id hlt.at_
  simp at e1 e2
  obtain ⟨rfl,rfl⟩:=e1
  obtain ⟨rfl,rfl⟩:=e2
  refine EL c w0 bj av fl2 fv2 205 [zj (some ⟨bt,0,none⟩),zj (some ⟨bp,0,none⟩),zj (some ⟨b3,0,none⟩)] _ W2 h2 J.n6 (fun i hi w1 hb=>?_) Gf
  exact Lv c.n i bt bp b3 bj _ _ _ _ (Ie (AB gs) c.n sp i) w1 J.n6 hi (Ab hb _ _ ht) (Ab hb _ _ hp) (Ab hb _ _ h3) (Ax b2 hb) hlt.len.2 (Ax b1 hb) hlp.len.2 (fun W3 hb3=>N9 c w0 bj av fl2 fv2 (AB gs) sp A i W3 ((h2.over hb).over hb3) J.n6 hi)
 have hVS1:V1.heap.size=W.heap.size+1+1+1:=by rw [hV1];simp
 have HTB1:Hx (TB bj [(W.heap.size,[zj (some ⟨bj,0,none⟩)]),(W.heap.size+1,[U zd 5,U zd (jv:Int),U zd ot,U zd ek,U zd en,O xa xl xc,O aa al ac,O ta tn tc,O ea el ec]),(W.heap.size+1+1,[O p1 q1 r1,O p2 q2 r2]),(s,[zj (some ⟨bj,0,none⟩)]),(s+1,[U zd a])] V1):=by
  have hF:=FrW.of_below (Ai bj) hb1
  have hnx:∀ q,W.heap.size<=q->¬ XJ bj V1 q:=fun q hq e=>by have:=(h.xlt q ((Ai bj).below _ _ hb1 q e)).2;omega
  refine TB.add (TB.add (TB.add (TB.add (TB.add TB.nil ?_ ?_ ?_) ?_ ?_ ?_) ?_ (hnx _ (by omega)) (by omega)) ?_ (hnx _ (by omega)) (by omega)) ?_ (hnx _ (Nat.le_refl _)) (by omega)
  ·exact hF.row (fun j u hu=>by match j with | 0=>simp at hu;subst hu;exact hbox.a | j+1=>simp at hu) (hbox.x _ (by omega) (by omega))
  ·exact fun e=>hbox.x _ (by omega) (by omega) (hF.mov _ (by have:=hbox.lt;omega) e)
  ·have:=hbox.lt;have:=hF.size;omega
  ·exact hF.row (fun j u hu=>by match j with | 0=>simp at hu;subst hu;exact hbox.j | j+1=>simp at hu) (hbox.x _ (by omega) (by omega))
  ·exact fun e=>hbox.x _ (by omega) (by omega) (hF.mov _ (by have:=hbox.lt;omega) e)
  ·have:=hbox.lt;have:=hF.size;omega
  ·rw [hV1]
   have r:=Ae.new [O p1 q1 r1,O p2 q2 r2] 50 ((W.alloc (ze #[zj (some ⟨bj,0,none⟩)] 161)).alloc (ze #[U zd 5,U zd (jv:Int),U zd ot,U zd ek,U zd en,O xa xl xc,O aa al ac,O ta tn tc,O ea el ec] 130))
   simpa using r
  ·rw [hV1]
   have r:=(Ae.new [U zd 5,U zd (jv:Int),U zd ot,U zd ek,U zd en,O xa xl xc,O aa al ac,O ta tn tc,O ea el ec] 130 (W.alloc (ze #[zj (some ⟨bj,0,none⟩)] 161))).over (bA _ (ze #[O p1 q1 r1,O p2 q2 r2] 50))
   simpa using r
  ·rw [hV1]
   exact (Ae.new [zj (some ⟨bj,0,none⟩)] 161 W).over ((bA _ _).alloc (by simp) _)
 have HS:Hx (∀ (W2:World),Ov V1 W2->M4 W bj c bv ov bl ol jv ek en xa xl xc a1 a2 a3 a4 a5 a6 W2):=fun W2 hb2=>by
  have h2:=HJ1.o.over hb2
  exact ⟨((HTB1.o.row 0 rfl).over hb2) 0 _ rfl,h2.cw 0 _ rfl,h2.cw 1 _ rfl,h2.cw 2 _ rfl,h2.cw 3 _ rfl,h2.cw 4 _ rfl,by rw [<-hva];exact h2.cw 5 _ rfl,h2.cw 6 _ rfl,h2.cw 7 _ rfl,by rw [<-hla];exact h2.cw 8 _ rfl,h2.cw 9 _ rfl,((HTB1.o.row 1 rfl).over hb2) 1 _ rfl,((HTB1.o.row 1 rfl).over hb2) 3 _ rfl,((HTB1.o.row 1 rfl).over hb2) 4 _ rfl,((HTB1.o.row 1 rfl).over hb2) 5 _ rfl,Ab h2.below _ _ k0,Ab h2.below _ _ k1⟩
 have HS7:Hx (∀ (W2:World) {fl2:List (Int × Int)} {fv2:Value} {bm bh bt bo:Nat} {t1:Option Addr} {t2 t3:Nat} {t4:Option Addr} {t5 t6:Nat},AU c.cs w0 bj av fl2 fv2 W2->TB bj ([(bm,[zg f6]),(bh,[zg f7]),(bt,[O t1 t2 t3,O t4 t5 t6]),(bo,[O a1 a2 a3,O a4 a5 a6]),(W.heap.size,[zj (some ⟨bj,0,none⟩)]),(W.heap.size+1,[U zd 5,U zd (jv:Int),U zd ot,U zd ek,U zd en,O xa xl xc,O aa al ac,O ta tn tc,O ea el ec]),(W.heap.size+1+1,[O p1 q1 r1,O p2 q2 r2]),(s,[zj (some ⟨bj,0,none⟩)]),(s+1,[U zd a])]) W2->M3 W bj c bv ov bl ol p1 q1 r1 p2 q2 r2 bo a1 a2 a3 a4 a5 a6 W2):=fun W2 fl2 fv2 bm bh bt bo t1 t2 t3 t4 t5 t6 h2 r2=>⟨(r2.row 4 rfl) 0 _ rfl,h2.cw 0 _ rfl,h2.cw 1 _ rfl,h2.cw 2 _ rfl,h2.cw 3 _ rfl,h2.cw 4 _ rfl,by rw [<-hva];exact h2.cw 5 _ rfl,h2.cw 6 _ rfl,h2.cw 7 _ rfl,by rw [<-hla];exact h2.cw 8 _ rfl,h2.cw 9 _ rfl,(r2.row 6 rfl) 0 _ rfl,(r2.row 6 rfl) 1 _ rfl,(r2.row 3 rfl) 0 _ rfl,(r2.row 3 rfl) 1 _ rfl⟩
 have HB0:Hx (Ov V1 V1.drew):=(bD _)
 have HP1:=Aa (hl.over (Ai bj) hb1)
 have HF1:=Aa (FrW.of_below (Ai bj) hb1)
 have HFL0:Hx (fl.length<=1000):=by unfold Hx;omega
 have HFL1:Hx ((addF a 5 fl (!f5)).length<=1000):=Nat.le_trans (A5 _ _ _ _) (by omega)
 have HFL2:Hx ((addF a 6 (addF a 5 fl (!f5)) f6).length<=1000):=Nat.le_trans (A5 _ _ _ _) (by have:=A5 a 5 fl (!f5);omega)
 have HFL3:Hx ((addF a 7 (addF a 6 (addF a 5 fl (!f5)) f6) f7).length<=1000):=Nat.le_trans (A5 _ _ _ _) (by have:=A5 a 5 fl (!f5);have:=A5 a 6 (addF a 5 fl (!f5)) f6;omega)
 have HFL4:Hx ((addF a 8 (addF a 7 (addF a 6 (addF a 5 fl (!f5)) f6) f7) f8).length<=1000):=Nat.le_trans (A5 _ _ _ _) (by have:=A5 a 5 fl (!f5);have:=A5 a 6 (addF a 5 fl (!f5)) f6;have:=A5 a 7 (addF a 6 (addF a 5 fl (!f5)) f6) f7;omega)
 have gj1:(jv:Int) < (c.ln:Int):=by omega
 have gj2:c.ln<=16:=by rw [hln];exact J.l16
 have gj4:c.vn<=16:=by have:=J.l16;omega
 obtain ⟨ys,hys⟩:∃ ys:List (D4 Ls.length),ys.map Subtype.val=AC K (AR d):=K9 Ls.length _ (BB hok)
 have HYS:=Aa hys
 have HF6:=Aa hf6
 have HF7:=Aa hf7
 have HST':=Aa (fun (W2:World) (h2:AU c.cs w0 bj av fl fv W2) (W3:World) (hb3:Ov W2 W3) (bx:Nat) (hbx:bx < W3.heap.size) (k0:W3.cell? ⟨bx,0,none⟩=some (U zd ek)) (k1:W3.cell? ⟨bx,1,none⟩=some (U zd en)) (k2:W3.cell? ⟨bx,2,none⟩=some (O xa xl xc))=>Fr Fence.wide rfl 2 trivial trivial rfl Ls.length bx K W2 ek en xa xl xc (AR d) ys W3 hbx hb3 k0 k1 k2 (hX.over h2.below) hys)
 have HVE:=Aa hvel
 have HVA:=Aa hva
 have HVL:Hx (vs.length=Ls.length):=hvn
 have HVN:=Aa hvn2
 have HW0:Hx (w0.heap.size<=W.heap.size):=h.below.size
 obtain ⟨u0,u1,u2,u3,u4,u5,u6,u7,u8,u9,u10,u11,u12,u13,u14,u15,u16⟩:=HS.o _ (Below.refl _ _)
 clear hys hlz hlzl htl hfm hfh hf5 hf6 hf7 hf8 hf9 hVS1 hvn hgd hgv hcv hvo hva hvn2 hvel v1 v2 v3 hym hla hln k0 k1 hlev hjv hv2 hot hal htn hel hl hrs hX hA hT hE hok J A hVS hvc hfl hk i0 i1 i2 hjl hjw hb1 hbox h
 refine (callsIn_wide (n:=3)).1 ?_
 refine callsIn_of_wp_marks Tryz.func152 rfl trivial ?_ rfl
 simp only [Tryz.ntmps152,List.size_toArray,List.length_cons,List.length_nil,Nat.reduceAdd,Nat.reduceSub,Array.replicate_succ,Array.replicate_zero,List.push_toArray,List.append_toArray,List.nil_append,List.cons_append]
 refine wpIn_wide.2 ?_
 go_wp2_with fail
 rw [<-hV1]
 clear hV1
 refine CU (fun act2 W2=>∃ (bt bo:Nat) (x13 x14 x15 x16 x17 x18 x19 x20 x21 x22 x23 x24 x25 x26 x27 x28 x29 x30 x31 x32 x33 x34:Value) (t1:Option Addr) (t2 t3:Nat) (t4:Option Addr) (t5 t6:Nat),act2={ tmps:=#[zj (some ⟨bj,0,none⟩),zh #[U zd 5,U zd (jv:Int),U zd ot,U zd ek,U zd en,O xa xl xc,O aa al ac,O ta tn tc,O ea el ec],zh #[O p1 q1 r1,O p2 q2 r2],.func (.func 149) #[] #[zj (some ⟨s,0,none⟩),zj (some ⟨s+1,0,none⟩)],zj (some ⟨W.heap.size,0,none⟩),zj (some ⟨W.heap.size+1,0,none⟩),zj (some ⟨W.heap.size+1+1,0,none⟩),undef,zj (some ⟨bt,0,none⟩),zj (some ⟨bo,0,none⟩),undef,undef,undef,x13,x14,x15,x16,x17,x18,x19,x20,x21,x22,x23,x24,x25,x26,x27,x28,x29,x30,x31,x32,x33,x34,undef,undef,undef,undef,undef,undef,undef,undef,undef,undef,undef,undef,undef,undef,undef,undef,undef,undef,undef,undef,undef,undef,undef,undef,undef,undef,undef,undef,undef,undef,undef,undef,undef,undef,undef,undef,undef,undef,undef,undef,undef,undef,undef,undef,undef,undef,undef,undef,undef,undef,undef,undef,undef,undef,undef,undef,undef,undef,undef,undef],defers:=[] }/\Ov V1 W2/\Ae [O t1 t2 t3,O t4 t5 t6] W2 bt/\Ae [O a1 a2 a3,O a4 a5 a6] W2 bo/\AW c.n (XJ bj) W2 (zh #[O t1 t2 t3,O t4 t5 t6]) tl/\(V1.heap.size<=bt/\bt < W2.heap.size)/\(V1.heap.size<=bo/\bo < W2.heap.size)/\bt≠bo) ?_ ?_
 ·refine gS (M4 W bj c bv ov bl ol jv ek en xa xl xc a1 a2 a3 a4 a5 a6) (HS.o _ HB0.o) fun hHeld=>?_
  refine kT 0 ?_
  refine kT 1 ?_
  refine kT 2 ?_
  refine kT 3 ?_
  refine kT 4 ?_
  refine kT 5 ?_
  refine kT 6 ?_
  refine kT 7 ?_
  refine kT 9 ?_
  refine kT 10 ?_
  refine kT 12 ?_
  refine kT 13 ?_
  refine kT 14 ?_
  refine kT 15 ?_
  refine kT 16 ?_
  refine kT 17 ?_
  refine kT 18 ?_
  refine kT 19 ?_
  refine kT 20 ?_
  refine kT 21 ?_
  have HB:=HB0
  generalize V1.drew=Wc at HB hHeld ⊢
  clear HB0
  refine rdC 8 22 23 rfl (fun K h8=>?_) rfl (fun K h22=>?_) rfl (fun K h23=>?_) (by decide +kernel)
  all_goals repeat' first
   | (
    have hi:=h8
    clear hi
    go_simp
    refine (KBot.o _).mono ?_
    rintro e Wc ⟨vj,rfl,hL,hb⟩
    have hN:=BN hL
    have hA:=Ao hL
    obtain ⟨v1,v2,rfl,ho1,ho2,-⟩:=hL
    obtain ⟨y1,y2,y3,rfl⟩:=Aj ho1
    obtain ⟨y4,y5,y6,rfl⟩:=Aj ho2
    have hN:=EQ hN HB.o.size
    replace HB:=Aa (Ac HB.o hb)
    have HLB:=Aa (⟨hA,Gz _,Cs (Ai bj) HB.o (fun k hk=>(HJ1.o.xlt k hk).2) hN⟩:AW c.n (XJ bj) Wc _ (Bu c.n))
    (try replace HT:=Aa (HT.o.over hb))
    (try replace HO:=Aa (HO.o.over hb))
    clear hN hA ho1 ho2 hb
    go_simp
    refine xK h8 (HS.o _ HB.o) fun hHeld=>?_
    clear h8 K
    first | (refine rdC 11 22 23 rfl (fun K h11=>?_) rfl (fun K h22=>?_) rfl (fun K h23=>?_) (by decide +kernel)) | (refine rdA 11 rfl (fun K h11=>?_) (by decide +kernel)) | (refine rdB 11 22 rfl (fun K h11=>?_) rfl (fun K h22=>?_) (by decide +kernel)) | (refine rdB 11 23 rfl (fun K h11=>?_) rfl (fun K h23=>?_) (by decide +kernel)))
   | (
    have hi:=h11
    clear hi
    go_simp
    refine (KW.o _ (HJ1.o.over HB.o) HLB.o).mono ?_
    rintro e Wc ⟨⟨o1,o2,o3,o4,o5,o6,rfl,hL⟩,hb⟩
    replace HB:=Aa (Ac HB.o hb)
    (try replace HT:=Aa (HT.o.over hb))
    (try replace HO:=Aa (HO.o.over hb))
    have HLW:=Aa hL
    clear HLB hL hb
    go_simp
    refine xK h11 (HS.o _ HB.o) fun hHeld=>?_
    clear h11 K
    first | (refine rdB 22 23 rfl (fun K h22=>?_) rfl (fun K h23=>?_) (by decide +kernel)) | (refine rdA 24 rfl (fun K h24=>?_) (by decide +kernel)) | (refine rdA 22 rfl (fun K h22=>?_) (by decide +kernel)) | (refine rdA 23 rfl (fun K h23=>?_) (by decide +kernel)))
   | (
    have hi:=h22
    clear hi
    have hb:=bA Wc (ze #[O none 0 0,O none 0 0] 50)
    have hz:=GD 50 Wc
    have hgt:=HB.o.size
    obtain ⟨bt,hq⟩:∃ b:Nat,b=Wc.heap.size:=⟨_,rfl⟩
    rw [<-hq] at hz hgt
    (try have hbb:bt≠bo:=by have:=HO.o.lt;omega)
    go_simp
    rw [<-hq]
    obtain ⟨Wc,hWn⟩:=nm (Wc.alloc (ze #[O none 0 0,O none 0 0] 50))
    rw [<-hWn] at hb hz ⊢
    replace HB:=Aa (Ac HB.o hb)
    (try replace HO:=Aa (HO.o.over hb))
    (try replace HLB:=Aa (HLB.o.over (Ai bj) hb))
    (try replace HLW:=Aa (HLW.o.over (Ai bj) hb))
    have HT:=Aa hz
    clear hb hz hWn hq
    refine xK h22 (HS.o _ HB.o) fun hHeld=>?_
    clear h22 K
    first | (refine rdA 24 rfl (fun K h24=>?_) (by decide +kernel)) | (refine rdB 8 23 rfl (fun K h8=>?_) rfl (fun K h23=>?_) (by decide +kernel)) | (refine rdB 11 23 rfl (fun K h11=>?_) rfl (fun K h23=>?_) (by decide +kernel)) | (refine rdA 23 rfl (fun K h23=>?_) (by decide +kernel)) | (refine rdA 8 rfl (fun K h8=>?_) (by decide +kernel)) | (refine rdA 11 rfl (fun K h11=>?_) (by decide +kernel)))
   | (
    have hi:=h23
    clear hi
    have hb:=bA Wc (ze #[O none 0 0,O none 0 0] 50)
    have hz:=GD 50 Wc
    have hgo:=HB.o.size
    obtain ⟨bo,hq⟩:∃ b:Nat,b=Wc.heap.size:=⟨_,rfl⟩
    rw [<-hq] at hz hgo
    (try have hbb:bt≠bo:=by have:=HT.o.lt;omega)
    go_simp
    rw [<-hq]
    obtain ⟨Wc,hWn⟩:=nm (Wc.alloc (ze #[O none 0 0,O none 0 0] 50))
    rw [<-hWn] at hb hz ⊢
    replace HB:=Aa (Ac HB.o hb)
    (try replace HT:=Aa (HT.o.over hb))
    (try replace HLB:=Aa (HLB.o.over (Ai bj) hb))
    (try replace HLW:=Aa (HLW.o.over (Ai bj) hb))
    have HO:=Aa hz
    clear hb hz hWn hq
    refine xK h23 (HS.o _ HB.o) fun hHeld=>?_
    clear h23 K
    first | (refine rdA 24 rfl (fun K h24=>?_) (by decide +kernel)) | (refine rdB 8 22 rfl (fun K h8=>?_) rfl (fun K h22=>?_) (by decide +kernel)) | (refine rdB 11 22 rfl (fun K h11=>?_) rfl (fun K h22=>?_) (by decide +kernel)) | (refine rdA 22 rfl (fun K h22=>?_) (by decide +kernel)) | (refine rdA 8 rfl (fun K h8=>?_) (by decide +kernel)) | (refine rdA 11 rfl (fun K h11=>?_) (by decide +kernel)))
   | (
    have hi:=h24
    clear hi
    have d0:=HT.o.c0
    have d1:=HT.o.c1
    have z0:=HT.o.z0
    have z1:=HT.o.z1
    have hjb:bj < V1.heap.size:=HJ1.o.lo.2
    obtain ⟨Wn,hWn⟩:=nm (Cv Wc bt (O o1 o2 o3) (O o4 o5 o6))
    replace HB:Hx (Ov V1 Wn):=by rw [hWn];exact Dw HB.o hgt _ _
    replace HO:Hx (ZB bo Wn):=by rw [hWn];exact HO.o.other (Ne.symm hbb) _ _
    have HR:Hx (Ae [O o1 o2 o3,O o4 o5 o6] Wn bt):=by rw [hWn];exact HT.o.fill _ _
    have HL:Hx (AW c.n (XJ bj) Wn (zh #[O o1 o2 o3,O o4 o5 o6]) tl):=by rw [hWn];exact D1 HLW.o HT.o (by omega) _ _
    unfold Cv at hWn
    go_simp
    rw [<-hWn]
    clear hWn d0 d1 z0 z1 HLW HT
    refine xK h24 (HS.o _ HB.o) fun hHeld=>?_
    clear h24 K
    refine rdA 25 rfl (fun K h25=>?_) (by decide +kernel))
   | (
    have hi:=h25
    clear hi
    have e0:=HO.o.c0
    have e1:=HO.o.c1
    have y0:=HO.o.z0
    have y1:=HO.o.z1
    obtain ⟨Wm,hWm⟩:=nm (Cv Wn bo (O a1 a2 a3) (O a4 a5 a6))
    replace HB:Hx (Ov V1 Wm):=by rw [hWm];exact Dw HB.o hgo _ _
    replace HR:Hx (Ae [O o1 o2 o3,O o4 o5 o6] Wm bt):=by rw [hWm];exact Ho HR.o hbb _ _
    have HQ:Hx (Ae [O a1 a2 a3,O a4 a5 a6] Wm bo):=by rw [hWm];exact HO.o.fill _ _
    replace HL:Hx (AW c.n (XJ bj) Wm (zh #[O o1 o2 o3,O o4 o5 o6]) tl):=by rw [hWm];exact D1 HL.o HO.o (by omega) _ _
    unfold Cv at hWm
    go_simp
    rw [<-hWm]
    clear hWm
    refine xK h25 (HS.o _ HB.o) fun hHeld=>?_
    clear h25 K
    refine gE ?_
    exact AD ⟨bt,bo,_,_,_,_,_,_,_,_,_,_,_,_,_,_,_,_,_,_,_,_,_,_,o1,o2,o3,o4,o5,o6,rfl,HB.o,HR.o,HQ.o,HL.o,⟨hgt,bL (HR.o 0 _ rfl)⟩,⟨hgo,bL (HQ.o 0 _ rfl)⟩,hbb⟩)
 rintro act2 W2 ⟨bt,bo,x13,x14,x15,x16,x17,x18,x19,x20,x21,x22,x23,x24,x25,x26,x27,x28,x29,x30,x31,x32,x33,x34,t1,t2,t3,t4,t5,t6,rfl,hB2,hrt,hro,hlt,⟨gt0,gt1⟩,⟨go0,go1⟩,hbb⟩
 clear u0 u1 u2 u3 u4 u5 u6 u7 u8 u9 u10 u11 u12 u13 u14 u15 u16 HS HB0
 have hnx:∀ q,V1.heap.size<=q->¬ XJ bj W2 q:=fun q hq e=>by have:=(HJ1.o.xlt q ((Ai bj).below _ _ hB2 q e)).2;omega
 have HJ2:=Aa (HJ1.o.over hB2)
 have HF2:=Aa (HF1.o.trans (FrW.of_below (Ai bj) hB2))
 have HTB2:Hx (TB bj [(bt,[O t1 t2 t3,O t4 t5 t6]),(bo,[O a1 a2 a3,O a4 a5 a6]),(W.heap.size,[zj (some ⟨bj,0,none⟩)]),(W.heap.size+1,[U zd 5,U zd (jv:Int),U zd ot,U zd ek,U zd en,O xa xl xc,O aa al ac,O ta tn tc,O ea el ec]),(W.heap.size+1+1,[O p1 q1 r1,O p2 q2 r2]),(s,[zj (some ⟨bj,0,none⟩)]),(s+1,[U zd a])] W2):=((HTB1.o.keep (FrW.of_below (Ai bj) hB2)).add hro (hnx _ go0) go1).add hrt (hnx _ gt0) gt1
 have HP2:=Aa (HP1.o.over (Ai bj) hB2)
 have HT2:=Aa hlt
 have HW2:Hx (W.heap.size<=W2.heap.size):=HF2.o.size
 have y3:((W2.alloc (ze #[zg false] 4)).alloc (ze #[zg false] 4)).cell? ⟨W.heap.size+1,3,none⟩=_:=Ab ((bA W2 _).alloc (by simp) _) _ _ ((HTB2.o.row 3 rfl) 3 _ rfl)
 have y4:((W2.alloc (ze #[zg false] 4)).alloc (ze #[zg false] 4)).cell? ⟨W.heap.size+1,4,none⟩=_:=Ab ((bA W2 _).alloc (by simp) _) _ _ ((HTB2.o.row 3 rfl) 4 _ rfl)
 have y5:((W2.alloc (ze #[zg false] 4)).alloc (ze #[zg false] 4)).cell? ⟨W.heap.size+1,5,none⟩=_:=Ab ((bA W2 _).alloc (by simp) _) _ _ ((HTB2.o.row 3 rfl) 5 _ rfl)
 clear hnx hB2 hrt hro hlt gt0 gt1 go0 go1 hbb HP1 HTB1 HF1 HJ1 KBot KW
 have hbel:Ov W2 (((W2.alloc (ze #[zg false] 4)).alloc (ze #[zg false] 4)).alloc (ze #[U zd ek,U zd en,O xa xl xc] 94)):=((bA W2 _).alloc (by simp) _).alloc (by simp <;> omega) _
 have HBEL:=Aa hbel
 have HI0:Hx (RvI W2.heap.size fm fh Ls.length [] (((W2.alloc (ze #[zg false] 4)).alloc (ze #[zg false] 4)).alloc (ze #[U zd ek,U zd en,O xa xl xc] 94))):=⟨by simp [go_sem],by simp [go_sem],by simp [go_sem],by simp [go_sem]⟩
 have HST:=Aa (HST'.o W2 HJ2.o _ hbel (W2.heap.size+1+1) (by simp) (by simp [go_sem]) (by simp [go_sem]) (by simp [go_sem]))
 clear hbel HST'
 have KV:=Aa fun (w:World)=>(callsIn_wide (n:=3)).1 (Jy Fence.wide 3 trivial rfl ek en xa xl xc w)
 go_wp2_with fail
 refine (KV.o _).mono ?_
 rintro e w' ⟨rfl,rfl⟩
 go_wp2_with fail
 refine (wpIn_wide (n:=3)).1 ?_
 refine wpIn_rangeFunc_ownF (F:=Fence.wide) rfl (by omega) (gf:=210) (lb:=#[zj (some ⟨W2.heap.size+1+1,0,none⟩)]) rfl trivial (enters_of Tryz.func210 (by kernel_rfl) rfl)
  HST.o belowK_t (belowK_b (by simp <;> omega)) (Below.refl _ _) (fun _=>rfl)
  (fun pre W=>RvI W2.heap.size fm fh Ls.length pre W/\Ov W2 W)
  (fun _ _ _=>False)
  (OwnFrom.and (Own.from (Mf W2.heap.size fm fh Ls.length) _) (ownFrom_below (Nat.le_refl _) (by simp <;> omega)))
  (fun _ _ _ _ _ hs _ _=>hs)
  ⟨HI0.o,HBEL.o⟩
  (fun x=>{ tmps:=#[zj (some ⟨bj,0,none⟩),zh #[U zd 5,U zd (jv:Int),U zd ot,U zd ek,U zd en,O xa xl xc,O aa al ac,O ta tn tc,O ea el ec],zh #[O p1 q1 r1,O p2 q2 r2],.func (.func 149) #[] #[zj (some ⟨s,0,none⟩),zj (some ⟨s+1,0,none⟩)],zj (some ⟨W.heap.size,0,none⟩),zj (some ⟨W.heap.size+1,0,none⟩),zj (some ⟨W.heap.size+1+1,0,none⟩),undef,zj (some ⟨bt,0,none⟩),zj (some ⟨bo,0,none⟩),zj (some ⟨W2.heap.size,0,none⟩),zj (some ⟨W2.heap.size+1,0,none⟩),U zd x.1,x13,x14,x15,x16,x17,x18,x19,x20,x21,x22,x23,x24,x25,x26,x27,x28,x29,x30,x31,x32,x33,x34,zj (some ⟨W.heap.size+1,3,none⟩),zh #[U zd ek,U zd en,O xa xl xc],.func (.func 210) #[] #[zj (some ⟨W2.heap.size+1+1,0,none⟩)],U zd x.1,undef,undef,undef,undef,undef,undef,undef,undef,undef,undef,undef,undef,undef,undef,undef,undef,undef,undef,undef,undef,undef,undef,undef,undef,undef,undef,undef,undef,undef,undef,undef,undef,undef,undef,undef,undef,undef,undef,undef,undef,undef,undef,undef,undef,undef,undef,undef,undef,undef,undef,undef,undef,undef,undef,undef,undef],defers:=[] }) ?assign ?body ?done ?stop
 case assign=>
  intro l x W K hK
  gi_wp2
  exact hK
 case body=>
  clear HST HI0 HBEL HYS
  rintro lo pre x Wr ⟨⟨c0,f0,c1,f1⟩,hB⟩ _
  obtain ⟨m0,hm0⟩:=nm ((pre.map Subtype.val).any fm)
  obtain ⟨h0,hh0⟩:=nm ((pre.map Subtype.val).any fh)
  rw [<-hm0] at c0
  rw [<-hh0] at c1
  have HSTEP:=Aa fun (Wj:World) (m1 h1:Bool) (hbj:Ov Wr Wj) (e1:m1=(m0 || fm x.1)) (e2:h1=(h0 || fh x.1))=>Me (x:=x) c0 f0 c1 f1 hm0.symm hh0.symm hB hbj e1 e2
  clear hm0 hh0
  obtain ⟨x,hx0,hx1⟩:=x
  obtain ⟨j,rfl⟩:∃ j:Nat,x=(j:Int):=⟨x.toNat,by omega⟩
  have hj:j < vs.length:=by rw [HVL.o];omega
  obtain ⟨pr,pw,q0,q1,q2,hpr,hpw⟩:=HVE.o j hj
  obtain ⟨pa1,pn1,pc1,rfl⟩:=AM hpr
  obtain ⟨kn,hkn⟩:=nm (vs[j].1)
  rw [<-hkn] at q0
  have HHJ:Hx (fh (j:Int)=!kn):=by rw [hkn];exact HKN.o j hj
  have HS5:Hx (∀ Wz:World,Ov W2 Wz->Kx W bj bv ov c j kn pa1 pn1 pc1 Wz):=fun Wz hz=>by
   have h2:=HJ2.o.over hz
   exact ⟨Ab hz _ _ ((HTB2.o.row 2 rfl) 0 _ rfl),by rw [<-HVA.o];exact h2.cw 5 _ rfl,Ab h2.below _ _ q0,Ab h2.below _ _ q1⟩
  obtain ⟨mr,hmr⟩:=nm (fm (j:Int))
  have KM2:Hx (∀ Wz:World,Ov W2 Wz->Calls Tryz.prog 202 #[zj (some ⟨bj,0,none⟩),O pa1 pn1 pc1] Wz fun e W'=>e=zk (zg mr)/\Ov Wz W'):=fun Wz hz=>by
   have h2:=HJ2.o.over hz
   rw [hmr]
   exact HMUTE.o j hj Wz h2 _ (Ah hpr h2.below)
  have HMJ:Hx (fm (j:Int)=mr):=hmr.symm
  have hj1:(j:Int) < (c.vn:Int):=by have:=HVN.o;omega
  have hlt0:=bL c0
  have hlt1:=bL c1
  clear hmr hkn q0 q1 q2 hpr hpw hj
  have hmx:Tryz.prog.follows .mixedOrders=true:=by kernel_rfl
  have hd1:1<=3 - 1 - 1:=by omega
  cases m0 with
  | true=>
   gi_wp2
   refine Dn (S:=fun Wz=>Kx W bj bv ov c j kn pa1 pn1 pc1 Wz) hmx ?_ ?_
   ·intro i o ho c hc
    match i with
    | 0 | 1 | 2 | 3 | 4 | 5 | 6 | 7 | 8 | 9 | 10 | 11 | 12 | 13 | 14 | 15 | 16=>simp at ho;subst ho;cases hc
    | i+17=>simp at ho
   refine rdA 0 rfl fun K hK=>?_
   go_simp
   refine xK hK (HS5.o _ (hB.drew)) fun hHeld=>?_
   clear hK K
   refine kT 1 ?_
   refine kU 2 ?_
   refine kU 3 ?_
   refine kU 4 ?_
   refine kU 5 ?_
   refine kU 6 ?_
   refine kU 7 ?_
   refine kU 8 ?_
   refine kU 9 ?_
   refine kU 10 ?_
   refine kU 11 ?_
   refine kU 12 ?_
   refine kU 13 ?_
   refine kU 14 ?_
   refine kT 15 ?_
   refine rdA 16 rfl fun K hK=>?_
   go_simp
   refine xK hK (by exact HS5.o _ ((hB.drew).setCell (Nat.le_refl _) _)) fun hHeld=>?_
   clear hK K
   refine gE ?_
   refine AD ?_
   have hm:=HS5.o (Wr.drew.setCell ⟨W2.heap.size,0,none⟩ (zg true)) ((hB.drew).setCell (Nat.le_refl _) _)
   obtain ⟨n0,n1,n2,n3⟩:=hm
   cases h0 with
   | true=>
    gi_wp2
    exact HSTEP.o Wr.drew true true (bD Wr) (by simp [HMJ.o]) (by simp)
   | false=>
    gi_wp2
    exact HSTEP.o Wr.drew true (!kn) (bD Wr) (by simp [HMJ.o]) (by simp [HHJ.o])
  | false=>
   gi_wp2
   refine Dn (S:=fun Wz=>Kx W bj bv ov c j kn pa1 pn1 pc1 Wz) hmx ?_ ?_
   ·intro i o ho c hc
    match i with
    | 0 | 1 | 2 | 3 | 4 | 5 | 6 | 7 | 8 | 9 | 10 | 11 | 12 | 13 | 14 | 15 | 16=>simp at ho;subst ho;cases hc
    | i+17=>simp at ho
   refine rdA 0 rfl fun K hK=>?_
   go_simp
   refine xK hK (HS5.o _ (hB.drew)) fun hHeld=>?_
   clear hK K
   refine kT 1 ?_
   refine kT 2 ?_
   refine kT 3 ?_
   refine kT 4 ?_
   refine kT 5 ?_
   refine kT 6 ?_
   refine kT 7 ?_
   refine kT 8 ?_
   refine kT 9 ?_
   refine kT 10 ?_
   refine kT 11 ?_
   refine kT 12 ?_
   refine kT 13 ?_
   refine rdA 14 rfl fun K hK=>?_
   go_simp
   refine (KM2.o _ (hB.drew)).mono ?_
   rintro e wj ⟨rfl,hbj⟩
   have HBJ:Hx (Ov Wr wj):=(bD Wr).trans (hbj.mono (Nat.le_refl _))
   have c0j:=Ab HBJ.o _ _ c0
   have f0j:wj.frozen? ⟨W2.heap.size,0,none⟩=false:=((Ap HBJ.o).2 _ _ hlt0).trans f0
   have c1j:=Ab HBJ.o _ _ c1
   have f1j:wj.frozen? ⟨W2.heap.size+1,0,none⟩=false:=((Ap HBJ.o).2 _ _ hlt1).trans f1
   have HBW2:=Aa (hB.trans (HBJ.o.mono hB.size))
   clear hbj
   go_simp
   refine xK hK (HS5.o _ HBW2.o) fun hHeld=>?_
   clear hK K
   refine kT 15 ?_
   refine rdA 16 rfl fun K hK=>?_
   go_simp
   refine xK hK (by exact HS5.o _ ((HBW2.o).setCell (Nat.le_refl _) _)) fun hHeld=>?_
   clear hK K
   refine gE ?_
   refine AD ?_
   have hm:=HS5.o (wj.setCell ⟨W2.heap.size,0,none⟩ (zg mr)) ((HBW2.o).setCell (Nat.le_refl _) _)
   obtain ⟨n0,n1,n2,n3⟩:=hm
   cases h0 with
   | true=>
    gi_wp2
    exact HSTEP.o wj mr true HBJ.o (by simp [HMJ.o]) (by simp)
   | false=>
    gi_wp2
    exact HSTEP.o wj mr (!kn) HBJ.o (by simp [HMJ.o]) (by simp [HHJ.o])
 case done=>
  rintro D zs W4' hD rfl ⟨⟨c0,f0,c1,f1⟩,hB⟩ hK
  rw [HYS.o,<-HF6.o] at c0
  rw [HYS.o,<-HF7.o] at c1
  obtain ⟨bm,hbm⟩:=nm W2.heap.size
  obtain ⟨bh,hbh⟩:=nm (W2.heap.size+1)
  have hnx:∀ q,W2.heap.size<=q->¬ XJ bj W4' q:=fun q hq e=>by have:=(HJ2.o.xlt q ((Ai bj).below _ _ hB q e)).2;omega
  rw [<-hbm] at c0
  rw [<-hbh] at c1
  have hD2:W2.heap.size<=D:=by simp at hD;omega
  have HDW:Hx (w0.heap.size<=D):=Nat.le_trans (Nat.le_trans HW0.o HW2.o) hD2
  have HDW2:Hx (W.heap.size<=D):=Nat.le_trans HW2.o hD2
  have HJ4':=Aa (HJ2.o.over hB)
  have HF4':=Aa (HF2.o.trans (FrW.of_below (Ai bj) hB))
  have HTB4':Hx (TB bj ([(bm,[zg f6]),(bh,[zg f7]),(bt,[O t1 t2 t3,O t4 t5 t6]),(bo,[O a1 a2 a3,O a4 a5 a6]),(W.heap.size,[zj (some ⟨bj,0,none⟩)]),(W.heap.size+1,[U zd 5,U zd (jv:Int),U zd ot,U zd ek,U zd en,O xa xl xc,O aa al ac,O ta tn tc,O ea el ec]),(W.heap.size+1+1,[O p1 q1 r1,O p2 q2 r2]),(s,[zj (some ⟨bj,0,none⟩)]),(s+1,[U zd a])]) W4'):=((HTB2.o.keep (FrW.of_below (Ai bj) hB)).one c1 (hnx _ (by omega))).one c0 (hnx _ (by omega))
  have HP4':=Aa (HP2.o.over (Ai bj) hB)
  have HT4':=Aa (HT2.o.over (Ai bj) hB)
  have HD4':Hx (DK bj D W4'):=⟨hK,hnx _ hD2⟩
  have hbd:Ov W4' W4'.drew:=(bD _)
  have HJ4:=Aa (HJ4'.o.over hbd)
  have HF4:=Aa (HF4'.o.trans (FrW.of_below (Ai bj) hbd))
  have HTB4:=Aa (HTB4'.o.keep (FrW.of_below (Ai bj) hbd))
  have HP4:=Aa (HP4'.o.over (Ai bj) hbd)
  have HT4:=Aa (HT4'.o.over (Ai bj) hbd)
  have HD4:=Aa (HD4'.o.keep (FrW.of_below (Ai bj) hbd))
  have HO4:=Aa (HLO.o _ HJ4.o)
  have HS4:=Aa (HS7.o _ HJ4.o HTB4.o)
  obtain ⟨u0,u1,u2,u3,u4,u5,u6,u7,u8,u9,u10,u11,u12,u13,u14⟩:=HS7.o _ HJ4'.o HTB4'.o
  clear HJ4' HF4' HTB4' HP4' HT4' HD4' hbd hK c0 f0 c1 f1 hB hnx hD hD2 HST HI0 HBEL HJ2 HF2 HTB2 HP2 HT2 y3 y4 y5
  rw [<-hbh,<-hbm]
  clear hbm hbh
  go_wp2_with fail
  refine Hp ?_
  refine gS (M3 W bj c bv ov bl ol p1 q1 r1 p2 q2 r2 bo a1 a2 a3 a4 a5 a6) (HS4.o) fun hHeld=>?_
  refine kT 0 ?_
  refine kT 1 ?_
  refine kT 2 ?_
  refine kT 3 ?_
  refine kT 4 ?_
  refine kT 5 ?_
  refine kT 6 ?_
  refine rdA 7 rfl fun K hK=>?_
  go_simp
  refine (KF.o _ HJ4.o HP4.o HO4.o).mono ?_
  rintro e W5 ⟨rfl,hb5⟩
  have HJ5:=Aa (HJ4.o.over hb5)
  have HTB5:=Aa (HTB4.o.keep (FrW.of_below (Ai bj) hb5))
  have HF5:=Aa (HF4.o.trans (FrW.of_below (Ai bj) hb5))
  have HT5:=Aa (HT4.o.over (Ai bj) hb5)
  have HP5:=Aa (HP4.o.over (Ai bj) hb5)
  have HD5:=Aa (HD4.o.keep (FrW.of_below (Ai bj) hb5))
  have HS5:=Aa (HS7.o W5 HJ5.o HTB5.o)
  clear hb5
  go_simp
  refine xK hK (HS5.o) fun hHeld=>?_
  clear hK K
  refine kT 8 ?_
  refine rdA 9 rfl fun K hK=>?_
  go_simp
  refine (KB.o _ HJ5.o ((HTB5.o.row 7 rfl) 0 _ rfl) ((HTB5.o.row 8 rfl) 0 _ rfl) (HTB5.o.off 7 rfl) (HTB5.o.off 8 rfl) HFL0.o 5 _).mono ?_
  rintro e W6 ⟨rfl,⟨fv6,hJ6⟩,hF6⟩
  have HJ6:=Aa hJ6
  have HTB6:=Aa (HTB5.o.keep hF6)
  have HF6:=Aa (HF5.o.trans hF6)
  have HT6:=Aa (HT5.o.keep HN1.o hF6)
  have HP6:=Aa (HP5.o.keep HN1.o hF6)
  have HD6:=Aa (HD5.o.keep hF6)
  have HS6:=Aa (HS7.o W6 HJ6.o HTB6.o)
  clear hJ6 hF6
  go_simp
  refine xK hK (HS6.o) fun hHeld=>?_
  clear hK K
  refine gE ?_
  refine AD ?_
  have g0:=(HTB6.o.row 0 rfl) 0 _ rfl
  go_wp2_with fail
  refine (KB.o _ HJ6.o ((HTB6.o.row 7 rfl) 0 _ rfl) ((HTB6.o.row 8 rfl) 0 _ rfl) (HTB6.o.off 7 rfl) (HTB6.o.off 8 rfl) HFL1.o 6 _).mono ?_
  rintro e W7 ⟨rfl,⟨fv7,hJ7⟩,hF7⟩
  have HJ7:=Aa hJ7
  have HTB7:=Aa (HTB6.o.keep hF7)
  have HF7:=Aa (HF6.o.trans hF7)
  have HT7:=Aa (HT6.o.keep HN1.o hF7)
  have HP7:=Aa (HP6.o.keep HN1.o hF7)
  have HD7:=Aa (HD6.o.keep hF7)
  have g1:=(HTB7.o.row 1 rfl) 0 _ rfl
  clear hJ7 hF7 g0
  go_wp2_with fail
  refine (KB.o _ HJ7.o ((HTB7.o.row 7 rfl) 0 _ rfl) ((HTB7.o.row 8 rfl) 0 _ rfl) (HTB7.o.off 7 rfl) (HTB7.o.off 8 rfl) HFL2.o 7 _).mono ?_
  rintro e W8 ⟨rfl,⟨fv8,hJ8⟩,hF8⟩
  have HJ8:=Aa hJ8
  have HTB8:=Aa (HTB7.o.keep hF8)
  have HF8:=Aa (HF7.o.trans hF8)
  have HT8:=Aa (HT7.o.keep HN1.o hF8)
  have HP8:=Aa (HP7.o.keep HN1.o hF8)
  have HD8:=Aa (HD7.o.keep hF8)
  have g4:=(HTB8.o.row 4 rfl) 0 _ rfl
  clear hJ8 hF8 g1
  go_wp2_with fail
  refine (KS1.o _ HJ8.o ((HTB8.o.row 2 rfl) 1 _ rfl) ((HTB8.o.row 3 rfl) 1 _ rfl) HT8.o).mono ?_
  rintro e W9 ⟨rfl,hb9⟩
  have HJ9:=Aa (HJ8.o.over hb9)
  have HTB9:=Aa (HTB8.o.keep (FrW.of_below (Ai bj) hb9))
  have HF9:=Aa (HF8.o.trans (FrW.of_below (Ai bj) hb9))
  have HT9:=Aa (HT8.o.over (Ai bj) hb9)
  have HP9:=Aa (HP8.o.over (Ai bj) hb9)
  have HD9:=Aa (HD8.o.keep (FrW.of_below (Ai bj) hb9))
  clear hb9 g4
  go_wp2_with fail
  refine (KB.o _ HJ9.o ((HTB9.o.row 7 rfl) 0 _ rfl) ((HTB9.o.row 8 rfl) 0 _ rfl) (HTB9.o.off 7 rfl) (HTB9.o.off 8 rfl) HFL3.o 8 _).mono ?_
  rintro e W10 ⟨rfl,⟨fv10,hJ10⟩,hF10⟩
  have HJ10:=Aa hJ10
  have HTB10:=Aa (HTB9.o.keep hF10)
  have HF10:=Aa (HF9.o.trans hF10)
  have HT10:=Aa (HT9.o.keep HN1.o hF10)
  have HP10:=Aa (HP9.o.keep HN1.o hF10)
  have HD10:=Aa (HD9.o.keep hF10)
  have g4:=(HTB10.o.row 4 rfl) 0 _ rfl
  clear hJ10 hF10
  go_wp2_with fail
  refine (KS2.o _ HJ10.o ((HTB10.o.row 2 rfl) 1 _ rfl) ((HTB10.o.row 6 rfl) 1 _ rfl) ((HTB10.o.row 4 rfl) 0 _ rfl) HT10.o HP10.o).mono ?_
  rintro e W11 ⟨rfl,hb11⟩
  have HJ11:=Aa (HJ10.o.over hb11)
  have HTB11:=Aa (HTB10.o.keep (FrW.of_below (Ai bj) hb11))
  have HF11:=Aa (HF10.o.trans (FrW.of_below (Ai bj) hb11))
  have HT11:=Aa (HT10.o.over (Ai bj) hb11)
  have HP11:=Aa (HP10.o.over (Ai bj) hb11)
  have HD11:=Aa (HD10.o.keep (FrW.of_below (Ai bj) hb11))
  clear hb11 g4
  go_wp2_with fail
  refine (KB.o _ HJ11.o ((HTB11.o.row 7 rfl) 0 _ rfl) ((HTB11.o.row 8 rfl) 0 _ rfl) (HTB11.o.off 7 rfl) (HTB11.o.off 8 rfl) HFL4.o 9 _).mono ?_
  rintro e W12 ⟨rfl,⟨fv12,hJ12⟩,hF12⟩
  have HJ12:=Aa hJ12
  have HTB12:=Aa (HTB11.o.keep hF12)
  have HF12:=Aa (HF11.o.trans hF12)
  have HT12:=Aa (HT11.o.keep HN1.o hF12)
  have HP12:=Aa (HP11.o.keep HN1.o hF12)
  have HD12:=Aa (HD11.o.keep hF12)
  clear hJ12 hF12
  go_wp2_with fail
  have hK:=HD12.o.1
  have hfin:AU c.cs w0 bj av (addF a 9 (addF a 8 (addF a 7 (addF a 6 (addF a 5 fl (!f5)) f6) f7) f8) f9) fv12 (W12.putObj D (.deferred none)):=HJ12.o.grown (grownBy_putObj' _ D (.deferred none)) hK rfl (HDW.o)
  have hfr:FrW (XJ bj) W (W12.putObj D (.deferred none)):=MG HF12.o HJ12.o hK rfl HDW2.o
  refine ⟨by simp,.inl ⟨_,_,rfl,run_takeDeferred hK,?_⟩⟩
  exact ⟨zm #[],by simp [results,Tryz.f152,go_sem],rfl,⟨fv12,hfin⟩,hfr⟩
 case stop=>
  rintro D c pre W _ _ h _
  exact h.elim
end Go.Proofs.YtfffpjkcfnekaaaGreat.Ex
namespace Go.Proofs.YtfffpjkcfnekaaaGreat.Ex
open Go.RowKit
open Go.Value renaming slice -> O, int -> U, bool -> zg, agg -> zh, pointer -> zj, tuple -> zm
open Go.IntKind renaming i64 -> zd
open Go.Obj renaming cells -> ze
open Go.Ending renaming returned -> zk
theorem LG (cs:List Value) (av:Value) (w:World) (hl:cs.length=10):AU cs w w.heap.size av [] (O none 0 0) (w.alloc (.cells (cs++[av,Value.slice none 0 0]:List Value).toArray 165)):=
 ⟨bA w _,Ae.new _ _ _,fun j=>by simp [go_sem],World.ownsRow_nil ..,by simp [Value.ownBlock],⟨Nat.le_refl _,by simp⟩,hl⟩
theorem J5 (c:WC) (gs) (w:World) (hg:AG w (O c.ga c.gn c.gc) gs) (hE:AQ c.n gs=0) :
  Calls Tryz.prog 86 #[zh #[U zd (c.n:Int),O c.ga c.gn c.gc,O c.sa c.sn c.sc,O c.ya c.yn c.yc,O c.oa c.on c.oc,O c.va c.vn c.vc,O c.fa c.fn c.fc,O c.ba c.bn c.bc],zh #[O c.la c.ln c.lc,O c.ka c.kn c.kc]] w fun e w'=>∃ w1 ob,e=zk (zj (some ⟨w1.heap.size,0,none⟩))/\CC w1 ob c.n (AB gs) c.n/\Ov w w1/\w'=w1.alloc (.cells (c.cs++[Value.slice (some ⟨ob,0,none⟩) c.n c.n,Value.slice none 0 0]:List Value).toArray 165):=by
 obtain ⟨n,hn,h1,h6,hgs,h20,hin⟩:=DQ hE
 obtain rfl:c.n=n:=by omega
 have hb:Ov w ((w.alloc (ze #[U zd (c.n:Int),O c.ga c.gn c.gc,O c.sa c.sn c.sc,O c.ya c.yn c.yc,O c.oa c.on c.oc,O c.va c.vn c.vc,O c.fa c.fn c.fc,O c.ba c.bn c.bc] 31)).alloc (ze #[O c.la c.ln c.lc,O c.ka c.kn c.kc] 44)):=(bA w _).alloc (by simp) _
 have KF:=Aa (LN c.n h1 h6 (O c.ga c.gn c.gc) (AB gs) ((w.alloc (ze #[U zd (c.n:Int),O c.ga c.gn c.gc,O c.sa c.sn c.sc,O c.ya c.yn c.yc,O c.oa c.on c.oc,O c.va c.vn c.vc,O c.fa c.fn c.fc,O c.ba c.bn c.bc] 31)).alloc (ze #[O c.la c.ln c.lc,O c.ka c.kn c.kc] 44)) (by rw [hgs];exact Af hg hb) h20 hin (by rw [hgs];exact hE))
 have HB:=Aa hb
 have rP:Ae [U zd (c.n:Int),O c.ga c.gn c.gc,O c.sa c.sn c.sc,O c.ya c.yn c.yc,O c.oa c.on c.oc,O c.va c.vn c.vc,O c.fa c.fn c.fc,O c.ba c.bn c.bc] ((w.alloc (ze #[U zd (c.n:Int),O c.ga c.gn c.gc,O c.sa c.sn c.sc,O c.ya c.yn c.yc,O c.oa c.on c.oc,O c.va c.vn c.vc,O c.fa c.fn c.fc,O c.ba c.bn c.bc] 31)).alloc (ze #[O c.la c.ln c.lc,O c.ka c.kn c.kc] 44)) w.heap.size:=(Ae.new _ _ _).over (bA _ _)
 have rL:Ae [O c.la c.ln c.lc,O c.ka c.kn c.kc] ((w.alloc (ze #[U zd (c.n:Int),O c.ga c.gn c.gc,O c.sa c.sn c.sc,O c.ya c.yn c.yc,O c.oa c.on c.oc,O c.va c.vn c.vc,O c.fa c.fn c.fc,O c.ba c.bn c.bc] 31)).alloc (ze #[O c.la c.ln c.lc,O c.ka c.kn c.kc] 44)) (w.heap.size+1):=by
  have r:=Ae.new [O c.la c.ln c.lc,O c.ka c.kn c.kc] 44 (w.alloc (ze #[U zd (c.n:Int),O c.ga c.gn c.gc,O c.sa c.sn c.sc,O c.ya c.yn c.yc,O c.oa c.on c.oc,O c.va c.vn c.vc,O c.fa c.fn c.fc,O c.ba c.bn c.bc] 31))
  simpa using r
 have HP:=Aa rP
 have HL:=Aa rL
 clear hg hE hgs h20 hin hb hn
 obtain ⟨t0,t1,t2,t3,t4,t5,t6,t7⟩:=rc8 rP
 obtain ⟨u0,u1⟩:=rc2 rL
 clear rP rL
 go_enter Tryz.func86,Tryz.ntmps86
 go_wp2_with fail
 refine (KF.o).mono ?_
 rintro e w1 ⟨ob,rfl,hR,hb1⟩
 have q0:=Ab hb1 _ _ (HP.o 0 _ rfl)
 have q1:=Ab hb1 _ _ (HP.o 1 _ rfl)
 have q2:=Ab hb1 _ _ (HP.o 2 _ rfl)
 have q3:=Ab hb1 _ _ (HP.o 3 _ rfl)
 have q4:=Ab hb1 _ _ (HP.o 4 _ rfl)
 have q5:=Ab hb1 _ _ (HP.o 5 _ rfl)
 have q6:=Ab hb1 _ _ (HP.o 6 _ rfl)
 have q7:=Ab hb1 _ _ (HP.o 7 _ rfl)
 have s0:=Ab hb1 _ _ (HL.o 0 _ rfl)
 have s1:=Ab hb1 _ _ (HL.o 1 _ rfl)
 have HB1:=Aa (Ac HB.o hb1)
 have HR:=Aa hR
 clear hb1 hR t0 t1 t2 t3 t4 t5 t6 t7 u0 u1
 go_wp2_with fail
 go_ret
 exact ⟨w1,ob,rfl,HR.o,HB1.o,rfl⟩
def BO (n K kf:Nat) (gs:List (Int × Int)) (sp:List Int) (Ls Fs:List Lev) (vs:List (Bool × Lab)) (ls ms:List Lab) (fs:List FnD) (l:List D):List (Int × Int):=
 Ct n K (fun _=>Ls) (Cw n K (AB gs) sp Ls vs ls ms fs) (fun _=>Fs) kf fs l []
def MW (K kf:Nat) (m:Int) (vn yn on:Nat) (gs:List (Int × Int)) (sp:List Int) (ls ms:List Lab) (vs:List (Bool × Lab)) (fs:List FnD) (l:List D) (P:Int->Prop) (w:World) (e:Ending) (w':World):Prop:=
 ∃ why:Int,P why/\Ov w w'/\((why≠0/\e=zk (zm #[O none 0 0,U zd why])) \/
  (why=0/\okP K kf m vn yn on gs sp ls ms vs fs l/\∃ (n:Nat) (st:ISt) (fv:Value) (B:Nat),m=n/\e=zk (zm #[fv,U zd 0])/\Bw n K kf gs vs ls fs l st/\(∀ x∈st.vs,x.len n)/\(∀ x∈st.fs,x.len n)/\st.vs.length=vn/\st.fs.length=fs.length/\w.heap.size<=B/\w'.ownsRow B 89 2 fv (BO n K kf gs sp st.vs st.fs vs ls ms fs l).length (Du (BO n K kf gs sp st.vs st.fs vs ls ms fs l))))
theorem Jk (args:Array Value) (w:World):(callFunc 88 args).run Tryz.prog w=.ok (.enter 88 args) w:=by simp [go_sem]
theorem Mp (K kf n:Nat) (ga gn gc sa sn sc ya yn yc oa on oc va vn vc fa fn fc ba bn bc) (la ln lc ka kn kc) (gs sp ls ms vs fs l) (st:ISt) (w:World) (h:BC K kf (n:Int) ga gn gc sa sn sc ya yn yc oa on oc va vn vc fa fn fc ba bn bc gs sp ls ms vs fs l w) (hok:okP K kf (n:Int) vn yn on gs sp ls ms vs fs l) (hs:(sp.length:Int)<=n) (hlv:Bd w (O la ln lc) st.vs) (hlf:Bd w (O ka kn kc) st.fs) (hll:∀ x∈st.vs,x.len n) (hfl:∀ x∈st.fs,x.len n) (hvn:st.vs.length=vn) (hfn:st.fs.length=fs.length) (ob:Nat) (hR:CC w ob n (AB gs) n) :
  Calls Tryz.prog 87 #[zh #[U zd (n:Int),O ga gn gc,O sa sn sc,O ya yn yc,O oa on oc,O va vn vc,O fa fn fc,O ba bn bc,O la ln lc,O ka kn kc],.func (.func 88) #[zj (some ⟨w.heap.size,0,none⟩)] #[]] (w.alloc (ze #[U zd (n:Int),O ga gn gc,O sa sn sc,O ya yn yc,O oa on oc,O va vn vc,O fa fn fc,O ba bn bc,O la ln lc,O ka kn kc,O (some ⟨ob,0,none⟩) n n,O none 0 0] 165)) fun e W'=>e=zk (zm #[])/\(∃ fv,AU [U zd (n:Int),O ga gn gc,O sa sn sc,O ya yn yc,O oa on oc,O va vn vc,O fa fn fc,O ba bn bc,O la ln lc,O ka kn kc] w w.heap.size (O (some ⟨ob,0,none⟩) n n) (BO n K kf gs sp st.vs st.fs vs ls ms fs l) fv W'):=by
 obtain ⟨n',hn,h1,h6,-⟩:=DQ hok.chk
 obtain rfl:n'=n:=by omega
 clear hn
 have hvV:=h.vars
 obtain rfl:vn=vs.length:=by obtain ⟨-,a,c,he,-⟩:=h.vars;injection he
 obtain rfl:yn=ls.length:=by obtain ⟨-,a,c,he,-⟩:=h.ins;injection he
 obtain rfl:on=ms.length:=by obtain ⟨-,a,c,he,-⟩:=h.outs;injection he
 obtain rfl:fn=fs.length:=by obtain ⟨-,a,c,he,-⟩:=h.funcs;injection he
 obtain ⟨c,hc⟩:∃ c:WC,c=⟨n',ga,gn,gc,sa,sn,sc,ya,ls.length,yc,oa,ms.length,oc,va,vs.length,vc,fa,fs.length,fc,ba,bn,bc,la,ln,lc,ka,kn,kc⟩:=⟨_,rfl⟩
 have J:JSt c w gs st.vs st.fs:=by
  subst hc
  exact ⟨h1,h6,h.grants,hok.chk,hlv,hll,hlf,hfl,by have:=hok.vars;omega⟩
 have A:JAc c w (O (some ⟨ob,0,none⟩) n' n') (AB gs) sp:=by
  subst hc
  exact ⟨⟨ob,rfl,hR⟩,h.speak,by show sp.length<=6;omega,fun x hx=>hok.speak x hx⟩
 have hvs:Bo w (O c.va c.vn c.vc) vs:=by subst hc;exact h.vars
 have hls:A9 w (O c.ya c.yn c.yc) ls:=by subst hc;exact h.ins
 have hos:A9 w (O c.oa c.on c.oc) ms:=by subst hc;exact h.outs
 have hfs:BA w K kf (O c.fa c.fn c.fc) fs:=by subst hc;exact h.funcs
 have hm:Bc w K kf (O c.ba c.bn c.bc) l:=by subst hc;exact h.main
 have hcn:c.n=n':=by subst hc;rfl
 have hvc:∀ v∈vs,Bq c.n gs v.2=0:=by rw [hcn];exact hok.labs.2.1
 have hlc:∀ b∈ls,Bq c.n gs b=0:=by rw [hcn];exact fun b hb=>hok.labs.1 b (List.mem_append.2 (Or.inl hb))
 have hoc:∀ b∈ms,Bq c.n gs b=0:=by rw [hcn];exact fun b hb=>hok.labs.1 b (List.mem_append.2 (Or.inr hb))
 have hof:∀ i (h:i < fs.length),okF K st.vs.length ls.length ms.length (i:Int) fs kf fs[i]:=by rw [hvn];exact hok.body
 have hom:∀ s∈l,okS K st.vs.length ls.length ms.length (fs.length:Int) fs kf s:=by rw [hvn];exact hok.main
 have hR1:=Mh c w w.heap.size (O (some ⟨ob,0,none⟩) n' n') gs st.vs st.fs J sp A K ls.length ms.length fs vs hvs hvn.symm hvc
 have hT1:=Ns c w w.heap.size (O (some ⟨ob,0,none⟩) n' n') gs st.vs st.fs J sp A K ls.length ms.length fs vs hvs hvn.symm hvc
 have hD:=jDo c w w.heap.size (O (some ⟨ob,0,none⟩) n' n') gs st.vs st.fs J sp A K ls.length ms.length fs vs hvs hvn.symm hvc ls hls hlc rfl hok.ins ms hos hoc rfl hok.outs kf hfs hok.funcs hof hR1 hT1
 have hE:=Nl (K:=K) (nv:=st.vs.length) (ni:=ls.length) (no:=ms.length) (kf:=kf) (O2 (bj:=w.heap.size) (av:=O (some ⟨ob,0,none⟩) n' n') J fs hfn) (Cw c.n K (AB gs) sp st.vs vs ls ms fs) 88 [zj (some ⟨w.heap.size,0,none⟩)] [] pmJ (NR c.n K (AB gs) sp st.vs vs ls ms fs) Jk hD l hfs hm hof hom hok.many hok.funcs [] (w.alloc (.cells (c.cs++[Value.slice (some ⟨ob,0,none⟩) n' n',Value.slice none 0 0]:List Value).toArray 165)) ⟨_,LG c.cs (O (some ⟨ob,0,none⟩) n' n') w rfl⟩ (by unfold pmJ;simp)
 subst hc
 exact hE.mono fun e W' h=>⟨h.1,h.2.1⟩
theorem JJ (K kf:Nat) (m:Int) (ga gn gc sa sn sc ya yn yc oa on oc va vn vc fa fn fc ba bn bc) (gs sp ls ms vs fs l) (w:World) (h:BC K kf m ga gn gc sa sn sc ya yn yc oa on oc va vn vc fa fn fc ba bn bc gs sp ls ms vs fs l w) (P:Int->Prop) (KS:∀ W,Ov w W->Calls Tryz.prog 53 #[zh #[U zd m,O ga gn gc,O sa sn sc,O ya yn yc,O oa on oc,O va vn vc,O fa fn fc,O ba bn bc]] W fun e w'=>∃ why:Int,e=zk (U zd why)/\P why/\Ov W w') (hP:P 0->okP K kf m vn yn on gs sp ls ms vs fs l) (hS:P 0->(sp.length:Int)<=m) :
  Calls Tryz.prog 35 #[zh #[U zd m,O ga gn gc,O sa sn sc,O ya yn yc,O oa on oc,O va vn vc,O fa fn fc,O ba bn bc]] w (MW K kf m vn yn on gs sp ls ms vs fs l P w):=by
 have hb0:Ov w (w.alloc (ze #[U zd m,O ga gn gc,O sa sn sc,O ya yn yc,O oa on oc,O va vn vc,O fa fn fc,O ba bn bc] 31)):=bA w _
 have rowP:=Ae.new [U zd m,O ga gn gc,O sa sn sc,O ya yn yc,O oa on oc,O va vn vc,O fa fn fc,O ba bn bc] 31 w
 have K1:=Aa (GU K kf m ga gn gc sa sn sc ya yn yc oa on oc va vn vc fa fn fc ba bn bc gs sp ls ms vs fs l _ (h.over hb0) P (fun W hW=>KS W (Ac hb0 hW)) hP)
 have HB0:=Aa hb0
 have HR:=Aa rowP
 have HH:=Aa h
 have HS:=Aa hS
 obtain ⟨p0,p1,p2,p3,p4,p5,p6,p7⟩:=rc8 rowP
 clear hb0 rowP h KS hP hS
 go_enter Tryz.func35,Tryz.ntmps35
 go_wp2_with fail
 refine (K1.o).mono ?_
 rintro e w1 ⟨why,hPw,hb1,hcase⟩
 have HB1:=Aa (Ac HB0.o hb1)
 have HRB1:=Aa hb1
 rcases hcase with ⟨hne,rfl⟩ | ⟨rfl,hok,n,st,la,ln,lc,ka,kn,kc,rfl,rfl,hlv,hlf,hll,hfl,hvn,hfn,hInf,-,-⟩
 ·have hz:¬ why=0:=hne
  have HPW:=Aa hPw
  have HNE:=Aa hne
  clear hPw hb1 hne
  go_wp2_with fail
  refine bodyPost_ret (v:=zm #[O none 0 0,U zd why]) (by simp [results,Tryz.results35,go_sem]) rfl ?_
  exact ⟨why,HPW.o,Ac HB1.o (bA _ _),Or.inl ⟨HNE.o,rfl⟩⟩
 ·have hb2:Ov w1 (w1.alloc (ze #[O la ln lc,O ka kn kc] 44)):=bA _ _
  have r2:=Ae.new [O la ln lc,O ka kn kc] 44 w1
  obtain ⟨q0,q1⟩:=rc2 r2
  obtain ⟨s0,s1,s2,s3,s4,s5,s6,s7⟩:=co8 (Ac hb1 hb2) p0 p1 p2 p3 p4 p5 p6 p7
  have KN:=Aa (J5 ⟨n,ga,gn,gc,sa,sn,sc,ya,yn,yc,oa,on,oc,va,vn,vc,fa,fn,fc,ba,bn,bc,la,ln,lc,ka,kn,kc⟩ gs _ (Af HH.o.grants (Ac HB1.o hb2)) hok.chk)
  have KG:=Aa (fun (w3:World) (hb3:Ov (w1.alloc (ze #[O la ln lc,O ka kn kc] 44)) w3) (ob:Nat) (hR:CC w3 ob n (AB gs) n)=>Mp K kf n ga gn gc sa sn sc ya yn yc oa on oc va vn vc fa fn fc ba bn bc la ln lc ka kn kc gs sp ls ms vs fs l st w3 (HH.o.over (Ac (Ac HB1.o hb2) hb3)) hok (HS.o hPw) (Au (Au hlv hb2) hb3) (Au (Au hlf hb2) hb3) hll hfl hvn hfn ob hR)
  have HB2:=Aa (Ac HB1.o hb2)
  have HALL:=Aa (show P 0/\okP K kf (n:Int) vn yn on gs sp ls ms vs fs l/\Bw n K kf gs vs ls fs l st/\(∀ x∈st.vs,x.len n)/\(∀ x∈st.fs,x.len n)/\st.vs.length=vn/\st.fs.length=fs.length from ⟨hPw,hok,hInf,hll,hfl,hvn,hfn⟩)
  clear hPw hb1 hok hlv hlf hll hfl hvn hfn hInf r2 hb2 HB1 HRB1 HR p0 p1 p2 p3 p4 p5 p6 p7
  go_wp2_with fail
  refine (KN.o).mono ?_
  rintro e w4 ⟨w3,ob,rfl,hR,hb3,rfl⟩
  have KG2:=Aa (KG.o w3 hb3 ob hR)
  have HB3:=Aa (Ac HB2.o hb3)
  have r4:=Ae.new [U zd (n:Int),O ga gn gc,O sa sn sc,O ya yn yc,O oa on oc,O va vn vc,O fa fn fc,O ba bn bc,O la ln lc,O ka kn kc,O (some ⟨ob,0,none⟩) n n,O none 0 0] 165 w3
  obtain ⟨t0,t1,t2,t3,t4,t5,t6,t7,t8,t9⟩:=B9 r4
  simp only [List.cons_append,List.nil_append] at *
  clear hR hb3 r4 KG KN s0 s1 s2 s3 s4 s5 s6 s7 q0 q1
  go_wp2_with fail
  refine (KG2.o).mono ?_
  rintro e w5 ⟨rfl,fv,hJ⟩
  have c11:=hJ.c11
  have HJ:=Aa hJ
  clear hJ t0 t1 t2 t3 t4 t5 t6 t7 t8 t9
  go_wp2_with fail
  obtain ⟨h0,hok,hInf,hll,hfl,hvn,hfn⟩:=HALL.o
  refine bodyPost_ret (v:=zm #[fv,U zd 0]) (by simp [results,Tryz.results35,go_sem]) rfl ?_
  exact ⟨0,h0,HB3.o.trans (HJ.o.below.mono HB3.o.size),Or.inr ⟨rfl,hok,n,st,fv,w3.heap.size,rfl,rfl,hInf,hll,hfl,hvn,hfn,HB3.o.size,HJ.o.own⟩⟩
theorem Ml {W:World} {B e s n:Nat} {a:Option Addr} {k c:Nat} {xs:List Value} (h:W.ownsRow B e s (O a k c) n xs):k=n:=by
 rcases h.2 with ⟨h,h2⟩ | ⟨g,cap,cur,h,hb,hh,-⟩
 ·injection h with h1 h2' h3
  omega
 ·injection h with h1 h2 h3
def L8 (K kf:Nat) (m:Int) (vn yn on:Nat) (gs:List (Int × Int)) (sp:List Int) (ls ms:List Lab) (vs:List (Bool × Lab)) (fs:List FnD) (l:List D) (P:Int->Prop) (w:World) (e:Ending) (w':World):Prop:=
 ∃ why:Int,P why/\Ov w w'/\((why≠0/\e=zk (zm #[zg false,U zd why])) \/
  (why=0/\okP K kf m vn yn on gs sp ls ms vs fs l/\∃ (n:Nat) (st:ISt),m=n/\e=zk (zm #[zg (decide (BO n K kf gs sp st.vs st.fs vs ls ms fs l=[])),U zd 0])/\Bw n K kf gs vs ls fs l st/\(∀ x∈st.vs,x.len n)/\(∀ x∈st.fs,x.len n)/\st.vs.length=vn/\st.fs.length=fs.length))
theorem Nk (K kf:Nat) (m:Int) (ga gn gc sa sn sc ya yn yc oa on oc va vn vc fa fn fc ba bn bc) (gs sp ls ms vs fs l) (w:World) (h:BC K kf m ga gn gc sa sn sc ya yn yc oa on oc va vn vc fa fn fc ba bn bc gs sp ls ms vs fs l w) (P:Int->Prop) (KS:∀ W,Ov w W->Calls Tryz.prog 53 #[zh #[U zd m,O ga gn gc,O sa sn sc,O ya yn yc,O oa on oc,O va vn vc,O fa fn fc,O ba bn bc]] W fun e w'=>∃ why:Int,e=zk (U zd why)/\P why/\Ov W w') (hP:P 0->okP K kf m vn yn on gs sp ls ms vs fs l) (hS:P 0->(sp.length:Int)<=m) :
  Calls Tryz.prog 10 #[zh #[U zd m,O ga gn gc,O sa sn sc,O ya yn yc,O oa on oc,O va vn vc,O fa fn fc,O ba bn bc]] w (L8 K kf m vn yn on gs sp ls ms vs fs l P w):=by
 have hb0:Ov w (w.alloc (ze #[U zd m,O ga gn gc,O sa sn sc,O ya yn yc,O oa on oc,O va vn vc,O fa fn fc,O ba bn bc] 31)):=bA w _
 have rowP:=Ae.new [U zd m,O ga gn gc,O sa sn sc,O ya yn yc,O oa on oc,O va vn vc,O fa fn fc,O ba bn bc] 31 w
 have K1:=Aa (JJ K kf m ga gn gc sa sn sc ya yn yc oa on oc va vn vc fa fn fc ba bn bc gs sp ls ms vs fs l _ (h.over hb0) P (fun W hW=>KS W (Ac hb0 hW)) hP hS)
 have HB0:=Aa hb0
 obtain ⟨p0,p1,p2,p3,p4,p5,p6,p7⟩:=rc8 rowP
 clear hb0 rowP h KS hP hS
 go_enter Tryz.func10,Tryz.ntmps10
 go_wp2_with fail
 refine (K1.o).mono ?_
 rintro e w1 ⟨why,hPw,hb1,hcase⟩
 have HB1:=Aa (Ac HB0.o hb1)
 rcases hcase with ⟨hne,rfl⟩ | ⟨rfl,hok,n,st,fv,B,rfl,rfl,hInf,hll,hfl,hvn,hfn,hB,hown⟩
 ·have hz:¬ why=0:=hne
  have HPW:=Aa hPw
  have HNE:=Aa hne
  clear hPw hb1 hne
  go_wp2_with fail
  refine bodyPost_ret (v:=zm #[zg false,U zd why]) (by simp [results,Tryz.results10,go_sem]) rfl ?_
  exact ⟨why,HPW.o,HB1.o,Or.inl ⟨HNE.o,rfl⟩⟩
 ·have HALL:=Aa (show P 0/\okP K kf (n:Int) vn yn on gs sp ls ms vs fs l/\Bw n K kf gs vs ls fs l st/\(∀ x∈st.vs,x.len n)/\(∀ x∈st.fs,x.len n)/\st.vs.length=vn/\st.fs.length=fs.length from ⟨hPw,hok,hInf,hll,hfl,hvn,hfn⟩)
  obtain ⟨fa',fn',fc',rfl⟩:=Aj hown
  have hlen:fn'=(BO n K kf gs sp st.vs st.fs vs ls ms fs l).length:=Ml hown
  have HLEN:=Aa hlen
  clear hPw hb1 hok hInf hll hfl hvn hfn hB hown hlen
  go_wp2_with fail
  obtain ⟨h0,hok,hInf,hll,hfl,hvn,hfn⟩:=HALL.o
  have hz:((fn':Int) == 0)=decide (BO n K kf gs sp st.vs st.fs vs ls ms fs l=[]):=by
   rw [HLEN.o]
   by_cases hq:BO n K kf gs sp st.vs st.fs vs ls ms fs l=[]
   ·simp [hq]
   ·have:(BO n K kf gs sp st.vs st.fs vs ls ms fs l).length≠0:=fun e=>hq (List.length_eq_zero_iff.1 e)
    simp [hq]
  refine bodyPost_ret (v:=zm #[zg ((fn':Int) == 0),U zd 0]) (by simp [results,Tryz.results10,go_sem]) rfl ?_
  exact ⟨0,h0,HB1.o,Or.inr ⟨rfl,hok,n,st,rfl,by rw [hz],hInf,hll,hfl,hvn,hfn⟩⟩
abbrev Vis:=List (Int × D × Lev)
def K7 (n K kf:Nat) (Ls Fs:List Lev) (fs:List FnD) (main:List D):Vis:=Ct n K (fun _=>Ls) (fun a d p (acc:Vis)=>acc++[(a,d,p)]) (fun _=>Fs) kf fs main []
theorem Hk {τ:Type} (n K kf:Nat) (Ls Fs:List Lev) (fs main) (step:Int->D->Lev->τ->τ) (st:τ):Ct n K (fun _=>Ls) step (fun _=>Fs) kf fs main st=(K7 n K kf Ls Fs fs main).foldl (fun s x=>step x.1 x.2.1 x.2.2 s) st:=by
 unfold K7
 exact (EW n K (fun _=>Ls) (fun _=>Fs) (fun a d p (acc:Vis)=>acc++[(a,d,p)]) (fun _=>Ls) (fun _=>Fs) step (fun p q=>p=q) (fun acc t=>t=acc.foldl (fun s x=>step x.1 x.2.1 x.2.2 s) st) (fun _=>True) (fun _=>True) (fun _ _ _ _ _=>trivial) (fun _ _ _ _ _=>trivial)
  (fun a d p p' s t h hp _ _=>by subst hp;subst h;exact ⟨by simp,rfl⟩) (fun _ _ _ _=>rfl) rfl kf fs main [] st rfl trivial trivial)
theorem Ma {P:Nat->Nat->D->Prop} {Pm:Nat->D->Prop} {P1:D->Prop} (hPm:∀ k d,Pm (k+1) d->P1 d/\(∀ s∈Ar d,Pm k s)/\∀ s∈Av d,Pm k s) (hQ:∀ i k d,P i (k+1) d->P1 d/\(∀ s∈Ar d,P i k s)/\∀ s∈Av d,P i k s) (n K kf:Nat) (Ls Fs:List Lev) (fs:List FnD) (main:List D)
  (hf:∀ i (h:i < fs.length),∀ s∈fs[i].body,P i kf s) (hm:∀ s∈main,Pm kf s):∀ x∈K7 n K kf Ls Fs fs main,P1 x.2.1:=by
 have h:=Fd n K (fun _=>Ls) (fun a d p (acc:Vis)=>acc++[(a,d,p)]) (P:=Pm) hPm hQ (R:=fun a b=>(∀ x∈a,P1 x.2.1)->∀ x∈b,P1 x.2.1) (fun _ h=>h) (fun h1 h2 h=>h2 (h1 h)) (fun a d p st hd h x hx=>by
  rcases List.mem_append.1 hx with hx | hx
  ·exact h x hx
  ·rw [List.mem_singleton.1 hx];exact hd) (fun _=>Fs) kf fs main [] hf hm
 exact h (fun x hx=>by cases hx)
theorem Be {a k:Int} {fl:List (Int × Int)} {b:Bool} (h:addF a k fl b=[]):b=false/\fl=[]:=by
 cases b with
 | true=>simp [addF] at h
 | false=>exact ⟨rfl,h⟩
section
variable {n K:Nat} {gn:List (Nat × Nat)} {sp:List Int} {Ls:List Lev} {vs:List (Bool × Lab)} {ins outs:List Lab} {fs:List FnD}
theorem I8 {a:Int} {d:D} {p:Lev} {fl:List (Int × Int)} (h:Cw n K gn sp Ls vs ins outs fs a d p fl=[]):fl=[]:=by
 unfold Cw at h
 split at h
 ·exact (Be h).2
 split at h
 ·exact (Be h).2
 split at h
 ·exact (Be h).2
 split at h
 ·exact (Be h).2
 split at h
 ·unfold Dm at h
  exact (Be (Be (Be (Be (Be h).2).2).2).2).2
 split at h
 ·unfold Ed at h
  exact (Be (Be (Be (Be h).2).2).2).2
 ·exact h
theorem LO {l:Vis}:∀ {fl:List (Int × Int)},l.foldl (fun s x=>Cw n K gn sp Ls vs ins outs fs x.1 x.2.1 x.2.2 s) fl=[]->fl=[]/\∀ x∈l,Cw n K gn sp Ls vs ins outs fs x.1 x.2.1 x.2.2 []=[]:=by
 induction l with
 | nil=>intro fl h;exact ⟨h,fun x hx=>by cases hx⟩
 | cons y l ih=>
  intro fl h
  obtain ⟨h1,h2⟩:=ih h
  have h3:=I8 h1
  subst h3
  exact ⟨rfl,fun x hx=>by
   rcases List.mem_cons.1 hx with rfl | hx
   ·exact h1
   ·exact h2 x hx⟩
end
theorem FU (n:Nat) (L:List Lev):∀ (vs:List Int) (l q:Lev),Ay l q n=true->Ay l (AX n L q vs) n=true
 | [],_,_,h=>h
 | v::vs,l,q,h=>FU n L vs l _ (CH h (FV _ _ _))
section
variable {n K:Nat} {known known':List Bool} {L:ISt} {fs:List FnD}
theorem Dj (l:Lev) (v:Int) (b:Bool):toVar known (BK n L) l v b=(b && (known.getD v.toNat false || Ay l (L.vs.getD v.toNat AE) n)):=by
 unfold toVar BK ISt.at
 cases known.getD v.toNat false <;> simp
theorem Jn (p:Lev):∀ (qs:List (Int × D)) (b:Bool),qs.foldl (Cx n K (fun _=>L.vs) known (BK n L) p) b=(b && qs.all (fun q=>known.getD q.1.toNat false || Ay (AX n L.vs p (AC K q.2)) (L.vs.getD q.1.toNat AE) n))
 | [],b=>by simp
 | q::qs,b=>by
  rw [List.foldl_cons,Jn p qs]
  unfold Cx
  rw [Dj]
  simp [Bool.and_assoc]
theorem LX (ins:List Lev) (a:Int) (d p) (b:Bool):BU n K (fun _=>L.vs) known ins fs (BK n L) a d p b=(b && BU n K (fun _=>L.vs) known ins fs (BK n L) a d p true):=by
 unfold BU Dx
 simp only [Dj,Jn]
 unfold BK
 cases b <;> simp
theorem Ig (ins:List Lev):∀ (l:Vis) (b:Bool),l.foldl (fun s x=>BU n K (fun _=>L.vs) known ins fs (BK n L) x.1 x.2.1 x.2.2 s) b=(b && l.all (fun x=>BU n K (fun _=>L.vs) known ins fs (BK n L) x.1 x.2.1 x.2.2 true))
 | [],b=>by simp
 | x::l,b=>by
  rw [List.foldl_cons,Ig ins l,LX]
  simp [Bool.and_assoc]
theorem KZ {n:Nat} {L:List Lev} {i:Nat} (hi:i < n):∀ {vs:List Int} {p:Lev},(AX n L p vs).w[i]?.getD false=true->p.w[i]?.getD false=true\/(AX n L (Bu n) vs).w[i]?.getD false=true
 | [],p,h=>Or.inl h
 | v::vs,p,h=>by
  have h1:=KZ hi (vs:=vs) (p:=Bp p (L.getD v.toNat AE) n) h
  have key:∀ (q:Lev),((L.getD v.toNat AE).w[i]?.getD false=true\/(AX n L (Bu n) vs).w[i]?.getD false=true)->(AX n L (Bp q (L.getD v.toNat AE) n) vs).w[i]?.getD false=true:=fun q hq=>by
   rcases hq with hq | hq
   ·exact (AK.1 (FU n L vs _ _ (GY q (L.getD v.toNat AE) n)) i hi).2 hq
   ·exact (AK.1 (Fo (fun _=>Cd _ _) vs _ _ (G5 n _)) i hi).2 hq
  rcases h1 with h1 | h1
  ·simp only [Bp,Ck _ hi,F9,Bool.or_eq_true] at h1
   rcases h1 with h1 | h1
   ·exact Or.inl h1
   ·exact Or.inr (key (Bu n) (Or.inl h1))
  ·exact Or.inr (key (Bu n) (Or.inr h1))
theorem K0 {n:Nat} {L:List Lev} {i:Nat} (hi:i < n):∀ {vs:List Int} {p:Lev},p.r[i]?.getD false=true->(AX n L (Bu n) vs).r[i]?.getD false=true->(AX n L p vs).r[i]?.getD false=true
 | [],p,h,_=>h
 | v::vs,p,h,h2=>by
  have hb:(AX n L (Bu n) vs).r[i]?.getD false=true:=(AK.1 (Fo (fun _=>Cd _ _) vs _ _ (G5 n (Bp (Bu n) (L.getD v.toNat AE) n))) i hi).1 h2
  have hv:(L.getD v.toNat AE).r[i]?.getD false=true:=(AK.1 (FU n L vs _ _ (GY (Bu n) (L.getD v.toNat AE) n)) i hi).1 h2
  refine K0 hi (vs:=vs) (p:=Bp p (L.getD v.toNat AE) n) ?_ hb
  simp only [Bp,Ck _ hi,Ec,h,hv,Bool.and_self]
theorem MO {gn:List (Nat × Nat)} {sp:List Int} {vs:List (Bool × Lab)} {ls ms:List Lab} (hk:∀ i,known'.getD i false=false) {a:Int} {d:D} {p:Lev} (hr:Ak d=3->(Ag d).toNat < ls.length)
  (h:BU n K (fun _=>L.vs) known (ls.map (Az gn n)) fs (BK n L) a d p true=true) (hf:Cw n K gn sp L.vs vs ls ms fs a d p []=[]):BU n K (fun _=>L.vs) known' (ls.map (Az gn n)) fs (BK n L) a d p true=true:=by
 unfold Cw at hf
 unfold BU at h ⊢
 by_cases h1:Ak d=1
 ·rw [if_pos h1] at hf ⊢
  have:=(Be hf).1
  rw [Dj,hk]
  simpa using this
 rw [if_neg h1] at hf h ⊢
 by_cases h2:Ak d=2
 ·rw [if_pos h2] at hf h ⊢
  have hc:=(Be hf).1
  unfold Dv at hc
  unfold Dx at h ⊢
  simp only [Dj,Jn,hk,Bool.true_and,Bool.false_or] at h ⊢
  unfold BK at h ⊢
  rw [Bool.and_eq_true] at h
  rw [Bool.and_eq_true]
  refine ⟨?_,h.2⟩
  simpa using hc
 rw [if_neg h2] at hf h ⊢
 by_cases h3:Ak d=3
 ·rw [if_pos h3] at hf ⊢
  have hc:=(Be hf).1
  rw [Dj,hk,Bool.true_and,Bool.false_or]
  rw [Bool.or_eq_false_iff] at hc
  have hg:(ls.map (Az gn n)).getD (Ag d).toNat AE=Az gn n (ls.getD (Ag d).toNat ⟨[],[]⟩):=by
   simp [List.getD_eq_getElem?_getD,hr h3]
  rw [hg]
  have h4:Ay (Bp (Az gn n (ls.getD (Ag d).toNat ⟨[],[]⟩)) p n) (L.vs.getD (AJ d).toNat AE) n=true:=by simpa using hc.1
  exact GZ (CH (GY _ _ _) h4) (CH (FV _ _ _) h4)
 rw [if_neg h3] at hf h ⊢
 by_cases h5:Ak d=5
 ·rw [if_pos h5] at ⊢
  rw [if_neg (by omega),if_pos h5] at hf
  unfold Dm at hf
  have e1:=Be hf
  have e2:=Be e1.2
  have e3:=Be (Be (Be e2.2).2).2
  rw [Dj,hk,Bool.true_and,Bool.false_or]
  have hp:Ay p (L.vs.getD (AJ d).toNat AE) n=true:=by simpa [toL] using e3.1
  refine AK.2 fun i hi=>⟨(AK.1 hp i hi).1,fun hw=>?_⟩
  have hv:=List.any_eq_false.1 e2.1 i (List.mem_range.2 hi)
  have hpw:=(AK.1 hp i hi).2
  have hw2:=KZ hi hw
  unfold Fu toL at hv
  cases ht:(L.vs.getD (AJ d).toNat AE).w[i]?.getD false with
  | true=>rfl
  | false=>
   rw [ht] at hv hpw
   rcases hw2 with hw2 | hw2
   ·exact absurd (hpw hw2) (by decide)
   ·rw [hw2] at hv
    exact absurd rfl hv
 rw [if_neg h5] at hf h ⊢
 by_cases h6:Ak d=6
 ·rw [if_pos h6] at ⊢
  rw [if_neg (by omega),if_pos h6] at hf
  unfold Ed at hf
  have e1:=Be hf
  have e3:=Be (Be (Be e1.2).2).2
  rw [Dj,hk,Bool.true_and,Bool.false_or]
  have hp:Ay p (L.vs.getD (AJ d).toNat AE) n=true:=by simpa [toL] using e3.1
  refine AK.2 fun i hi=>⟨fun hr=>?_,(AK.1 hp i hi).2⟩
  have hv:=List.any_eq_false.1 e1.1 i (List.mem_range.2 hi)
  unfold Fu toL at hv
  rw [hr] at hv
  refine K0 hi ((AK.1 hp i hi).1 hr) ?_
  cases ht:(AX n L.vs (Bu n) (AC K (AR d))).r[i]?.getD false with
  | true=>rfl
  | false=>rw [ht] at hv;exact absurd rfl hv
 rw [if_neg h6]
theorem IJ {kf:Nat} {main:List D} {gn:List (Nat × Nat)} {sp:List Int} {vs:List (Bool × Lab)} {ls ms:List Lab} (hk:∀ i,known'.getD i false=false) (hr:∀ x∈K7 n K kf L.vs L.fs fs main,Ak x.2.1=3->(Ag x.2.1).toNat < ls.length)
  (h:C5 n K kf known (ls.map (Az gn n)) fs main L true=true) (hf:Ct n K (fun _=>L.vs) (Cw n K gn sp L.vs vs ls ms fs) (fun _=>L.fs) kf fs main []=[]):C5 n K kf known' (ls.map (Az gn n)) fs main L true=true:=by
 unfold C5 at h ⊢
 rw [Hk,Ig,Bool.true_and,List.all_eq_true] at h ⊢
 rw [Hk] at hf
 have hf2:=(LO hf).2
 exact fun x hx=>MO hk (hr x hx) (h x hx) (hf2 x hx)
end
theorem H5 {n K kf:Nat} {m:Int} {vn yn on sn:Nat} {gs:List (Int × Int)} {sp:List Int} {vs vs':List (Bool × Lab)} {ls ms:List Lab} {fs:List FnD} {l:List D} {st st':ISt} (hX:Ey.xP K kf m vn yn on sn gs sp ls ms vs fs l) (hy:yn=ls.length) (hI:Bw n K kf gs vs ls fs l st) (hv:st.vs.length=vs.length) (hfl:st.fs.length=fs.length)
  (hF:BO n K kf gs sp st.vs st.fs vs ls ms fs l=[]) (h0:∀ v∈vs',v.1=false) (hl:vs'.length=vs.length) (hI':Bw n K kf gs vs' ls fs l st') (i:Nat):Ay (st'.vs.getD i AE) (st.vs.getD i AE) n=true:=by
 have hk:∀ i,(vs'.map Prod.fst).getD i false=false:=fun i=>by
  rw [List.getD_eq_getElem?_getD,List.getElem?_map]
  cases hi:vs'[i]? with
  | none=>rfl
  | some v=>exact h0 v (List.mem_of_getElem? hi)
 have hr:∀ x∈K7 n K kf st.vs st.fs fs l,Ak x.2.1=3->(Ag x.2.1).toNat < ls.length:=Ma (P:=fun i k d=>okS K vn yn on (i:Int) fs k d) (Pm:=fun k d=>okS K vn yn on (fs.length:Int) fs k d) (P1:=fun d=>Ak d=3->(Ag d).toNat < ls.length)
  (fun k d h=>⟨fun h3=>by have:=h.1.2.2.2.1 h3;omega,h.2.1,h.2.2⟩) (fun i k d h=>⟨fun h3=>by have:=h.1.2.2.2.1 h3;omega,h.2.1,h.2.2⟩) n K kf st.vs st.fs fs l (fun i hi s hs=>((hX.body i hi).2.2.2.1 s hs).ok) (fun s hs=>(hX.main s hs).ok)
 exact (FL hI' (hv.trans hl.symm) hfl (fun i hi hh=>by rw [h0 _ (List.getElem_mem hi)] at hh;cases hh) (IJ (known:=vs.map Prod.fst) hk hr (Ga hI) hF)).1 i
section
variable {ops:Array Oper} {o:Oper} {a:Act} {W:World} {K:Act->World->Prop} {Q:Exit->Act->World->Prop} {E:Prop}
end
theorem CG {cs:List Value} {w w':World} {b:Nat} {a:Array Value} {t:Nat} (ha:a.toList=cs) (hb:b=w.heap.size) (hw:Ov (w.alloc (.cells a t)) w'):Ae cs w' b:=by
 subst hb
 rw [<-ha]
 exact (Ae.newA a t w).over hw
theorem NK (w:World):Calls Tryz.prog 38 #[] w fun e w'=>∃ bi bo bv bm,e=zk (DH bi bo bv bm)/\DS bi bo bv bm w'/\Ov w w'/\(w.heap.size < bi/\bi < bo/\bo < bv/\bv < bm/\bm < w'.heap.size)/\∀ j,w'.frozen? ⟨bi,j,none⟩=false:=by
 go_enter Tryz.func38,Tryz.ntmps38
 go_wp2_with fail
 have hbr:=fun (W:World) (o:Obj)=>bA W o
 refine bodyPost_ret (v:=DH (w.heap.size+1) (w.heap.size+1+1) (w.heap.size+1+1+1) (w.heap.size+1+1+1+1)) (by simp [results,Tryz.results38,go_sem]) rfl ⟨_,_,_,_,rfl,⟨?_,?_,?_,?_⟩,?_,?_,?_⟩
 ·exact CG rfl (by simp) (Ac (Ac (hbr _ _) (hbr _ _)) (hbr _ _))
 ·exact CG rfl (by simp) (Ac (hbr _ _) (hbr _ _))
 ·exact CG rfl (by simp) (hbr _ _)
 ·exact CG rfl (by simp) (Below.refl _ _)
 ·exact Ac (Ac (Ac (Ac (hbr _ _) (hbr _ _)) (hbr _ _)) (hbr _ _)) (hbr _ _)
 ·refine ⟨by omega,by omega,by omega,by omega,by simp⟩
 ·intro j
  simp [go_sem]
structure Bad (bi bo bv bm bp:Nat) (w:World):Prop where
 ins:Ae [O (some ⟨bp,0,none⟩) 1 1,O none 0 0] w bi
 pol:Ae [U zd 0,O none 0 0] w bp
 outs:Ae [O none 0 0,O none 0 0] w bo
 vars:Ae [zg false,O none 0 0,O none 0 0] w bv
 main:Ae CB w bm
abbrev MM (bi bo bv bm:Nat):Value:=zh #[U zd 2,O none 0 0,O none 0 0,O (some ⟨bi,0,none⟩) 1 1,O (some ⟨bo,0,none⟩) 1 1,O (some ⟨bv,0,none⟩) 1 1,O none 0 0,O (some ⟨bm,0,none⟩) 2 2]
def Pa (w:World) (e:Ending) (w':World):Prop:=∃ bi bo bv bm bp,e=zk (MM bi bo bv bm)/\Bad bi bo bv bm bp w'/\Ov w w'
theorem Jm (w:World):Calls Tryz.prog 39 #[] w (Pa w):=by
 have hbel:Ov w (w.alloc (ze #[U zd 0,O none 0 0,O none 0 0,O none 0 0,O none 0 0,O none 0 0,O none 0 0,O none 0 0] 31)):=bA w _
 have hrow:=Ae.newA #[U zd 0,O none 0 0,O none 0 0,O none 0 0,O none 0 0,O none 0 0,O none 0 0,O none 0 0] 31 w
 have hz:∀ j,(w.alloc (ze #[U zd 0,O none 0 0,O none 0 0,O none 0 0,O none 0 0,O none 0 0,O none 0 0,O none 0 0] 31)).frozen? ⟨w.heap.size,j,none⟩=false:=fun j=>by simp [go_sem]
 have K1:=Aa (NK (w.alloc (ze #[U zd 0,O none 0 0,O none 0 0,O none 0 0,O none 0 0,O none 0 0,O none 0 0,O none 0 0] 31)))
 have HB:=Aa hbel
 have HR:=Aa hrow
 have HZ:=Aa hz
 clear hbel hrow hz
 unfold Pa
 go_enter Tryz.func39,Tryz.ntmps39
 go_wp2_with fail
 refine (K1.o).mono ?_
 rintro e w2 ⟨bi,bo,bv,bm,rfl,hS,hb2,⟨l0,l1,l2,l3,l4⟩,hzi⟩
 have hsz:(w.alloc (ze #[U zd 0,O none 0 0,O none 0 0,O none 0 0,O none 0 0,O none 0 0,O none 0 0,O none 0 0] 31)).heap.size=w.heap.size+1:=by simp
 have hB2:=HB.o.trans (hb2.mono HB.o.size)
 have hr2:=HR.o.over hb2
 have hz2:∀ j,w2.frozen? ⟨w.heap.size,j,none⟩=false:=fun j=>((Ap hb2).2 _ _ (by rw [hsz];omega)).trans (HZ.o j)
 have n1:bi≠w2.heap.size:=by omega
 have n2:w.heap.size≠w2.heap.size:=by omega
 have n3:w.heap.size≠bi:=by omega
 have n4:bi≠w2.heap.size+1:=by omega
 have n5:w.heap.size≠w2.heap.size+1:=by omega
 have b1:bi < w2.heap.size:=by omega
 have b2:w.heap.size < w2.heap.size:=by omega
 obtain ⟨c0,c1⟩:=rc2 hS.ins
 have z0:=hzi 0
 have z1:=hzi 1
 have r0:=hr2 0 _ rfl
 have y0:=hz2 0
 have r1:=hr2 1 _ rfl
 have y1:=hz2 1
 have r2:=hr2 2 _ rfl
 have y2:=hz2 2
 have r3:=hr2 3 _ rfl
 have y3:=hz2 3
 have r4:=hr2 4 _ rfl
 have y4:=hz2 4
 have r5:=hr2 5 _ rfl
 have y5:=hz2 5
 have r6:=hr2 6 _ rfl
 have y6:=hz2 6
 have r7:=hr2 7 _ rfl
 have y7:=hz2 7
 have HS:=Aa hS
 have HB2:=Aa hB2
 have HR2:=Aa hr2
 have L0:=Aa l0
 have L1:=Aa l1
 have L2:=Aa l2
 have L3:=Aa l3
 have L4:=Aa l4
 clear hS hB2 hr2 hz2 hzi hb2 K1 l0 l1 l2 l3 l4 hsz
 unfold DH
 go_wp2_with fail
 have hbr:=fun (W:World) (o:Obj)=>bA W o
 have l0:=L0.o
 have l1:=L1.o
 have l2:=L2.o
 have l3:=L3.o
 have l4:=L4.o
 simp at l0
 have hsz:(((((((((w2.setCell ⟨bi,0,none⟩ (O (some ⟨w2.heap.size+1,0,none⟩) 1 1)).setCell ⟨w.heap.size,0,none⟩ (U zd 2)).setCell ⟨w.heap.size,1,none⟩ (O none 0 0)).setCell ⟨w.heap.size,2,none⟩ (O none 0 0)).setCell ⟨w.heap.size,3,none⟩ (O (some ⟨bi,0,none⟩) 1 1)).setCell ⟨w.heap.size,4,none⟩ (O (some ⟨bo,0,none⟩) 1 1)).setCell ⟨w.heap.size,5,none⟩ (O (some ⟨bv,0,none⟩) 1 1)).setCell ⟨w.heap.size,6,none⟩ (O none 0 0)).setCell ⟨w.heap.size,7,none⟩ (O (some ⟨bm,0,none⟩) 2 2)).heap.size=w2.heap.size:=by simp [World.setCell]
 have hF:=(((((((((((HR2.o.other (b':=bi) (j:=0) (v:=O (some ⟨w2.heap.size+1,0,none⟩) 1 1) n3).set (j:=0) (v:=U zd 2) (by simp)).set (j:=1) (v:=O none 0 0) (by simp)).set (j:=2) (v:=O none 0 0) (by simp)).set (j:=3) (v:=O (some ⟨bi,0,none⟩) 1 1) (by simp)).set (j:=4) (v:=O (some ⟨bo,0,none⟩) 1 1) (by simp)).set (j:=5) (v:=O (some ⟨bv,0,none⟩) 1 1) (by simp)).set (j:=6) (v:=O none 0 0) (by simp)).set (j:=7) (v:=O (some ⟨bm,0,none⟩) 2 2) (by simp)).over (hbr _ (ze #[U zd 2,O none 0 0,O none 0 0,O (some ⟨bi,0,none⟩) 1 1,O (some ⟨bo,0,none⟩) 1 1,O (some ⟨bv,0,none⟩) 1 1,O none 0 0,O (some ⟨bm,0,none⟩) 2 2] 31))).over (hbr _ (ze #[U zd 0,O none 0 0] 87)))
 have hin:=(((((((((((HS.o.ins.set (j:=0) (v:=O (some ⟨w2.heap.size+1,0,none⟩) 1 1) (by simp)).other (b':=w.heap.size) (j:=0) (v:=U zd 2) (by omega)).other (b':=w.heap.size) (j:=1) (v:=O none 0 0) (by omega)).other (b':=w.heap.size) (j:=2) (v:=O none 0 0) (by omega)).other (b':=w.heap.size) (j:=3) (v:=O (some ⟨bi,0,none⟩) 1 1) (by omega)).other (b':=w.heap.size) (j:=4) (v:=O (some ⟨bo,0,none⟩) 1 1) (by omega)).other (b':=w.heap.size) (j:=5) (v:=O (some ⟨bv,0,none⟩) 1 1) (by omega)).other (b':=w.heap.size) (j:=6) (v:=O none 0 0) (by omega)).other (b':=w.heap.size) (j:=7) (v:=O (some ⟨bm,0,none⟩) 2 2) (by omega)).over (hbr _ (ze #[U zd 2,O none 0 0,O none 0 0,O (some ⟨bi,0,none⟩) 1 1,O (some ⟨bo,0,none⟩) 1 1,O (some ⟨bv,0,none⟩) 1 1,O none 0 0,O (some ⟨bm,0,none⟩) 2 2] 31))).over (hbr _ (ze #[U zd 0,O none 0 0] 87)))
 have hpl:Ae [U zd 0,O none 0 0] (((((((((((w2.setCell ⟨bi,0,none⟩ (O (some ⟨w2.heap.size+1,0,none⟩) 1 1)).setCell ⟨w.heap.size,0,none⟩ (U zd 2)).setCell ⟨w.heap.size,1,none⟩ (O none 0 0)).setCell ⟨w.heap.size,2,none⟩ (O none 0 0)).setCell ⟨w.heap.size,3,none⟩ (O (some ⟨bi,0,none⟩) 1 1)).setCell ⟨w.heap.size,4,none⟩ (O (some ⟨bo,0,none⟩) 1 1)).setCell ⟨w.heap.size,5,none⟩ (O (some ⟨bv,0,none⟩) 1 1)).setCell ⟨w.heap.size,6,none⟩ (O none 0 0)).setCell ⟨w.heap.size,7,none⟩ (O (some ⟨bm,0,none⟩) 2 2)).alloc (ze #[U zd 2,O none 0 0,O none 0 0,O (some ⟨bi,0,none⟩) 1 1,O (some ⟨bo,0,none⟩) 1 1,O (some ⟨bv,0,none⟩) 1 1,O none 0 0,O (some ⟨bm,0,none⟩) 2 2] 31)).alloc (ze #[U zd 0,O none 0 0] 87)) (w2.heap.size+1):=by
  have:=Ae.newA #[U zd 0,O none 0 0] 87 ((((((((((w2.setCell ⟨bi,0,none⟩ (O (some ⟨w2.heap.size+1,0,none⟩) 1 1)).setCell ⟨w.heap.size,0,none⟩ (U zd 2)).setCell ⟨w.heap.size,1,none⟩ (O none 0 0)).setCell ⟨w.heap.size,2,none⟩ (O none 0 0)).setCell ⟨w.heap.size,3,none⟩ (O (some ⟨bi,0,none⟩) 1 1)).setCell ⟨w.heap.size,4,none⟩ (O (some ⟨bo,0,none⟩) 1 1)).setCell ⟨w.heap.size,5,none⟩ (O (some ⟨bv,0,none⟩) 1 1)).setCell ⟨w.heap.size,6,none⟩ (O none 0 0)).setCell ⟨w.heap.size,7,none⟩ (O (some ⟨bm,0,none⟩) 2 2)).alloc (ze #[U zd 2,O none 0 0,O none 0 0,O (some ⟨bi,0,none⟩) 1 1,O (some ⟨bo,0,none⟩) 1 1,O (some ⟨bv,0,none⟩) 1 1,O none 0 0,O (some ⟨bm,0,none⟩) 2 2] 31))
  simpa [World.setCell] using this
 have hou:=(((((((((((HS.o.outs.other (b':=bi) (j:=0) (v:=O (some ⟨w2.heap.size+1,0,none⟩) 1 1) (by omega)).other (b':=w.heap.size) (j:=0) (v:=U zd 2) (by omega)).other (b':=w.heap.size) (j:=1) (v:=O none 0 0) (by omega)).other (b':=w.heap.size) (j:=2) (v:=O none 0 0) (by omega)).other (b':=w.heap.size) (j:=3) (v:=O (some ⟨bi,0,none⟩) 1 1) (by omega)).other (b':=w.heap.size) (j:=4) (v:=O (some ⟨bo,0,none⟩) 1 1) (by omega)).other (b':=w.heap.size) (j:=5) (v:=O (some ⟨bv,0,none⟩) 1 1) (by omega)).other (b':=w.heap.size) (j:=6) (v:=O none 0 0) (by omega)).other (b':=w.heap.size) (j:=7) (v:=O (some ⟨bm,0,none⟩) 2 2) (by omega)).over (hbr _ (ze #[U zd 2,O none 0 0,O none 0 0,O (some ⟨bi,0,none⟩) 1 1,O (some ⟨bo,0,none⟩) 1 1,O (some ⟨bv,0,none⟩) 1 1,O none 0 0,O (some ⟨bm,0,none⟩) 2 2] 31))).over (hbr _ (ze #[U zd 0,O none 0 0] 87)))
 have hva:=(((((((((((HS.o.vars.other (b':=bi) (j:=0) (v:=O (some ⟨w2.heap.size+1,0,none⟩) 1 1) (by omega)).other (b':=w.heap.size) (j:=0) (v:=U zd 2) (by omega)).other (b':=w.heap.size) (j:=1) (v:=O none 0 0) (by omega)).other (b':=w.heap.size) (j:=2) (v:=O none 0 0) (by omega)).other (b':=w.heap.size) (j:=3) (v:=O (some ⟨bi,0,none⟩) 1 1) (by omega)).other (b':=w.heap.size) (j:=4) (v:=O (some ⟨bo,0,none⟩) 1 1) (by omega)).other (b':=w.heap.size) (j:=5) (v:=O (some ⟨bv,0,none⟩) 1 1) (by omega)).other (b':=w.heap.size) (j:=6) (v:=O none 0 0) (by omega)).other (b':=w.heap.size) (j:=7) (v:=O (some ⟨bm,0,none⟩) 2 2) (by omega)).over (hbr _ (ze #[U zd 2,O none 0 0,O none 0 0,O (some ⟨bi,0,none⟩) 1 1,O (some ⟨bo,0,none⟩) 1 1,O (some ⟨bv,0,none⟩) 1 1,O none 0 0,O (some ⟨bm,0,none⟩) 2 2] 31))).over (hbr _ (ze #[U zd 0,O none 0 0] 87)))
 have hma:=(((((((((((HS.o.main.other (b':=bi) (j:=0) (v:=O (some ⟨w2.heap.size+1,0,none⟩) 1 1) (by omega)).other (b':=w.heap.size) (j:=0) (v:=U zd 2) (by omega)).other (b':=w.heap.size) (j:=1) (v:=O none 0 0) (by omega)).other (b':=w.heap.size) (j:=2) (v:=O none 0 0) (by omega)).other (b':=w.heap.size) (j:=3) (v:=O (some ⟨bi,0,none⟩) 1 1) (by omega)).other (b':=w.heap.size) (j:=4) (v:=O (some ⟨bo,0,none⟩) 1 1) (by omega)).other (b':=w.heap.size) (j:=5) (v:=O (some ⟨bv,0,none⟩) 1 1) (by omega)).other (b':=w.heap.size) (j:=6) (v:=O none 0 0) (by omega)).other (b':=w.heap.size) (j:=7) (v:=O (some ⟨bm,0,none⟩) 2 2) (by omega)).over (hbr _ (ze #[U zd 2,O none 0 0,O none 0 0,O (some ⟨bi,0,none⟩) 1 1,O (some ⟨bo,0,none⟩) 1 1,O (some ⟨bv,0,none⟩) 1 1,O none 0 0,O (some ⟨bm,0,none⟩) 2 2] 31))).over (hbr _ (ze #[U zd 0,O none 0 0] 87)))
 obtain ⟨e0,e1,e2,e3,e4,e5,e6,e7⟩:=rc8 hF
 have hBf:Ov w (((((((((((w2.setCell ⟨bi,0,none⟩ (O (some ⟨w2.heap.size+1,0,none⟩) 1 1)).setCell ⟨w.heap.size,0,none⟩ (U zd 2)).setCell ⟨w.heap.size,1,none⟩ (O none 0 0)).setCell ⟨w.heap.size,2,none⟩ (O none 0 0)).setCell ⟨w.heap.size,3,none⟩ (O (some ⟨bi,0,none⟩) 1 1)).setCell ⟨w.heap.size,4,none⟩ (O (some ⟨bo,0,none⟩) 1 1)).setCell ⟨w.heap.size,5,none⟩ (O (some ⟨bv,0,none⟩) 1 1)).setCell ⟨w.heap.size,6,none⟩ (O none 0 0)).setCell ⟨w.heap.size,7,none⟩ (O (some ⟨bm,0,none⟩) 2 2)).alloc (ze #[U zd 2,O none 0 0,O none 0 0,O (some ⟨bi,0,none⟩) 1 1,O (some ⟨bo,0,none⟩) 1 1,O (some ⟨bv,0,none⟩) 1 1,O none 0 0,O (some ⟨bm,0,none⟩) 2 2] 31)).alloc (ze #[U zd 0,O none 0 0] 87)):=(((((((((((HB2.o.setCell (p:=⟨bi,0,none⟩) (by simp;omega) (O (some ⟨w2.heap.size+1,0,none⟩) 1 1)).setCell (p:=⟨w.heap.size,0,none⟩) (by simp) (U zd 2)).setCell (p:=⟨w.heap.size,1,none⟩) (by simp) (O none 0 0)).setCell (p:=⟨w.heap.size,2,none⟩) (by simp) (O none 0 0)).setCell (p:=⟨w.heap.size,3,none⟩) (by simp) (O (some ⟨bi,0,none⟩) 1 1)).setCell (p:=⟨w.heap.size,4,none⟩) (by simp) (O (some ⟨bo,0,none⟩) 1 1)).setCell (p:=⟨w.heap.size,5,none⟩) (by simp) (O (some ⟨bv,0,none⟩) 1 1)).setCell (p:=⟨w.heap.size,6,none⟩) (by simp) (O none 0 0)).setCell (p:=⟨w.heap.size,7,none⟩) (by simp) (O (some ⟨bm,0,none⟩) 2 2)).alloc (by rw [hsz];omega) (ze #[U zd 2,O none 0 0,O none 0 0,O (some ⟨bi,0,none⟩) 1 1,O (some ⟨bo,0,none⟩) 1 1,O (some ⟨bv,0,none⟩) 1 1,O none 0 0,O (some ⟨bm,0,none⟩) 2 2] 31)).alloc (by simp [World.setCell];omega) (ze #[U zd 0,O none 0 0] 87))
 refine bodyPost_ret (v:=MM bi bo bv bm) ?_ rfl ⟨bi,bo,bv,bm,w2.heap.size+1,rfl,⟨hin,hpl,hou,hva,hma⟩,hBf⟩
 generalize (((((((((((w2.setCell ⟨bi,0,none⟩ (O (some ⟨w2.heap.size+1,0,none⟩) 1 1)).setCell ⟨w.heap.size,0,none⟩ (U zd 2)).setCell ⟨w.heap.size,1,none⟩ (O none 0 0)).setCell ⟨w.heap.size,2,none⟩ (O none 0 0)).setCell ⟨w.heap.size,3,none⟩ (O (some ⟨bi,0,none⟩) 1 1)).setCell ⟨w.heap.size,4,none⟩ (O (some ⟨bo,0,none⟩) 1 1)).setCell ⟨w.heap.size,5,none⟩ (O (some ⟨bv,0,none⟩) 1 1)).setCell ⟨w.heap.size,6,none⟩ (O none 0 0)).setCell ⟨w.heap.size,7,none⟩ (O (some ⟨bm,0,none⟩) 2 2)).alloc (ze #[U zd 2,O none 0 0,O none 0 0,O (some ⟨bi,0,none⟩) 1 1,O (some ⟨bo,0,none⟩) 1 1,O (some ⟨bv,0,none⟩) 1 1,O none 0 0,O (some ⟨bm,0,none⟩) 2 2] 31)).alloc (ze #[U zd 0,O none 0 0] 87))=WZ at e0 e1 e2 e3 e4 e5 e6 e7 ⊢
 simp [results,Tryz.results39,go_sem,e0,e1,e2,e3,e4,e5,e6,e7]
def Hc:Lab:=⟨[⟨0,[]⟩],[]⟩
theorem JM {bi bo bv bm bp:Nat} {w:World} (h:Bad bi bo bv bm bp w):BC 1 1 2 none 0 0 none 0 0 (some ⟨bi,0,none⟩) 1 1 (some ⟨bo,0,none⟩) 1 1 (some ⟨bv,0,none⟩) 1 1 none 0 0 (some ⟨bm,0,none⟩) 2 2 [] [] [Hc] [⟨[],[]⟩] [(false,⟨[],[]⟩)] [] [sm1,sm2] w:=by
 have h0:=CP (bi:=bo) (bo:=bo) (bv:=bv) (bm:=bm) (w:=w) ⟨h.outs,h.outs,h.vars,h.main⟩
 refine ⟨A1 2 (by omega) (by omega),h0.grants,h0.speak,h0.speakL,?_,h0.outs,h0.vars,h0.funcs,h0.main,fun h=>absurd h (by simp),fun h=>absurd h (by simp)⟩
 refine ⟨by simp [maxLen],some ⟨bi,0,none⟩,1,rfl,fun _=>⟨bi,0,rfl,fun i hi=>?_⟩⟩
 have:i=0:=by simp at hi;omega
 subst this
 refine ⟨_,_,h.ins 0 _ rfl,h.ins 1 _ rfl,⟨_,_,rfl,fun _=>⟨bp,0,rfl,fun k hk=>?_⟩⟩,Cr⟩
 have:k=0:=by simp [Hc] at hk;omega
 subst this
 exact ⟨h.pol 0 _ rfl,_,h.pol 1 _ rfl,⟨none,0,rfl,fun h=>absurd rfl h⟩⟩
theorem O5:Ey.xP 1 1 2 1 1 1 0 [] [] [Hc] [⟨[],[]⟩] [(false,⟨[],[]⟩)] [] [sm1,sm2]:=by
 refine ⟨rfl,by simp,fun x hx=>absurd hx (by simp),⟨?_,?_,CS.labs.2.2⟩,CS.many,CS.body,CS.main⟩
 ·intro b hb
  simp at hb
  rcases hb with rfl | rfl
  ·rfl
  ·rfl
 ·intro v hv
  simp at hv
  subst hv
  rfl
theorem Ej {n K kf:Nat} {gs:List (Int × Int)} {vs:List (Bool × Lab)} {ls:List Lab} {fs:List FnD} {main:List D} {st st':ISt} (h:Bw n K kf gs vs ls fs main st) (h':Bw n K kf gs vs ls fs main st'):st=st':=by
 obtain ⟨k,e,m,l⟩:=h
 obtain ⟨k',e',m',l'⟩:=h'
 rcases Nat.lt_trichotomy k k' with hk | hk | hk
 ·have:=l' k hk
  rw [<-e,m] at this
  cases this
 ·rw [e,e',hk]
 ·have:=l k' hk
  rw [<-e',m'] at this
  cases this
def qO:Lab:=⟨[],[⟨0,[]⟩]⟩
theorem Ip:Bw 2 1 1 [] [(false,⟨[],[]⟩)] [Hc] [] [sm1,sm2] ⟨[⟨[true,false],[true,true]⟩],[],false⟩:=⟨1,by rfl,rfl,fun j hj=>by
 have:j=0:=by omega
 subst this
 rfl⟩
theorem NQ:Bw 1 1 1 [] [(false,⟨[],[]⟩)] [Hc] [] [sm1,sm2] ⟨[⟨[true],[true]⟩],[],false⟩:=⟨1,by rfl,rfl,fun j hj=>by
 have:j=0:=by omega
 subst this
 rfl⟩
theorem JU:BO 1 1 1 [] [] [⟨[true],[true]⟩] [] [(false,⟨[],[]⟩)] [⟨[],[]⟩] [⟨[],[]⟩] [] [sm1,sm2]=[]:=by rfl
theorem JL:BO 2 1 1 [] [] [⟨[true,false],[true,true]⟩] [] [(false,⟨[],[]⟩)] [Hc] [⟨[],[]⟩] [] [sm1,sm2]=[(1,4)]:=by rfl
theorem OU:BO 1 1 1 [] [] [⟨[true],[true]⟩] [] [(false,⟨[],[]⟩)] [Hc] [qO] [] [sm1,sm2]=[]:=by rfl
structure Qq (bi bo bv bm p1 p2:Nat) (w:World):Prop where
 ins:Ae [O (some ⟨p2,0,none⟩) 1 1,O none 0 0] w bi
 pol2:Ae [U zd 0,O none 0 0] w p2
 outs:Ae [O none 0 0,O (some ⟨p1,0,none⟩) 1 1] w bo
 pol1:Ae [U zd 0,O none 0 0] w p1
 vars:Ae [zg false,O none 0 0,O none 0 0] w bv
 main:Ae CB w bm
theorem Qq.over {bi bo bv bm p1 p2:Nat} {w w':World} (h:Qq bi bo bv bm p1 p2 w) (hb:Ov w w'):Qq bi bo bv bm p1 p2 w':=⟨h.ins.over hb,h.pol2.over hb,h.outs.over hb,h.pol1.over hb,h.vars.over hb,h.main.over hb⟩
theorem OW {p:Nat} {w:World} (h:Ae [U zd 0,O none 0 0] w p):AI w (O (some ⟨p,0,none⟩) 1 1) [⟨0,[]⟩]:=⟨_,_,rfl,fun _=>⟨p,0,rfl,fun k hk=>by
 have:k=0:=by simp at hk;omega
 subst this
 exact ⟨h 0 _ rfl,_,h 1 _ rfl,⟨none,0,rfl,fun h=>absurd rfl h⟩⟩⟩⟩
theorem OV {bi bo bv bm p1 p2:Nat} {w:World} (h:Qq bi bo bv bm p1 p2 w):BC 1 1 1 none 0 0 none 0 0 (some ⟨bi,0,none⟩) 1 1 (some ⟨bo,0,none⟩) 1 1 (some ⟨bv,0,none⟩) 1 1 none 0 0 (some ⟨bm,0,none⟩) 2 2 [] [] [Hc] [qO] [(false,⟨[],[]⟩)] [] [sm1,sm2] w:=by
 have one:∀ {b:Nat} {x y:Value} {L:Lab},Ae [x,y] w b->AI w x L.r->AI w y L.w->A9 w (O (some ⟨b,0,none⟩) 1 1) [L]:=fun hr hx hy=>⟨by simp [maxLen],_,1,rfl,fun _=>⟨_,0,rfl,fun i hi=>by
  have:i=0:=by simp at hi;omega
  subst this
  exact ⟨_,_,hr 0 _ rfl,hr 1 _ rfl,hx,hy⟩⟩⟩
 refine ⟨A1 1 (by omega) (by omega),⟨none,0,rfl,fun h=>absurd rfl h⟩,⟨none,0,rfl,fun h=>absurd rfl h⟩,by simp,one h.ins (OW h.pol2) Cr,one h.outs Cr (OW h.pol1),?_,?_,?_,fun h=>absurd h (by simp),fun h=>absurd h (by simp)⟩
 ·refine ⟨by simp [maxLen],some ⟨bv,0,none⟩,1,rfl,fun _=>⟨bv,0,rfl,fun i hi=>?_⟩⟩
  have:i=0:=by simp at hi;omega
  subst this
  exact ⟨_,_,h.vars 0 _ rfl,h.vars 1 _ rfl,h.vars 2 _ rfl,Cr,Cr⟩
 ·exact ⟨by simp,none,0,rfl,fun h=>absurd rfl h⟩
 ·refine ⟨by simp [maxLen],some ⟨bm,0,none⟩,2,rfl,fun _=>⟨bm,0,rfl,fun i d hd=>?_⟩⟩
  match i,hd with
  | 0,hd=>
   simp at hd
   subst hd
   refine ⟨CB.take 9,rfl,fun j u hu=>?_,3,0,0,_,_,_,xD 0 0 [],_,[],_,[],_,[],rfl,rfl,A1 _ (by omega) (by omega),A1 _ (by omega) (by omega),A1 _ (by omega) (by omega),⟨0,0,_,[],rfl,rfl,A1 _ (by omega) (by omega),A1 _ (by omega) (by omega),B6⟩,B6,B6,B6⟩
   rw [List.getElem?_take] at hu
   split at hu
   ·have:=h.main j u hu
    simpa using this
   ·cases hu
  | 1,hd=>
   simp at hd
   subst hd
   refine ⟨CB.drop 9,rfl,fun j u hu=>?_,4,0,0,_,_,_,xD 2 0 [],_,[],_,[],_,[],rfl,rfl,A1 _ (by omega) (by omega),A1 _ (by omega) (by omega),A1 _ (by omega) (by omega),⟨2,0,_,[],rfl,rfl,A1 _ (by omega) (by omega),A1 _ (by omega) (by omega),B6⟩,B6,B6,B6⟩
   rw [List.getElem?_drop] at hu
   have:=h.main (9+j) u hu
   simpa [Nat.add_assoc] using this
  | i+2,hd=>simp at hd
theorem qX:Ey.xP 1 1 1 1 1 1 0 [] [] [Hc] [qO] [(false,⟨[],[]⟩)] [] [sm1,sm2]:=by
 refine ⟨rfl,by simp,fun x hx=>absurd hx (by simp),⟨?_,CS.labs.2.1,CS.labs.2.2⟩,CS.many,CS.body,CS.main⟩
 intro b hb
 simp at hb
 rcases hb with rfl | rfl
 ·rfl
 ·rfl
theorem FW {m:Int} {bi bo bv bm:Nat} {ls ms:List Lab} {w:World} {n:Nat} {st:ISt} (hm:m=n) (hP:BC 1 1 m none 0 0 none 0 0 (some ⟨bi,0,none⟩) 1 1 (some ⟨bo,0,none⟩) 1 1 (some ⟨bv,0,none⟩) 1 1 none 0 0 (some ⟨bm,0,none⟩) 2 2 [] [] ls ms [(false,⟨[],[]⟩)] [] [sm1,sm2] w) (hX:Ey.xP 1 1 m 1 1 1 0 [] [] ls ms [(false,⟨[],[]⟩)] [] [sm1,sm2]) (hI:Bw n 1 1 [] [(false,⟨[],[]⟩)] ls [] [sm1,sm2] st) :
  Calls Tryz.prog 10 #[zh #[U zd m,O none 0 0,O none 0 0,O (some ⟨bi,0,none⟩) 1 1,O (some ⟨bo,0,none⟩) 1 1,O (some ⟨bv,0,none⟩) 1 1,O none 0 0,O (some ⟨bm,0,none⟩) 2 2]] w fun e w'=>e=zk (zm #[zg (decide (BO n 1 1 [] [] st.vs st.fs [(false,⟨[],[]⟩)] ls ms [] [sm1,sm2]=[])),U zd 0])/\Ov w w':=by
 refine (Nk 1 1 m none 0 0 none 0 0 (some ⟨bi,0,none⟩) 1 1 (some ⟨bo,0,none⟩) 1 1 (some ⟨bv,0,none⟩) 1 1 none 0 0 (some ⟨bm,0,none⟩) 2 2 [] [] ls ms [(false,⟨[],[]⟩)] [] [sm1,sm2] w hP (fun why=>why=0 ↔ Ey.xP 1 1 m 1 1 1 0 [] [] ls ms [(false,⟨[],[]⟩)] [] [sm1,sm2]) (fun W hW=>Ey.scopeCheck_any 1 1 m none 0 0 none 0 0 (some ⟨bi,0,none⟩) 1 1 (some ⟨bo,0,none⟩) 1 1 (some ⟨bv,0,none⟩) 1 1 none 0 0 (some ⟨bm,0,none⟩) 2 2 [] [] ls ms [(false,⟨[],[]⟩)] [] [sm1,sm2] W (hP.over hW)) (fun h=>(h.1 rfl).ok) (fun h=>by have:=(h.1 rfl).lim.2.2.2.2;simpa using this)).mono ?_
 rintro e w' ⟨why,hw,hb,⟨hne,-⟩ | ⟨-,-,n',st',hn,rfl,hi,-⟩⟩
 ·exact absurd (hw.2 hX) hne
 ·obtain rfl:n'=n:=by omega
  obtain rfl:=Ej hI hi
  exact ⟨rfl,hb⟩
theorem I7 {m:Int} {bi bo bv bm:Nat} {ls ms:List Lab} {w:World} {n:Nat} {st:ISt} (hm:m=n) (hP:BC 1 1 m none 0 0 none 0 0 (some ⟨bi,0,none⟩) 1 1 (some ⟨bo,0,none⟩) 1 1 (some ⟨bv,0,none⟩) 1 1 none 0 0 (some ⟨bm,0,none⟩) 2 2 [] [] ls ms [(false,⟨[],[]⟩)] [] [sm1,sm2] w) (hX:Ey.xP 1 1 m 1 1 1 0 [] [] ls ms [(false,⟨[],[]⟩)] [] [sm1,sm2]) (hI:Bw n 1 1 [] [(false,⟨[],[]⟩)] ls [] [sm1,sm2] st) :
  Calls Tryz.prog 35 #[zh #[U zd m,O none 0 0,O none 0 0,O (some ⟨bi,0,none⟩) 1 1,O (some ⟨bo,0,none⟩) 1 1,O (some ⟨bv,0,none⟩) 1 1,O none 0 0,O (some ⟨bm,0,none⟩) 2 2]] w fun e w'=>∃ fv B,e=zk (zm #[fv,U zd 0])/\w'.ownsRow B 89 2 fv (BO n 1 1 [] [] st.vs st.fs [(false,⟨[],[]⟩)] ls ms [] [sm1,sm2]).length (Du (BO n 1 1 [] [] st.vs st.fs [(false,⟨[],[]⟩)] ls ms [] [sm1,sm2]))/\Ov w w':=by
 refine (JJ 1 1 m none 0 0 none 0 0 (some ⟨bi,0,none⟩) 1 1 (some ⟨bo,0,none⟩) 1 1 (some ⟨bv,0,none⟩) 1 1 none 0 0 (some ⟨bm,0,none⟩) 2 2 [] [] ls ms [(false,⟨[],[]⟩)] [] [sm1,sm2] w hP (fun why=>why=0 ↔ Ey.xP 1 1 m 1 1 1 0 [] [] ls ms [(false,⟨[],[]⟩)] [] [sm1,sm2]) (fun W hW=>Ey.scopeCheck_any 1 1 m none 0 0 none 0 0 (some ⟨bi,0,none⟩) 1 1 (some ⟨bo,0,none⟩) 1 1 (some ⟨bv,0,none⟩) 1 1 none 0 0 (some ⟨bm,0,none⟩) 2 2 [] [] ls ms [(false,⟨[],[]⟩)] [] [sm1,sm2] W (hP.over hW)) (fun h=>(h.1 rfl).ok) (fun h=>by have:=(h.1 rfl).lim.2.2.2.2;simpa using this)).mono ?_
 rintro e w' ⟨why,hw,hb,⟨hne,-⟩ | ⟨-,-,n',st',fv,B,hn,rfl,hi,-,-,-,-,-,ho⟩⟩
 ·exact absurd (hw.2 hX) hne
 ·obtain rfl:n'=n:=by omega
  obtain rfl:=Ej hI hi
  exact ⟨fv,B,rfl,ho,hb⟩
theorem NJ (w:World):Calls Tryz.prog 38 #[] w fun e w'=>∃ bi bo bv bm,e=zk (DH bi bo bv bm)/\DS bi bo bv bm w'/\Ov w w'/\(w.heap.size < bi/\bi < bo/\bo < bv/\bv < bm/\bm < w'.heap.size)/\(∀ j,w'.frozen? ⟨bi,j,none⟩=false)/\∀ j,w'.frozen? ⟨bo,j,none⟩=false:=by
 go_enter Tryz.func38,Tryz.ntmps38
 go_wp2_with fail
 have hbr:=fun (W:World) (o:Obj)=>bA W o
 refine bodyPost_ret (v:=DH (w.heap.size+1) (w.heap.size+1+1) (w.heap.size+1+1+1) (w.heap.size+1+1+1+1)) (by simp [results,Tryz.results38,go_sem]) rfl ⟨_,_,_,_,rfl,⟨?_,?_,?_,?_⟩,?_,?_,?_,?_⟩
 ·exact CG rfl (by simp) (Ac (Ac (hbr _ _) (hbr _ _)) (hbr _ _))
 ·exact CG rfl (by simp) (Ac (hbr _ _) (hbr _ _))
 ·exact CG rfl (by simp) (hbr _ _)
 ·exact CG rfl (by simp) (Below.refl _ _)
 ·exact Ac (Ac (Ac (Ac (hbr _ _) (hbr _ _)) (hbr _ _)) (hbr _ _)) (hbr _ _)
 ·refine ⟨by omega,by omega,by omega,by omega,by simp⟩
 ·intro j
  simp [go_sem]
 ·intro j
  simp [go_sem]
theorem Iy:Bw 1 1 1 [] [(false,⟨[],[]⟩)] [⟨[],[]⟩] [] [sm1,sm2] ⟨[⟨[true],[true]⟩],[],false⟩:=⟨1,by rfl,rfl,fun j hj=>by
 have:j=0:=by omega
 subst this
 rfl⟩
theorem FH (w:World):Calls Tryz.prog 11 #[] w fun e w'=>e=zk (zg true)/\Ov w w':=by
 have KS:=Aa NJ
 have KB:=Aa Jm
 go_enter Tryz.func11,Tryz.ntmps11
 go_wp2_with fail
 refine (KS.o _).mono ?_
 rintro e w1 ⟨bi,bo,bv,bm,rfl,hS,hb1,-,-,-⟩
 have KF:=Aa (FW (m:=1) rfl (CP hS) CS (st:=⟨[⟨[true],[true]⟩],[],false⟩) Iy)
 rw [JU] at KF
 have HB1:=Aa hb1
 clear hS hb1
 unfold DH
 go_wp2_with fail
 refine (KF.o).mono ?_
 rintro e w2 ⟨rfl,hb2⟩
 have HB2:=Aa (HB1.o.trans (hb2.mono HB1.o.size))
 clear hb2 KF
 go_wp2_with fail
 refine (KS.o _).mono ?_
 rintro e w3 ⟨bi,bo,bv,bm,rfl,hS,hb3,⟨l0,l1,l2,l3,l4⟩,zi,zo⟩
 have HB3:=Aa (HB2.o.trans (hb3.mono HB2.o.size))
 obtain ⟨c0,c1⟩:=rc2 hS.ins
 obtain ⟨d0,d1⟩:=rc2 hS.outs
 have z0:=zi 0
 have y1:=zo 1
 have b1:bi < w3.heap.size:=by omega
 have b2:bo < w3.heap.size:=by omega
 have n1:bi≠bo:=by omega
 have n2:bo≠bi:=by omega
 have n3:bi≠w3.heap.size:=by omega
 have n4:bo≠w3.heap.size:=by omega
 have n5:bi≠w3.heap.size+1:=by omega
 have n6:bo≠w3.heap.size+1:=by omega
 have n7:bi≠w3.heap.size+1+1:=by omega
 have n8:bo≠w3.heap.size+1+1:=by omega
 have hO4:Ov (w3.setCell ⟨bo,1,none⟩ (O (some ⟨w3.heap.size+1,0,none⟩) 1 1)) ((((w3.setCell ⟨bo,1,none⟩ (O (some ⟨w3.heap.size+1,0,none⟩) 1 1)).alloc (ze #[U zd 1,O none 0 0,O none 0 0,O (some ⟨bi,0,none⟩) 1 1,O (some ⟨bo,0,none⟩) 1 1,O (some ⟨bv,0,none⟩) 1 1,O none 0 0,O (some ⟨bm,0,none⟩) 2 2] 31)).alloc (ze #[U zd 0,O none 0 0] 87)).alloc (ze #[U zd 0,O none 0 0] 87)):=((bA _ _).trans ((bA _ _).mono (by simp))).trans ((bA _ _).mono (by simp;omega))
 have g0:((((w3.setCell ⟨bo,1,none⟩ (O (some ⟨w3.heap.size+1,0,none⟩) 1 1)).alloc (ze #[U zd 1,O none 0 0,O none 0 0,O (some ⟨bi,0,none⟩) 1 1,O (some ⟨bo,0,none⟩) 1 1,O (some ⟨bv,0,none⟩) 1 1,O none 0 0,O (some ⟨bm,0,none⟩) 2 2] 31)).alloc (ze #[U zd 0,O none 0 0] 87)).alloc (ze #[U zd 0,O none 0 0] 87)).cell? ⟨bi,0,none⟩=some (O none 0 0):=((hS.ins.other (b':=bo) (j:=1) (v:=(O (some ⟨w3.heap.size+1,0,none⟩) 1 1)) n1).over hO4) 0 _ rfl
 have g1:((((w3.setCell ⟨bo,1,none⟩ (O (some ⟨w3.heap.size+1,0,none⟩) 1 1)).alloc (ze #[U zd 1,O none 0 0,O none 0 0,O (some ⟨bi,0,none⟩) 1 1,O (some ⟨bo,0,none⟩) 1 1,O (some ⟨bv,0,none⟩) 1 1,O none 0 0,O (some ⟨bm,0,none⟩) 2 2] 31)).alloc (ze #[U zd 0,O none 0 0] 87)).alloc (ze #[U zd 0,O none 0 0] 87)).frozen? ⟨bi,0,none⟩=false:=((Ap hO4).2 bi 0 (by simpa [World.setCell] using b1)).trans (A8.trans z0)
 have hrP:Ae [U zd 1,O none 0 0,O none 0 0,O (some ⟨bi,0,none⟩) 1 1,O (some ⟨bo,0,none⟩) 1 1,O (some ⟨bv,0,none⟩) 1 1,O none 0 0,O (some ⟨bm,0,none⟩) 2 2] (((((w3.setCell ⟨bo,1,none⟩ (O (some ⟨w3.heap.size+1,0,none⟩) 1 1)).alloc (ze #[U zd 1,O none 0 0,O none 0 0,O (some ⟨bi,0,none⟩) 1 1,O (some ⟨bo,0,none⟩) 1 1,O (some ⟨bv,0,none⟩) 1 1,O none 0 0,O (some ⟨bm,0,none⟩) 2 2] 31)).alloc (ze #[U zd 0,O none 0 0] 87)).alloc (ze #[U zd 0,O none 0 0] 87)).setCell ⟨bi,0,none⟩ (O (some ⟨w3.heap.size+1+1,0,none⟩) 1 1)) w3.heap.size:=by
  have:=((Ae.newA #[U zd 1,O none 0 0,O none 0 0,O (some ⟨bi,0,none⟩) 1 1,O (some ⟨bo,0,none⟩) 1 1,O (some ⟨bv,0,none⟩) 1 1,O none 0 0,O (some ⟨bm,0,none⟩) 2 2] 31 (w3.setCell ⟨bo,1,none⟩ (O (some ⟨w3.heap.size+1,0,none⟩) 1 1))).over (bA _ (ze #[U zd 0,O none 0 0] 87))).over (bA _ (ze #[U zd 0,O none 0 0] 87))
  exact (show Ae [U zd 1,O none 0 0,O none 0 0,O (some ⟨bi,0,none⟩) 1 1,O (some ⟨bo,0,none⟩) 1 1,O (some ⟨bv,0,none⟩) 1 1,O none 0 0,O (some ⟨bm,0,none⟩) 2 2] ((((w3.setCell ⟨bo,1,none⟩ (O (some ⟨w3.heap.size+1,0,none⟩) 1 1)).alloc (ze #[U zd 1,O none 0 0,O none 0 0,O (some ⟨bi,0,none⟩) 1 1,O (some ⟨bo,0,none⟩) 1 1,O (some ⟨bv,0,none⟩) 1 1,O none 0 0,O (some ⟨bm,0,none⟩) 2 2] 31)).alloc (ze #[U zd 0,O none 0 0] 87)).alloc (ze #[U zd 0,O none 0 0] 87)) w3.heap.size by simpa [World.setCell] using this).other (b':=bi) (j:=0) (v:=(O (some ⟨w3.heap.size+1+1,0,none⟩) 1 1)) (by omega)
 have hp1:Ae [U zd 0,O none 0 0] (((((w3.setCell ⟨bo,1,none⟩ (O (some ⟨w3.heap.size+1,0,none⟩) 1 1)).alloc (ze #[U zd 1,O none 0 0,O none 0 0,O (some ⟨bi,0,none⟩) 1 1,O (some ⟨bo,0,none⟩) 1 1,O (some ⟨bv,0,none⟩) 1 1,O none 0 0,O (some ⟨bm,0,none⟩) 2 2] 31)).alloc (ze #[U zd 0,O none 0 0] 87)).alloc (ze #[U zd 0,O none 0 0] 87)).setCell ⟨bi,0,none⟩ (O (some ⟨w3.heap.size+1+1,0,none⟩) 1 1)) (w3.heap.size+1):=by
  have:=(Ae.newA #[U zd 0,O none 0 0] 87 ((w3.setCell ⟨bo,1,none⟩ (O (some ⟨w3.heap.size+1,0,none⟩) 1 1)).alloc (ze #[U zd 1,O none 0 0,O none 0 0,O (some ⟨bi,0,none⟩) 1 1,O (some ⟨bo,0,none⟩) 1 1,O (some ⟨bv,0,none⟩) 1 1,O none 0 0,O (some ⟨bm,0,none⟩) 2 2] 31))).over (bA _ (ze #[U zd 0,O none 0 0] 87))
  exact (show Ae [U zd 0,O none 0 0] ((((w3.setCell ⟨bo,1,none⟩ (O (some ⟨w3.heap.size+1,0,none⟩) 1 1)).alloc (ze #[U zd 1,O none 0 0,O none 0 0,O (some ⟨bi,0,none⟩) 1 1,O (some ⟨bo,0,none⟩) 1 1,O (some ⟨bv,0,none⟩) 1 1,O none 0 0,O (some ⟨bm,0,none⟩) 2 2] 31)).alloc (ze #[U zd 0,O none 0 0] 87)).alloc (ze #[U zd 0,O none 0 0] 87)) (w3.heap.size+1) by simpa [World.setCell] using this).other (b':=bi) (j:=0) (v:=(O (some ⟨w3.heap.size+1+1,0,none⟩) 1 1)) (by omega)
 have hp2:Ae [U zd 0,O none 0 0] (((((w3.setCell ⟨bo,1,none⟩ (O (some ⟨w3.heap.size+1,0,none⟩) 1 1)).alloc (ze #[U zd 1,O none 0 0,O none 0 0,O (some ⟨bi,0,none⟩) 1 1,O (some ⟨bo,0,none⟩) 1 1,O (some ⟨bv,0,none⟩) 1 1,O none 0 0,O (some ⟨bm,0,none⟩) 2 2] 31)).alloc (ze #[U zd 0,O none 0 0] 87)).alloc (ze #[U zd 0,O none 0 0] 87)).setCell ⟨bi,0,none⟩ (O (some ⟨w3.heap.size+1+1,0,none⟩) 1 1)) (w3.heap.size+1+1):=by
  have:=Ae.newA #[U zd 0,O none 0 0] 87 (((w3.setCell ⟨bo,1,none⟩ (O (some ⟨w3.heap.size+1,0,none⟩) 1 1)).alloc (ze #[U zd 1,O none 0 0,O none 0 0,O (some ⟨bi,0,none⟩) 1 1,O (some ⟨bo,0,none⟩) 1 1,O (some ⟨bv,0,none⟩) 1 1,O none 0 0,O (some ⟨bm,0,none⟩) 2 2] 31)).alloc (ze #[U zd 0,O none 0 0] 87))
  exact (show Ae [U zd 0,O none 0 0] ((((w3.setCell ⟨bo,1,none⟩ (O (some ⟨w3.heap.size+1,0,none⟩) 1 1)).alloc (ze #[U zd 1,O none 0 0,O none 0 0,O (some ⟨bi,0,none⟩) 1 1,O (some ⟨bo,0,none⟩) 1 1,O (some ⟨bv,0,none⟩) 1 1,O none 0 0,O (some ⟨bm,0,none⟩) 2 2] 31)).alloc (ze #[U zd 0,O none 0 0] 87)).alloc (ze #[U zd 0,O none 0 0] 87)) (w3.heap.size+1+1) by simpa [World.setCell] using this).other (b':=bi) (j:=0) (v:=(O (some ⟨w3.heap.size+1+1,0,none⟩) 1 1)) (by omega)
 have hQ:Qq bi bo bv bm (w3.heap.size+1) (w3.heap.size+1+1) (((((w3.setCell ⟨bo,1,none⟩ (O (some ⟨w3.heap.size+1,0,none⟩) 1 1)).alloc (ze #[U zd 1,O none 0 0,O none 0 0,O (some ⟨bi,0,none⟩) 1 1,O (some ⟨bo,0,none⟩) 1 1,O (some ⟨bv,0,none⟩) 1 1,O none 0 0,O (some ⟨bm,0,none⟩) 2 2] 31)).alloc (ze #[U zd 0,O none 0 0] 87)).alloc (ze #[U zd 0,O none 0 0] 87)).setCell ⟨bi,0,none⟩ (O (some ⟨w3.heap.size+1+1,0,none⟩) 1 1)):=⟨((hS.ins.other (b':=bo) (j:=1) (v:=(O (some ⟨w3.heap.size+1,0,none⟩) 1 1)) n1).over hO4).set (j:=0) (v:=(O (some ⟨w3.heap.size+1+1,0,none⟩) 1 1)) (by simp),hp2,((hS.outs.set (j:=1) (v:=(O (some ⟨w3.heap.size+1,0,none⟩) 1 1)) (by simp)).over hO4).other (b':=bi) (j:=0) (v:=(O (some ⟨w3.heap.size+1+1,0,none⟩) 1 1)) n2,hp1,((hS.vars.other (b':=bo) (j:=1) (v:=(O (some ⟨w3.heap.size+1,0,none⟩) 1 1)) (by omega)).over hO4).other (b':=bi) (j:=0) (v:=(O (some ⟨w3.heap.size+1+1,0,none⟩) 1 1)) (by omega),((hS.main.other (b':=bo) (j:=1) (v:=(O (some ⟨w3.heap.size+1,0,none⟩) 1 1)) (by omega)).over hO4).other (b':=bi) (j:=0) (v:=(O (some ⟨w3.heap.size+1+1,0,none⟩) 1 1)) (by omega)⟩
 have hB5:Ov w (((((w3.setCell ⟨bo,1,none⟩ (O (some ⟨w3.heap.size+1,0,none⟩) 1 1)).alloc (ze #[U zd 1,O none 0 0,O none 0 0,O (some ⟨bi,0,none⟩) 1 1,O (some ⟨bo,0,none⟩) 1 1,O (some ⟨bv,0,none⟩) 1 1,O none 0 0,O (some ⟨bm,0,none⟩) 2 2] 31)).alloc (ze #[U zd 0,O none 0 0] 87)).alloc (ze #[U zd 0,O none 0 0] 87)).setCell ⟨bi,0,none⟩ (O (some ⟨w3.heap.size+1+1,0,none⟩) 1 1)):=by
  have h2:=HB2.o.size
  have h3:Ov w (w3.setCell ⟨bo,1,none⟩ (O (some ⟨w3.heap.size+1,0,none⟩) 1 1)):=HB3.o.setCell (show w.heap.size<=bo by omega) _
  exact (h3.trans (hO4.mono h3.size)).setCell (show w.heap.size<=bi by omega) _
 have HQ:=Aa hQ
 have HRP:=Aa hrP
 have HB5:=Aa hB5
 clear hO4 hQ hrP hp1 hp2 hB5
 have HS:=Aa hS
 have HL:=Aa (And.intro l0 (And.intro l1 (And.intro l2 (And.intro l3 l4))))
 clear hS hb3 zi zo l0 l1 l2 l3 l4
 unfold DH
 go_wp2_with fail
 obtain ⟨W5,hW5⟩:=nm (((((w3.setCell ⟨bo,1,none⟩ (O (some ⟨w3.heap.size+1,0,none⟩) 1 1)).alloc (ze #[U zd 1,O none 0 0,O none 0 0,O (some ⟨bi,0,none⟩) 1 1,O (some ⟨bo,0,none⟩) 1 1,O (some ⟨bv,0,none⟩) 1 1,O none 0 0,O (some ⟨bm,0,none⟩) 2 2] 31)).alloc (ze #[U zd 0,O none 0 0] 87)).alloc (ze #[U zd 0,O none 0 0] 87)).setCell ⟨bi,0,none⟩ (O (some ⟨w3.heap.size+1+1,0,none⟩) 1 1))
 rw [<-hW5] at HQ HRP HB5 ⊢
 obtain ⟨bq,hbq⟩:=nm w3.heap.size
 rw [<-hbq] at HQ HRP ⊢
 clear hW5 hbq g0 g1 c0 c1 d0 d1 z0 y1 n1 n2 n3 n4 n5 n6 n7 n8 b1 b2 HS HL HB3 HB2 HB1
 refine (KB.o _).mono ?_
 rintro e w6 ⟨bi2,bo2,bv2,bm2,bp2,rfl,hBad,hb6⟩
 have KF:=Aa (FW (m:=2) rfl (JM hBad) O5 Ip)
 rw [JL] at KF
 have HB6:=Aa (HB5.o.trans (hb6.mono HB5.o.size))
 have HQ6:=Aa (HQ.o.over hb6)
 have HR6:=Aa (HRP.o.over hb6)
 clear hBad hb6 HQ HRP HB5
 unfold MM
 go_wp2_with fail
 refine (KF.o).mono ?_
 rintro e w7 ⟨rfl,hb7⟩
 have HB7:=Aa (HB6.o.trans (hb7.mono HB6.o.size))
 have HQ7:=Aa (HQ6.o.over hb7)
 have HR7:=Aa (HR6.o.over hb7)
 clear hb7 HQ6 HR6 HB6 KF
 go_wp2_with fail
 refine (KB.o _).mono ?_
 rintro e w8 ⟨bi3,bo3,bv3,bm3,bp3,rfl,hBad,hb8⟩
 have KF:=Aa (I7 (m:=2) rfl (JM hBad) O5 Ip)
 rw [JL] at KF
 have HB8:=Aa (HB7.o.trans (hb8.mono HB7.o.size))
 have HQ8:=Aa (HQ7.o.over hb8)
 have HR8:=Aa (HR7.o.over hb8)
 clear hBad hb8 HQ7 HR7 HB7
 unfold MM
 go_wp2_with fail
 refine (KF.o).mono ?_
 rintro e w9 ⟨fv,B,rfl,ho,hb9⟩
 have HB9:=Aa (HB8.o.trans (hb9.mono HB8.o.size))
 have HQ9:=Aa (HQ8.o.over hb9)
 have hr9:=HR8.o.over hb9
 obtain ⟨q0,q1,q2,q3,q4,q5,q6,q7⟩:=rc8 hr9
 have KG:=Aa (FW (m:=1) rfl (OV HQ9.o) qX NQ)
 rw [OU] at KG
 rcases id ho.2 with ⟨-,h0⟩ | ⟨g,cap,cur,rfl,-⟩
 ·exact absurd h0 (by simp)
 have x0:=ho.cells (g:=g) rfl 0 (U zd 1) rfl
 have x1:=ho.cells (g:=g) rfl 1 (U zd 4) rfl
 rw [Addr.add_lit] at x0 x1
 clear hb9 HQ8 HR8 HB8 KF hr9 ho
 go_wp2_with fail
 refine (KG.o).mono ?_
 rintro e w10 ⟨rfl,hb10⟩
 have HB10:=Aa (HB9.o.trans (hb10.mono HB9.o.size))
 obtain ⟨x0,x1⟩:=co2 hb10 x0 x1
 clear hb10 HQ9 HB9 KG q0 q1 q2 q3 q4 q5 q6 q7
 go_wp2_with fail
 go_ret
 exact ⟨rfl,HB10.o⟩
theorem G9 {m:Int} {K:Nat} {d:D} (h:AZ m K d=0):(Bm K d).length<=15:=by
 unfold AZ at h
 split at h
 ·omega
 ·rename_i h1
  have:=Gp K d 15 (by omega) (by omega)
  omega
theorem DN {K nv ni no:Nat} {funcs:Int} {fs:List FnD} {k:Nat}:∀ {l:List D},(∀ s∈l,Ey.xS K nv ni no funcs fs k s)->l.length<=A4 k l/\∀ s∈l,CM k s<=A4 k l
 | [],_=>⟨Nat.le_refl _,fun s hs=>by cases hs⟩
 | d::l,h=>by
  have h1:=DN (l:=l) (fun s hs=>h s (List.mem_cons_of_mem _ hs))
  have h2:1<=CM k d:=by
   have:=h d (List.mem_cons_self ..)
   cases k with
   | zero=>exact this.elim
   | succ k=>unfold CM;omega
  have e:A4 k (d::l)=CM k d+A4 k l:=by simp [A4]
  rw [e]
  refine ⟨by simp only [List.length_cons];omega,fun s hs=>?_⟩
  rcases List.mem_cons.1 hs with rfl | hs
  ·omega
  ·have:=h1.2 s hs
   omega
theorem Jz {K nv ni no:Nat} {funcs:Int} {fs:List FnD} (hfn:funcs<=fs.length) (hps:∀ f∈fs,f.ps.length<=4):∀ (k:Nat) (d:D),Ey.xS K nv ni no funcs fs k d->CM k d<=50->smS K k d
 | 0,d,h,_=>h.elim
 | k+1,d,h,hc=>by
  obtain ⟨⟨h1,hz⟩,hT,hE⟩:=h
  have cT:=DN hT
  have cE:=DN hE
  have e:CM (k+1) d=1+A4 k (Ar d)+A4 k (Av d):=rfl
  have hargs:(An d).length<=15:=by
   by_cases h2:Ak d=2
   ·obtain ⟨ho,hl,-⟩:=h1.2.2.1 h2
    have hlt:(Ag d).toNat < fs.length:=by omega
    have:=hl _ (List.getElem?_eq_getElem hlt)
    have:=hps _ (List.getElem_mem hlt)
    omega
   ·rw [hz.2.2.2.1 h2]
    simp
  refine ⟨?_,hargs,fun a ha=>?_,by omega,by omega,fun x hx=>Jz hfn hps k x (hT x hx) (by have:=cT.2 x hx;omega),fun x hx=>Jz hfn hps k x (hE x hx) (by have:=cE.2 x hx;omega)⟩
  ·by_cases h23:Ak d=2\/Ak d=3
   ·have hk:=h1.2.2.2.2.2.1 h23
    cases K with
    | zero=>simp [Bm]
    | succ K=>simp [Bm,hk.2]
   ·exact G9 (h1.2.2.2.2.1 (by have:=h1.1;omega))
  ·by_cases h2:Ak d=2
   ·exact G9 ((h1.2.2.1 h2).2.2 a ha)
   ·rw [hz.2.2.2.1 h2] at ha
    cases ha
theorem Im {kf:Nat}:∀ {fs:List FnD} {f:FnD},f∈fs->A4 kf f.body<=B5 kf fs
 | g::fs,f,h=>by
  have e:B5 kf (g::fs)=A4 kf g.body+B5 kf fs:=by simp [B5]
  rw [e]
  rcases List.mem_cons.1 h with rfl | h
  ·omega
  ·have:=Im (kf:=kf) h
   omega
theorem NN {K kf:Nat} {m:Int} {vn yn on sn:Nat} {gs:List (Int × Int)} {sp:List Int} {ls ms:List Lab} {vs:List (Bool × Lab)} {fs:List FnD} {l:List D} (hX:Ey.xP K kf m vn yn on sn gs sp ls ms vs fs l) (hv:vn=vs.length) (hy:yn=ls.length) (ho:on=ms.length) (hs:sn=sp.length):smP K kf gs sp ls ms vs fs l:=by
 obtain ⟨n,hn,h1,h6,hg,h20,-⟩:=DQ hX.chk
 have hlim:=hX.lim
 have hm:=hX.many.1
 have hps:∀ f∈fs,f.ps.length<=4:=fun f hf=>by
  obtain ⟨i,hi,rfl⟩:=List.getElem_of_mem hf
  exact (hX.body i hi).1
 have lab:∀ b,Bq m gs b=0->(b.r.length<=4/\b.w.length<=4)/\(∀ p∈b.r,p.names.length<=6)/\∀ p∈b.w,p.names.length<=6:=fun b hb=>by
  obtain ⟨n',-,-,-,-,-,-,hin,-⟩:=JC hb
  exact ⟨⟨hin.1.1,hin.2.1⟩,fun p hp=>(hin.1.2 p hp).2.1,fun p hp=>(hin.2.2 p hp).2.1⟩
 have cM:=DN hX.main
 refine ⟨?_,by omega,by omega,by omega,by omega,by omega,fun b hb=>?_,fun f hf=>?_,by omega,fun d hd=>Jz (Int.le_refl _) hps kf d (hX.main d hd) (by have:=cM.2 d hd;omega)⟩
 ·have:(AB gs).length=gs.length:=by simp [AB]
  omega
 ·rcases hb with hb | hb | hb
  ·exact lab b (hX.labs.1 b (List.mem_append_left _ hb))
  ·exact lab b (hX.labs.1 b (List.mem_append_right _ hb))
  ·obtain ⟨v,hv,rfl⟩:=List.mem_map.1 hb
   exact lab _ (hX.labs.2.1 v hv)
 ·obtain ⟨i,hi,rfl⟩:=List.getElem_of_mem hf
  obtain ⟨b1,b2,b3,b4,b5⟩:=hX.body i hi
  have cB:=DN b4
  have cF:=Im (kf:=kf) (List.getElem_mem hi)
  exact ⟨by omega,by omega,fun d hd=>Jz (by omega) hps kf d (b4 d hd) (by have:=cB.2 d hd;omega),G9 b5⟩
structure VI (g n j:Nat) (w wr:World):Prop where
 c:∀ k,k < n*3->∃ u,wr.cell? ⟨g,k,none⟩=some u
 z:∀ k,k < j->wr.cell? ⟨g,k*3,none⟩=some (zg false)/\wr.cell? ⟨g,k*3+1,none⟩=some (O none 0 0)/\wr.cell? ⟨g,k*3+2,none⟩=some (O none 0 0)
 f:∀ k,wr.frozen? ⟨g,k,none⟩=false
 o:∀ k,k≠g->wr.heap[k]? = w.heap[k]?
 s:wr.heap.size=w.heap.size
 os:wr.os=w.os
 t:wr.tape=w.tape
 p:wr.output=w.output
def Fg (w:World) (g i:Nat) (x y v:Value):World:=((w.setCell ⟨g,i,none⟩ x).setCell ⟨g,i+1,none⟩ y).setCell ⟨g,i+2,none⟩ v
theorem Dl {w:World} {g i k:Nat} {x y v:Value} (h:k < i\/i+2 < k):(Fg w g i x y v).cell? ⟨g,k,none⟩=w.cell? ⟨g,k,none⟩:=by
 unfold Fg
 rw [World.cell?_setCell_other _ _ _ _ (by intro e;injection e with _ e;omega),World.cell?_setCell_other _ _ _ _ (by intro e;injection e with _ e;omega),World.cell?_setCell_other _ _ _ _ (by intro e;injection e with _ e;omega)]
theorem JW {w:World} {g i:Nat} {x y v:Value} (h:∀ k,i<=k->k<=i+2->∃ u,w.cell? ⟨g,k,none⟩=some u):(Fg w g i x y v).cell? ⟨g,i,none⟩=some x/\(Fg w g i x y v).cell? ⟨g,i+1,none⟩=some y/\(Fg w g i x y v).cell? ⟨g,i+2,none⟩=some v:=by
 obtain ⟨u0,h0⟩:=h i (by omega) (by omega)
 obtain ⟨u1,h1⟩:=h (i+1) (by omega) (by omega)
 obtain ⟨u2,h2⟩:=h (i+2) (by omega) (by omega)
 unfold Fg
 refine ⟨?_,?_,?_⟩
 ·rw [World.cell?_setCell_other _ _ _ _ (by intro e;injection e with _ e;omega),World.cell?_setCell_other _ _ _ _ (by intro e;injection e with _ e;omega)]
  exact World.cell?_setCell_same _ _ _ h0
 ·rw [World.cell?_setCell_other _ _ _ _ (by intro e;injection e with _ e;omega)]
  exact World.cell?_setCell_same _ _ _ (u:=u1) (by rw [World.cell?_setCell_other _ _ _ _ (by intro e;injection e with _ e;omega)];exact h1)
 ·exact World.cell?_setCell_same _ _ _ (u:=u2) (by rw [World.cell?_setCell_other _ _ _ _ (by intro e;injection e with _ e;omega),World.cell?_setCell_other _ _ _ _ (by intro e;injection e with _ e;omega)];exact h2)
theorem VI.step {g n j:Nat} {w wr:World} (h:VI g n j w wr) (hj:j < n):VI g n (j+1) w (Fg wr g (j*3) (zg false) (O none 0 0) (O none 0 0)):=by
 have h3:=JW (w:=wr) (g:=g) (i:=j*3) (x:=zg false) (y:=O none 0 0) (v:=O none 0 0) (fun k h1 h2=>h.c k (by omega))
 refine ⟨fun k hk=>?_,fun k hk=>?_,fun k=>?_,fun k hk=>?_,?_,h.os,h.t,h.p⟩
 ·by_cases hc:k < j*3\/j*3+2 < k
  ·rw [Dl hc]
   exact h.c k hk
  ·obtain rfl | rfl | rfl:k=j*3\/k=j*3+1\/k=j*3+2:=by omega
   ·exact ⟨_,h3.1⟩
   ·exact ⟨_,h3.2.1⟩
   ·exact ⟨_,h3.2.2⟩
 ·by_cases hc:k=j
  ·subst hc
   exact h3
  ·obtain ⟨a,b,c⟩:=h.z k (by omega)
   exact ⟨by rw [Dl (by omega)];exact a,by rw [Dl (by omega)];exact b,by rw [Dl (by omega)];exact c⟩
 ·unfold Fg
  simp only [World.frozen?_setCell]
  exact h.f k
 ·unfold Fg
  rw [Bk (Ne.symm hk),Bk (Ne.symm hk),Bk (Ne.symm hk)]
  exact h.o k hk
 ·have:(Fg wr g (j*3) (zg false) (O none 0 0) (O none 0 0)).heap.size=wr.heap.size:=by simp [Fg,World.setCell]
  rw [this]
  exact h.s
theorem VI.start {g n B cap:Nat} {w:World} {xs:List Value} (h:w.ownsRow B 41 3 (O (some ⟨g,0,none⟩) n cap) n xs):VI g n 0 w w/\B<=g/\g < w.heap.size:=by
 obtain ⟨hl,⟨h,-⟩ | ⟨g',cap',cur,hv,hb,hh,hn,hm,hs,ht⟩⟩:=h
 ·cases h
 ·injection hv with hv
  injection hv with hv
  injection hv with hv
  subst hv
  have hlt:=(Array.getElem?_eq_some_iff.1 hh).1
  refine ⟨⟨fun k hk=>?_,fun k hk=>absurd hk (Nat.not_lt_zero _),fun k=>?_,fun _ _=>rfl,rfl,rfl,rfl,rfl⟩,hb,hlt⟩
  ·have h1:n*3<=cap' * 3:=by omega
   have:k < cur.size:=by omega
   exact ⟨cur[k],by simp [World.cell?,hh,this]⟩
  ·simp [World.frozen?,hh]
theorem VI.below {g n j:Nat} {w0 w wr:World} (h:VI g n j w wr) (hb:Ov w0 w) (hg:w0.heap.size<=g):Ov w0 wr:=
 ⟨h.os.trans hb.os,h.t.trans hb.tape,h.p.trans hb.output,by rw [h.s];exact hb.size,fun k hk=>(h.o k (by omega)).trans (hb.block k hk)⟩
theorem VI.vars {g n cap:Nat} {w wr:World} (h:VI g n n w wr) (hn:n<=maxLen):Bo wr (O (some ⟨g,0,none⟩) n cap) (List.replicate n (false,⟨[],[]⟩)):=by
 refine ⟨by simpa using hn,_,cap,by simp,fun _=>⟨g,0,rfl,fun i hi=>?_⟩⟩
 have hi':i < n:=by simpa using hi
 obtain ⟨a,b,c⟩:=h.z i hi'
 refine ⟨O none 0 0,O none 0 0,?_,?_,?_,?_,?_⟩
 ·simpa using a
 ·simpa using b
 ·simpa using c
 ·simp only [List.getElem_replicate]
  exact ⟨none,0,rfl,fun h=>absurd rfl h⟩
 ·simp only [List.getElem_replicate]
  exact ⟨none,0,rfl,fun h=>absurd rfl h⟩
theorem JN {K kf:Nat} {m:Int} {vn yn on sn:Nat} {gs:List (Int × Int)} {sp:List Int} {ls ms:List Lab} {vs:List (Bool × Lab)} {fs:List FnD} {l:List D} (k:Nat) (h:Ey.xP K kf m vn yn on sn gs sp ls ms vs fs l):Ey.xP K kf m vn yn on sn gs sp ls ms (List.replicate k (false,⟨[],[]⟩)) fs l:=by
 obtain ⟨n,hn,h1,h6,-⟩:=DQ h.chk
 refine ⟨h.chk,h.lim,h.speak,⟨h.labs.1,fun v hv=>?_,fun v hv _=>?_⟩,h.many,h.body,h.main⟩
 ·rw [(List.mem_replicate.1 hv).2]
  unfold Bq
  rw [if_pos h.chk]
  rfl
 ·rw [(List.mem_replicate.1 hv).2]
  exact ⟨rfl,rfl⟩
end Go.Proofs.YtfffpjkcfnekaaaGreat.Ex
